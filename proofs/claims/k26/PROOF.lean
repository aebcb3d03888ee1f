import PyProof.Rows.All
import Wide.All
import OpenK.AllK
import Wide.FinOn
import Lean
import PyProof.EqAt
import PyProof.EqKinds
import PyProof.TupleCall
import PyProof.StationsW
import OpenK.KCls
import OpenK.KDescr
import OpenK.KWalk
import PyProof.ExcAttrAll.ValueError
import OpenK.KMake
import PyProof.InstStoreFacts
import PyProof.ExcClass3
import PyProof.StrBlockI
import PyProof.StrBlock2
import PyProof.StrLawsIn
import PyProof.StrLawsIdx
import PyProof.Rows.ReprOcc
import KE.IntTextLaws
import PyProof.ListRange
import PyProof.Rows.Range3
import KE.KStateDown
import PyProof.MaxThree
import PyProof.Claim2
import PyProof.CompFree
import PyProof.CompUse
import PyProof.ListNew
import PyProof.WalksMore
import PyProof.ReprLoop
import KE.KRevIter
import PySem.PyData
import PyProof.SumAny
import PyProof.Rows.SumGenD
import KE.KSortKey
import KE.KLam
import KE.KNestM
import KE.KDictLaws
import KE.KItemsList
import PyProof.ZipIter
import PyProof.SeqI3
import PyProof.WalkInts
import KE.KxText
import PySem.Challenge.RW_leadersplice_k26_whole_all_cuttings
set_option Elab.async false
set_option Elab.async false
set_option linter.all false
set_option maxRecDepth 100000
/-! THE HAND LAYER, for ints, bools, texts, own classes, LISTS and tuples (index, slices, in, append, pop ..), calls, loops. Paste it whole ahead of your own text; what your proof does not reach may be deleted. -/
namespace L2
open PySem PySem.Spec PyProof.Rows

/-- a key: an int or a str -/
abbrev Key := Sum Int Str
def keyIs : Key → Value → Bool
  | .inl k, v => Value.isInt k v
  | .inr x, v => Value.isStrOf x v
def keyH (w : World) : Key → Int
  | .inl k => hashInt k
  | .inr x => hashStr w x
theorem keyIs_shape : ∀ {k : Key} {v : Value}, keyIs k v = true → (∃ i t, k = Sum.inl i ∧ v = Value.int i t) ∨ (∃ x t, k = Sum.inr x ∧ v = Value.str x t)
  | .inl i, v, h => by
    obtain ⟨t, e⟩ := Value.isInt_shape (k := i) (v := v) h
    exact .inl ⟨i, t, rfl, e⟩
  | .inr x, v, h => by
    obtain ⟨t, e⟩ := Value.isStrOf_shape (x := x) (v := v) h
    exact .inr ⟨x, t, rfl, e⟩
theorem keyIs_int (i : Int) (t : Tok) : keyIs (.inl i) (.int i t) = true := by simp [keyIs, Value.isInt]
theorem keyIs_str (x : Str) (t : Tok) : keyIs (.inr x) (.str x t) = true := by simp [keyIs, Value.isStrOf]
theorem key_ll (a b : Int) : decide ((Sum.inl a : Key) = Sum.inl b) = (a == b) := by
  by_cases e : a = b
  · subst e; simp
  · have h : ¬ (Sum.inl a : Key) = Sum.inl b := fun q => e (Sum.inl.inj q)
    rw [decide_eq_false h]
    exact (beq_eq_false_iff_ne.mpr e).symm
theorem key_rr (a b : Str) : decide ((Sum.inr a : Key) = Sum.inr b) = decide (a = b) := by
  by_cases e : a = b
  · subst e; simp
  · have h : ¬ (Sum.inr a : Key) = Sum.inr b := fun q => e (Sum.inr.inj q)
    rw [decide_eq_false h, decide_eq_false e]
theorem key_lr (a : Int) (b : Str) : decide ((Sum.inl a : Key) = Sum.inr b) = false := decide_eq_false (fun q => nomatch q)
theorem key_rl (a : Str) (b : Int) : decide ((Sum.inr a : Key) = Sum.inl b) = false := decide_eq_false (fun q => nomatch q)

def mixKind (prog : Program) (w : World) : PySem.KeyKind prog w Key where
  is := keyIs
  hash := keyH w
  inj := fun v a b ha hb => by
    rcases keyIs_shape ha with ⟨i, t, rfl, rfl⟩ | ⟨x, t, rfl, rfl⟩
    · rcases keyIs_shape hb with ⟨j, u, rfl, e⟩ | ⟨y, u, rfl, e⟩
      · injection e with e1 _; rw [e1]
      · exact nomatch e
    · rcases keyIs_shape hb with ⟨j, u, rfl, e⟩ | ⟨y, u, rfl, e⟩
      · exact nomatch e
      · injection e with e1 _; rw [e1]
  byValue := fun k v h => by
    rcases keyIs_shape h with ⟨i, t, rfl, rfl⟩ | ⟨x, t, rfl, rfl⟩ <;> rfl
  pyHash := fun hv h => by
    rcases keyIs_shape hv with ⟨i, t, rfl, rfl⟩ | ⟨x, t, rfl, rfl⟩
    · exact wpAny_pyHash_int h
    · exact wpAny_pyHash_str h
  eqBool := fun hu hv h => by
    rcases keyIs_shape hu with ⟨i, t, rfl, rfl⟩ | ⟨x, t, rfl, rfl⟩
    · rcases keyIs_shape hv with ⟨j, u, rfl, rfl⟩ | ⟨y, u, rfl, rfl⟩
      · rw [key_ll] at h; exact wpAny_eqBool_int h
      · rw [key_lr] at h; exact SeqAt.EqAt.int_str i t y u _ _ _ _ h
    · rcases keyIs_shape hv with ⟨j, u, rfl, rfl⟩ | ⟨y, u, rfl, rfl⟩
      · rw [key_rl] at h; exact SeqAt.EqAt.str_int x t j u _ _ _ _ h
      · rw [key_rr] at h; exact wpAny_eqBool_str h
  «strs» := fun k x t v h => by
    rcases keyIs_shape h with ⟨i, u, rfl, e⟩ | ⟨y, u, rfl, e⟩
    · exact nomatch e
    · injection e with e1 _
      subst e1
      cases v <;> rfl

theorem mixKind_int (prog : Program) (w : World) (i : Int) (t : Tok) : (mixKind prog w).is (.inl i) (.int i t) = true := keyIs_int i t
theorem mixKind_str (prog : Program) (w : World) (x : Str) (t : Tok) : (mixKind prog w).is (.inr x) (.str x t) = true := keyIs_str x t
end L2

namespace L2
open PySem PySem.Spec PyProof.Rows

/-- a value, without the heap -/
inductive V where
  | non | bl (b : Bool) | int (i : Int) | str (x : Str) | byt (b : Array UInt8) | flt (b : UInt64) | ref (a : Addr) | ty (n : String)
  deriving DecidableEq

def RelV : V → Value → Prop
  | .non, u => u = Value.none
  | .bl b, u => u = Value.bool b
  | .int i, u => ∃ t, u = Value.int i t
  | .str x, u => ∃ t, u = Value.str x t
  | .byt b, u => ∃ t, u = Value.bytes b t
  | .flt b, u => ∃ t, u = Value.float b t
  | .ref a, u => u = Value.ref a
  | .ty n, u => u = Value.type n

abbrev Vals : List V → List Value → Prop := Paired RelV
theorem Vals.length {xs : List V} {us : List Value} (r : Vals xs us) : xs.length = us.length := Paired.length r
theorem Vals.get : ∀ {xs : List V} {us : List Value} {i : Nat} {x : V}, Vals xs us → xs[i]? = some x → ∃ u, us[i]? = some u ∧ RelV x u
  | _, _, _, _, .nil, e => by simp at e
  | _, _, 0, _, .cons r _, e => by simp at e; subst e; exact ⟨_, rfl, r⟩
  | _, _, i + 1, x, .cons _ t, e => by
    obtain ⟨u, h1, h2⟩ := Vals.get (i := i) (x := x) t (by simpa using e)
    exact ⟨u, by simpa using h1, h2⟩
theorem Vals.set {x : V} {u : Value} (r : RelV x u) : ∀ {xs : List V} {us : List Value} (i : Nat), Vals xs us → Vals (xs.set i x) (us.set i u)
  | _, _, _, .nil => .nil
  | _, _, 0, .cons _ t => .cons r t
  | _, _, i + 1, .cons q t => .cons q (Vals.set r i t)
theorem Vals.append : ∀ {xs ys : List V} {us ws : List Value}, Vals xs us → Vals ys ws → Vals (xs ++ ys) (us ++ ws)
  | _, _, _, _, .nil, s => s
  | _, _, _, _, .cons r t, s => .cons r (Vals.append t s)
theorem Vals.take : ∀ {xs : List V} {us : List Value} (n : Nat), Vals xs us → Vals (xs.take n) (us.take n)
  | _, _, 0, _ => .nil
  | _, _, _ + 1, .nil => .nil
  | _, _, n + 1, .cons r t => .cons r (Vals.take n t)
theorem Vals.drop : ∀ {xs : List V} {us : List Value} (n : Nat), Vals xs us → Vals (xs.drop n) (us.drop n)
  | _, _, 0, r => r
  | _, _, _ + 1, .nil => .nil
  | _, _, n + 1, .cons _ t => Vals.drop n t
def RelO : Option V → Option Value → Prop
  | some v, some u => RelV v u
  | none, none => True
  | _, _ => False
def KV {κ : Type} : List (κ × V) → List (κ × Value) → Prop := Paired fun (p : κ × V) (q : κ × Value) => p.1 = q.1 ∧ RelV p.2 q.2

/-- a key of a dict (00_mix): an int or a text -/
def kV : Key → V
  | .inl i => .int i
  | .inr x => .str x

/-- what stands at a tracked address -/
inductive HO where
  /-- a list -/
  | lst (xs : List V)
  /-- a tuple (never changes) -/
  | tup (xs : List V)
  /-- a dict whose keys are ints and texts; one whose keys are tuples of ints and texts (the empty one is both) -/
  | dK (kvs : List (Key × V)) | dT (kvs : List (List Key × V))
  /-- a set of ints: its members, its size -/
  | set (S : Int → Bool) (n : Nat)
  /-- an instance of the class at C, its dict at dx, its attributes -/
  | ins (C dx : Addr) (fs : List (Str × V))
  /-- the dict of the instance at x -/
  | own (x : Addr)
  /-- the dict of an exception -/
  | xd (fs : List (Str × V))
  /-- a bound method, f of x -/
  | met (f x : Addr)
  /-- a range object lo, lo + 1, .. below hi -/
  | rng (lo hi : Int)
  /-- a thing that is known to the object (the script; a dict while a loop walks it): read, never written while it is so -/
  | frz (o : Obj) (u : HO)
  /-- a code object's table -/
  | tbl (ps : Array Value)
  /-- any other thing, by what is true of its one object (a def of one's own: SetO a S n := HO.ext fun h => ..) -/
  | ext (φ : Heap → Prop)

abbrev Hp := Addr → Option HO
def upd (H : Hp) (a : Addr) (o : HO) : Hp := fun b => if b = a then some o else H b
theorem upd_same {H : Hp} {a : Addr} {o : HO} : upd H a o a = some o := by unfold upd; rw [if_pos rfl]
theorem upd_ne {H : Hp} {a b : Addr} {o : HO} (h : b ≠ a) : upd H a o b = H b := by unfold upd; rw [if_neg h]
/-- two objects of different content stand apart -/
theorem ne_of {H : Hp} {a b : Addr} {o u : HO} (h : H a = some o) (h' : H b = some u) (d : o ≠ u) : a ≠ b := by
  intro e; subst e; rw [h] at h'; exact d (Option.some.inj h')
theorem ne_of_none {H : Hp} {a b : Addr} {o : HO} (h : H a = some o) (h' : H b = none) : a ≠ b := by
  intro e; subst e; rw [h] at h'; cases h'

section
variable (P : Program) (w : World)
def ObjOk (H : Hp) (h : Heap) (a : Addr) : HO → Prop
  | .lst xs => xs.length ≤ sizeLine ∧ ∃ (its : List Value) (n : Nat), Vals xs its ∧ h.get? a = some { cls := .type "list", data := .seq its.toArray n }
  | .tup xs => xs.length ≤ sizeLine ∧ ∃ its : List Value, Vals xs its ∧ IsTup h a its.toArray
  | .dK kvs => kvs.length ≤ sizeLine ∧ (a == sysModules) = false ∧ ∃ vs, KV kvs vs ∧ h.DictOf (mixKind P w) a vs
  | .dT kvs => kvs.length ≤ sizeLine ∧ (a == sysModules) = false ∧ ∃ xs : List (List Key × Addr × Value),
      Paired (fun (p : List Key × V) (q : List Key × Addr × Value) => p.1 = q.1 ∧ H q.2.1 = some (.tup (p.1.map kV)) ∧ RelV p.2 q.2.2) kvs xs ∧
      ∃ o es ep, h.get? a = some o ∧ o.ExactDict ∧ o.data = .dict es ep ∧ es.toList = xs.map (entryOfKey (tupleKind (mixKind P w))) ∧ (xs.map (·.1)).Nodup
  | .set S n => h.SetOf (intKind P w) a S n
  | .ins C dx fs => H dx = some (.own a) ∧ fs.length ≤ 1000 ∧ dx ≠ a ∧ h.get? a = some (PySem.W.instObj C dx) ∧
      ∃ mA, h.Ns1 dx mA ∧ (∀ f, RelO (fs.lookup f) (mA f)) ∧ PySem.Within mA (fs.map (·.1))
  | .own _ => ∃ o, h.get? a = some o
  | .xd fs => ∃ mA, h.Ns1 a mA ∧ ∀ f, RelO (fs.lookup f) (mA f)
  | .rng lo hi => ∃ t u v, h.get? a = some { cls := .type "range", data := .fields #[.int lo t, .int hi u, .int 1 v] }
  | .frz o u => h.get? a = some o ∧ ObjOk H h a u
  | .tbl ps => h.get? a = some { cls := .none, data := .fields ps }
  | .met f x => h.get? a = some (PySem.W.methodObj (.ref f) (.ref x))
  | .ext φ => φ h ∧ (∃ o, h.get? a = some o) ∧ ∀ h1 h2 : Heap, φ h1 → (∀ o, h1.get? a = some o → h2.get? a = some o) → φ h2
/-- the abstract heap is held -/
def HOk (H : Hp) (h : Heap) : Prop := ∀ a o, H a = some o → ObjOk P w H h a o
end

section
variable {P : Program} {w : World} {H H' : Hp} {h h' : Heap} {a : Addr} {o : HO}
theorem ObjOk.lt (x : ObjOk P w H h a o) : a < h.objs.size := by
  cases o with
  | lst xs => obtain ⟨_, _, _, _, e⟩ := x; exact Heap.lt_size e
  | tup xs => obtain ⟨_, _, _, p⟩ := x; exact p.lt
  | dK kvs => obtain ⟨_, _, _, _, o, _, _, e, _⟩ := x; exact Heap.lt_size e
  | dT kvs => obtain ⟨_, _, _, _, o, _, _, e, _⟩ := x; exact Heap.lt_size e
  | set S n => obtain ⟨o, _, _, _, e, _⟩ := x; exact Heap.lt_size e
  | ins C dx fs => obtain ⟨_, _, _, e, _⟩ := x; exact Heap.lt_size e
  | own y => obtain ⟨_, e⟩ := x; exact Heap.lt_size e
  | xd fs => obtain ⟨_, ⟨_, _, _, e, _⟩, _⟩ := x; exact Heap.lt_size e
  | rng lo hi => obtain ⟨_, _, _, e⟩ := x; exact Heap.lt_size e
  | frz ob u => obtain ⟨e, _⟩ := x; exact Heap.lt_size e
  | tbl ps => exact Heap.lt_size (show h.get? a = some _ from x)
  | met f y => exact Heap.lt_size (show h.get? a = some _ from x)
  | ext φ => obtain ⟨_, ⟨_, e⟩, _⟩ := x; exact Heap.lt_size e
theorem Paired.mapP {α β : Type} {F G : α → β → Prop} : ∀ {l₁ : List α} {l₂ : List β}, Paired F l₁ l₂ → (∀ a b, F a b → G a b) → Paired G l₁ l₂
  | _, _, .nil, _ => .nil
  | _, _, .cons r t, f => .cons (f _ _ r) (Paired.mapP t f)
/-- what an object's description leans on: its own object, its own dict, the tuples -/
theorem ObjOk.stay (x : ObjOk P w H h a o) (k : ∀ b u, (b = a ∨ H b = some (.own a)) → h.get? b = some u → h'.get? b = some u)
    (ho : ∀ b, H b = some (.own a) → H' b = some (.own a)) (ht : ∀ b xs, H b = some (.tup xs) → H' b = some (.tup xs)) : ObjOk P w H' h' a o := by
  induction o with
  | lst xs => obtain ⟨z, its, n, r, e⟩ := x; exact ⟨z, its, n, r, k _ _ (.inl rfl) e⟩
  | tup xs => obtain ⟨z, its, r, ob, e, c⟩ := x; exact ⟨z, its, r, ob, k _ _ (.inl rfl) e, c⟩
  | dK kvs => obtain ⟨z, y, vs, r, ob, es, ep, e, c⟩ := x; exact ⟨z, y, vs, r, ob, es, ep, k _ _ (.inl rfl) e, c⟩
  | dT kvs =>
    obtain ⟨z, y, xs, r, ob, es, ep, e, c⟩ := x
    exact ⟨z, y, xs, Paired.mapP r fun p q z => ⟨z.1, ht _ _ z.2.1, z.2.2⟩, ob, es, ep, k _ _ (.inl rfl) e, c⟩
  | set S n => obtain ⟨ob, es, ep, t, e, c⟩ := x; exact ⟨ob, es, ep, t, k _ _ (.inl rfl) e, c⟩
  | ins C dx fs =>
    obtain ⟨d, z, ne, e, mA, ⟨od, es, ep, e2, c⟩, r⟩ := x
    exact ⟨ho _ d, z, ne, k _ _ (.inl rfl) e, mA, ⟨od, es, ep, k _ _ (.inr d) e2, c⟩, r⟩
  | own y => obtain ⟨ob, e⟩ := x; exact ⟨ob, k _ _ (.inl rfl) e⟩
  | xd fs => obtain ⟨mA, ⟨od, es, ep, e, c⟩, r⟩ := x; exact ⟨mA, ⟨od, es, ep, k _ _ (.inl rfl) e, c⟩, r⟩
  | rng lo hi => obtain ⟨t, u, v, e⟩ := x; exact ⟨t, u, v, k _ _ (.inl rfl) e⟩
  | frz ob u ih => obtain ⟨e, q⟩ := x; exact ⟨k _ _ (.inl rfl) e, ih q⟩
  | tbl ps =>
    have e : h.get? a = some { cls := .none, data := .fields ps } := x
    show h'.get? a = some { cls := .none, data := .fields ps }
    exact k a _ (.inl rfl) e
  | met f y =>
    have e : h.get? a = some (PySem.W.methodObj (.ref f) (.ref y)) := x
    show h'.get? a = some (PySem.W.methodObj (.ref f) (.ref y))
    exact k a _ (.inl rfl) e
  | ext φ => obtain ⟨p, ⟨o, e⟩, st⟩ := x; exact ⟨st _ _ p fun o q => k _ _ (.inl rfl) q, ⟨o, k _ _ (.inl rfl) e⟩, st⟩
theorem HOk.lt (x : HOk P w H h) (e : H a = some o) : a < h.objs.size := (x a o e).lt
theorem HOk.fresh (x : HOk P w H h) (e : h.objs.size ≤ a) : H a = none := by
  cases q : H a with
  | none => rfl
  | some u => exact absurd (Nat.lt_of_lt_of_le (x.lt q) e) (Nat.lt_irrefl _)
/-- every object of the heap is kept -/
theorem HOk.kept (x : HOk P w H h) (k : ∀ b u, h.get? b = some u → h'.get? b = some u) : HOk P w H h' := fun a o e =>
  (x a o e).stay (fun b u _ q => k b u q) (fun _ q => q) fun _ _ q => q
/-- a new object is laid and tracked -/
theorem HOk.laid (x : HOk P w H h) (k : ∀ b u, h.get? b = some u → h'.get? b = some u) (hp : h.objs.size ≤ a) (new : ObjOk P w (upd H a o) h' a o) : HOk P w (upd H a o) h' := fun b u e => by
  have hn := x.fresh hp
  by_cases hb : b = a
  · subst hb; rw [upd_same] at e; cases e; exact new
  · rw [upd_ne hb] at e
    exact (x b u e).stay (fun c v _ q => k c v q) (fun c q => by rw [upd_ne (ne_of_none q hn)]; exact q) fun c xs q => by rw [upd_ne (ne_of_none q hn)]; exact q
end

/-- what may be read as u: it is u, or a known u -/
def Rd (H : Hp) (a : Addr) (u : HO) : Prop := H a = some u ∨ ∃ o, H a = some (.frz o u)
theorem Rd.of {H : Hp} {a : Addr} {u : HO} (h : H a = some u) : Rd H a u := .inl h
theorem Rd.ok {P : Program} {w : World} {H : Hp} {h : Heap} {a : Addr} {u : HO} (r : Rd H a u) (x : HOk P w H h) : ObjOk P w H h a u := by
  rcases r with r | ⟨o, r⟩
  · exact x a u r
  · obtain ⟨_, q⟩ := x a _ r
    exact q
/-- what may be written -/
def Mut : Option HO → Prop
  | some (.lst _) => True
  | some (.dK _) => True
  | some (.dT _) => True
  | some (.set _ _) => True
  | some (.ins _ _ _) => True
  | some (.ext _) => True
  | _ => False
section
variable {P : Program} {w : World} {H : Hp} {h h' : Heap} {x e : Addr} {o' : HO}
/-- the object at e is changed: x itself, or the dict of the instance x -/
theorem HOk.write (ok : HOk P w H h) (mu : Mut (H x)) (he : e = x ∨ H e = some (.own x)) (k : ∀ b u, b ≠ e → h.get? b = some u → h'.get? b = some u) (heo : ∃ u, h'.get? e = some u)
    (new : ObjOk P w (upd H x o') h' x o') : HOk P w (upd H x o') h' := fun b u q => by
  have nown : ∀ c y, H c = some (.own y) → c ≠ x := fun c y r z => by subst z; rw [r] at mu; exact mu
  have ntup : ∀ c xs, H c = some (.tup xs) → c ≠ x := fun c xs r z => by subst z; rw [r] at mu; exact mu
  by_cases hb : b = x
  · subst hb; rw [upd_same] at q; cases q; exact new
  · rw [upd_ne hb] at q
    by_cases hbe : b = e
    · have q' : H b = some (.own x) := by
        rcases he with z | z
        · exact absurd (hbe.trans z) hb
        · rw [hbe]; exact z
      rw [q] at q'; cases q'
      obtain ⟨v, hv⟩ := heo
      exact ⟨v, by rw [hbe]; exact hv⟩
    · refine (ok b u q).stay (fun c v hc r => k c v ?_ r) (fun c r => by rw [upd_ne (nown c b r)]; exact r) fun c xs r => by rw [upd_ne (ntup c xs r)]; exact r
      rcases hc with rfl | hc
      · exact hbe
      · rintro rfl
        rcases he with z | z
        · exact nown c b hc z
        · rw [hc] at z; cases z; exact hb rfl
end

/-! ### kept unless tracked; of the frames at fs (the callers') the slots may change (an exception that passes writes there); of the records at ex (iterators) nothing is said -/
structure Un (fs ex : List Addr) (H H' : Hp) (h h' : Heap) : Prop where
  keep : ∀ b o, h.get? b = some o → H b = none → b ∉ fs → b ∉ ex → h'.get? b = some o
  slot : ∀ b o, h.get? b = some o → H b = none → b ∈ fs → b ∉ ex → ∃ sl, h'.get? b = some { o with slots := sl }
  free : ∀ b o, h.get? b = some o → H b = none → b ∉ ex → H' b = none
  there : ∀ b o, h.get? b = some o → b ∉ ex → ∃ o', h'.get? b = some o'
  tups : ∀ b xs, H b = some (.tup xs) → H' b = some (.tup xs)
  frzs : ∀ b o u, H b = some (.frz o u) → H' b = some (.frz o u)
  tbls : ∀ b ps, H b = some (.tbl ps) → ∃ more, H' b = some (.tbl (ps ++ more))
section
variable {fs fs' ex ex' : List Addr} {H H1 H2 : Hp} {h h1 h2 h' : Heap} {a x e : Addr} {o : HO}
theorem Un.any (u : Un fs ex H H1 h h1) {b : Addr} {ob : Obj} (q : h.get? b = some ob) (n : H b = none) (hx : b ∉ ex) : ∃ sl, h1.get? b = some { ob with slots := sl } := by
  by_cases hb : b ∈ fs
  · exact u.slot b ob q n hb hx
  · exact ⟨ob.slots, u.keep b ob q n hb hx⟩
theorem Un.kept (k : ∀ b u, h.get? b = some u → h'.get? b = some u) : Un fs ex H H h h' :=
  ⟨fun b ob q _ _ _ => k b ob q, fun b ob q _ _ _ => ⟨ob.slots, k b ob q⟩, fun _ _ _ n _ => n, fun b ob q _ => ⟨ob, k b ob q⟩, fun _ _ q => q, fun _ _ _ q => q, fun _ ps q => ⟨#[], by rw [q]; simp⟩⟩
theorem Un.refl : Un fs ex H H h h := Un.kept fun _ _ q => q
theorem Un.laid (k : ∀ b u, h.get? b = some u → h'.get? b = some u) (hp : h.objs.size ≤ a) (hn : H a = none) : Un fs ex H (upd H a o) h h' where
  keep := fun b u q _ _ _ => k b u q
  slot := fun b u q _ _ _ => ⟨u.slots, k b u q⟩
  free := fun b u q n _ => by rw [upd_ne (Nat.ne_of_lt (Nat.lt_of_lt_of_le (Heap.lt_size q) hp))]; exact n
  there := fun b u q _ => ⟨u, k b u q⟩
  tups := fun b xs q => by rw [upd_ne (ne_of_none q hn)]; exact q
  frzs := fun b u xs q => by rw [upd_ne (ne_of_none q hn)]; exact q
  tbls := fun b ps q => ⟨#[], by rw [upd_ne (ne_of_none q hn), q]; simp⟩
theorem Un.write (mu : Mut (H x)) (he : e = x ∨ H e = some (.own x)) (k : ∀ b u, b ≠ e → h.get? b = some u → h'.get? b = some u) (heo : ∃ u, h'.get? e = some u) : Un fs ex H (upd H x o) h h' := by
  have hx : ∀ b, H b = none → b ≠ x := fun b n z => by subst z; rw [n] at mu; exact mu
  have hb : ∀ b, H b = none → b ≠ e := fun b n z => by
    subst z
    rcases he with r | r
    · exact hx b n r
    · rw [n] at r; cases r
  have hm : ∀ b u, H b = some u → ¬ Mut (some u) → b ≠ x := fun b u q nm z => by subst z; rw [q] at mu; exact nm mu
  refine ⟨fun b u q n _ _ => k b u (hb b n) q, fun b u q n _ _ => ⟨u.slots, k b u (hb b n) q⟩, fun b u q n _ => by rw [upd_ne (hx b n)]; exact n, fun b u q _ => ?_,
    fun b xs q => by rw [upd_ne (hm b _ q fun z => z)]; exact q, fun b u xs q => by rw [upd_ne (hm b _ q fun z => z)]; exact q, fun b ps q => ⟨#[], by rw [upd_ne (hm b _ q fun z => z), q]; simp⟩⟩
  by_cases hbe : b = e
  · subst hbe; exact heo
  · exact ⟨u, k b u hbe q⟩
end

/-! ### the heap without what is tracked -/
def trk (h : Heap) (H : Hp) : List Addr := (List.range h.objs.size).filter fun a => (H a).isSome
def hidT (h : Heap) (H : Hp) : Heap := PySem.W.hideAll h (trk h H)
theorem hidT_size (h : Heap) (H : Hp) : (hidT h H).objs.size = h.objs.size := PySem.W.hideAll_size _ _
theorem hidT_get {h : Heap} {H : Hp} {b : Addr} {o : Obj} (e : h.get? b = some o) (n : H b = none) : (hidT h H).get? b = some o :=
  PySem.W.hideAll_get _ e fun hm => by
    have q : (H b).isSome = true := (List.mem_filter.mp hm).2
    rw [n] at q; simp at q
theorem of_hidT {h : Heap} {H : Hp} {b : Addr} {o : Obj} (e : (hidT h H).get? b = some o) : h.get? b = some o ∧ H b = none := by
  have e' : h.get? b = some o := PySem.W.of_hideAll (trk h H) e
  refine ⟨e', ?_⟩
  cases q : H b with
  | none => rfl
  | some x =>
    have hm : b ∈ trk h H := List.mem_filter.mpr ⟨List.mem_range.mpr (Heap.lt_size e'), by simp [q]⟩
    have z : (hidT h H).get? b = none := PySem.W.hideAll_none (trk h H) hm
    rw [z] at e; cases e

/-! ### OpenK's ledger, filled with every new object but one -/
def allNews (g h : Heap) (L : Addr) : List (Addr × Obj) := (List.range h.objs.size).filterMap fun a => if a = L ∨ (g.get? a).isSome = true then none else (h.get? a).map fun o => (a, o)
def rest (g h : Heap) (L d : Addr) : List (Addr × Obj) := (allNews g h L).filter fun p => decide (p.1 ≠ d)
end L2

namespace L2
open PySem PySem.Spec PyProof.Rows

/-- the module's facts, over the base: the heap at the law's entry without what is tracked there -/
structure Mod (K : PySem.W.Frag) (mg : Str → Option Value) (base : Heap) : Prop where
  kin : K.In base
  glob : base.Ns mainGlobals mg
  blt : ∃ mb, base.Ns builtinsNs mb ∧ ∀ x : Str, x ≠ "__name__" → mb x = bootBuiltins x
  nolimit : base.NoLimit

/-- the context: a def's body (or a comprehension's block) running. base: fixed through the whole law; s₀, H₀: the entry; outer: the frames whose slots others may change (a def's callers); stack: all frames that run;
   ex: iterators that were made ahead of the entry and are walked here (a comprehension's); fn: the names whose cells were made at the entry (a def: all; a comprehension's block: its own); calm: not within an except suite; pn: pins that every state bears; xe: what is wanted of an exception that leaves the code -/
structure Cx where
  prog : Program
  w : World
  K : PySem.W.Frag
  mg : Str → Option Value
  base : Heap
  A : Around
  N : List Str
  s₀ : Shared
  H₀ : Hp
  env : Env
  outer : List Env
  stack : List Env
  ex : List Addr
  fn : Str → Bool
  calm : Bool
  pn : List (Addr × Obj)
  xe : Value → Shared → Prop
/-- the callers' frames -/
def frs (l : List Env) : List Addr := l.filterMap (·.frame)
abbrev Cx.fs (X : Cx) : List Addr := frs X.outer

def Vis (sc : Scope) (x : Str) : Prop := sc.names.lookup x = some .local ∨ sc.names.lookup x = some .cell ∨ sc.names.lookup x = some .free
def Loc (sc : Scope) (x : Str) : Prop := sc.names.lookup x = some .local ∨ sc.names.lookup x = some .cell
def Look (env : Env) (h : Heap) (m : Str → Option Value) (x : Str) (u : Value) : Prop :=
  (env.kindOf x = some .local ∧ m x = some u) ∨ ((env.kindOf x = some .cell ∨ env.kindOf x = some .free) ∧ ∃ c, env.cells.lookup x = some c ∧ h.IsCell c (some u))

structure Cx.Ok (X : Cx) : Prop where
  mod : Mod X.K X.mg X.base
  kind : X.env.scope.kind = .function
  glob : X.env.globals = mainGlobals
  blt : X.env.builtins = builtinsNs
  above : X.s₀.heap.objs.size ≤ X.env.locals
  inj : ∀ x y c, X.env.cells.lookup x = some c → X.env.cells.lookup y = some c → x = y
  has : ∀ x, (X.env.kindOf x = some .cell ∨ X.env.kindOf x = some .free) → ∃ c, X.env.cells.lookup x = some c
  cab : ∀ x c, X.fn x = true → X.env.cells.lookup x = some c → X.s₀.heap.objs.size ≤ c
  hd : X.calm = true → X.A.handled = none
  frames : X.A.frames = some X.stack
  stk : X.stack = X.outer ∨ (X.stack = X.env :: X.outer ∧ X.env.frame = some X.env.locals)
  exf : ∀ b ∈ X.ex, b ≠ X.env.locals ∧ ∀ x c, X.env.cells.lookup x = some c → c ≠ b
  bs : ∀ b o, X.base.get? b = some o → X.s₀.heap.get? b = some o ∧ X.H₀ b = none
  bsz : X.base.objs.size ≤ X.s₀.heap.objs.size
  noex : ∀ b o, X.base.get? b = some o → b ∉ X.ex
  exfs : ∀ b ∈ X.ex, b ∉ X.fs
  funs : X.s₀.heap.FunFrames X.base X.outer
  frf : ∀ b ∈ X.fs, X.H₀ b = none

structure Inv (X : Cx) (pins : List (Addr × Obj)) (σ : List (Option V)) (H : Hp) (s : Shared) : Prop where
  ok : X.Ok
  os : s.os = X.s₀.os
  bare : AllBare s.gens
  base : Un X.fs X.ex X.H₀ H X.s₀.heap s.heap
  loc : ∃ m, s.heap.Ns X.env.locals m ∧ ∀ (i : Nat) (x : Str) (v : V), X.N[i]? = some x → σ[i]? = some (some v) → Vis X.env.scope x → ∃ u, RelV v u ∧ Look X.env s.heap m x u
  cell : ∀ x c, X.env.cells.lookup x = some c → ∃ v, s.heap.IsCell c v
  free : H X.env.locals = none
  freeC : ∀ x c, X.env.cells.lookup x = some c → H c = none
  pin : ∀ p ∈ X.pn ++ pins, s.heap.get? p.1 = some p.2 ∧ H p.1 = none ∧ p.1 ≠ X.env.locals ∧ p.1 ∉ X.fs ∧ ∀ v, p.2.data ≠ .cell v
  hok : HOk X.prog X.w H s.heap
  len : σ.length = X.N.length

section
variable {X : Cx} {pins : List (Addr × Obj)} {σ : List (Option V)} {H H' : Hp} {s : Shared} {h' : Heap}

theorem Cx.Ok.nofr (ok : X.Ok) {b : Addr} {o : Obj} (e : X.base.get? b = some o) : b ∉ X.fs := fun hb => by
  have := (ok.funs.mem hb).1
  rw [e] at this; cases this
theorem Inv.bs (I : Inv X pins σ H s) : ∀ b o, X.base.get? b = some o → s.heap.get? b = some o ∧ H b = none := fun b o e =>
  ⟨I.base.keep b o (I.ok.bs b o e).1 (I.ok.bs b o e).2 (I.ok.nofr e) (I.ok.noex b o e), I.base.free b o (I.ok.bs b o e).1 (I.ok.bs b o e).2 (I.ok.noex b o e)⟩
theorem Inv.bk (I : Inv X pins σ H s) : ∀ b o, X.base.get? b = some o → s.heap.get? b = some o := fun b o e => (I.bs b o e).1
theorem Inv.mod (I : Inv X pins σ H s) : Mod X.K X.mg X.base := I.ok.mod
theorem Inv.kIn (I : Inv X pins σ H s) : X.K.In s.heap := I.ok.mod.kin.keeps I.bk
theorem Inv.nolimit (I : Inv X pins σ H s) : s.heap.NoLimit := I.ok.mod.nolimit.keeps I.bk
theorem Inv.lt (I : Inv X pins σ H s) : X.env.locals < s.heap.objs.size := let ⟨_, hn, _⟩ := I.loc; hn.lt
theorem Inv.sz (I : Inv X pins σ H s) : X.s₀.heap.objs.size ≤ s.heap.objs.size := Nat.le_trans I.ok.above (Nat.le_of_lt I.lt)
theorem Inv.nofs (I : Inv X pins σ H s) {a : Addr} (h : s.heap.objs.size ≤ a) : a ∉ X.fs := fun hb => by
  obtain ⟨_, o, ho, _⟩ := I.ok.funs.mem hb
  exact absurd (Nat.lt_of_lt_of_le (Heap.lt_size ho) (Nat.le_trans I.sz h)) (Nat.lt_irrefl _)
theorem Inv.cne (I : Inv X pins σ H s) : ∀ x c, X.env.cells.lookup x = some c → c ≠ X.env.locals := fun x c e z => by
  obtain ⟨v, o, ho, hd⟩ := I.cell x c e
  obtain ⟨m, ⟨o', es, ep, ho', hd', _⟩, _⟩ := I.loc
  rw [z, ho'] at ho; cases ho; rw [hd'] at hd; cases hd
theorem Inv.funs (I : Inv X pins σ H s) : s.heap.FunFrames X.base X.outer := by
  have all : ∀ (l : List Env), (∀ b ∈ frs l, b ∈ X.fs) → X.s₀.heap.FunFrames X.base l → s.heap.FunFrames X.base l := by
    intro l
    induction l with
    | nil => intro _ _; trivial
    | cons env r ih =>
      intro hs hl
      obtain ⟨hk, ⟨L, o, hf, hn, ho, hd⟩, hr⟩ := hl
      have hL : L ∈ X.fs := hs L (by unfold frs; rw [List.filterMap_cons, hf]; exact List.mem_cons_self)
      obtain ⟨sl, e⟩ := I.base.slot L o ho (I.ok.frf L hL) hL fun z => I.ok.exfs L z hL
      exact ⟨hk, ⟨L, _, hf, hn, e, hd⟩, ih (fun b hb => hs b (by unfold frs; rw [List.filterMap_cons, hf]; exact List.mem_cons_of_mem _ hb)) hr⟩
  exact all X.outer (fun _ hb => hb) I.ok.funs

/-- the frames that run, for a call -/
theorem Inv.stack (I : Inv X pins σ H s) : s.heap.FunFrames X.base X.stack := by
  rcases I.ok.stk with e | ⟨e, hf⟩
  · rw [e]; exact I.funs
  · rw [e]
    obtain ⟨m, hn, _⟩ := I.loc
    refine .cons (by rw [I.ok.kind]; decide) hf hn ?_ I.funs
    exact Heap.get?_none_of_le (Nat.le_trans I.ok.bsz I.ok.above)
theorem Inv.stkSub (I : Inv X pins σ H s) : ∀ b ∈ frs X.stack, b ∈ X.env.locals :: X.fs := fun b hb => by
  rcases I.ok.stk with e | ⟨e, hf⟩
  · rw [e] at hb; exact List.mem_cons_of_mem _ hb
  · rw [e] at hb
    unfold frs at hb
    rw [List.filterMap_cons, hf] at hb
    exact hb
theorem Inv.stkFree (I : Inv X pins σ H s) : ∀ b ∈ frs X.stack, H b = none := fun b hb => by
  rcases List.mem_cons.mp (I.stkSub b hb) with e | hb
  · rw [e]; exact I.free
  · obtain ⟨_, o, ho, _⟩ := I.ok.funs.mem hb
    exact I.base.free b o ho (I.ok.frf b hb) fun z => I.ok.exfs b z hb

/-- THE STEP: the untracked objects but the frame and the records at ch are kept (the callers' frames up to slots), the frame's map is kept, the new abstract heap is held -/
theorem Inv.step {g' : Array GenState} {t' : Nat} {d' : Drawn} {ch : List Addr} (I : Inv X pins σ H s)
    (hch : ∀ b ∈ ch, (b ∈ X.ex ∨ X.s₀.heap.objs.size ≤ b) ∧ b ≠ X.env.locals ∧ (∀ x c, X.env.cells.lookup x = some c → c ≠ b) ∧ ∀ p ∈ X.pn ++ pins, p.1 ≠ b)
    (keep : ∀ b o, b ≠ X.env.locals → b ∉ X.fs → b ∉ ch → s.heap.get? b = some o → H b = none → h'.get? b = some o)
    (slot : ∀ b o, b ≠ X.env.locals → b ∈ X.fs → b ∉ ch → s.heap.get? b = some o → H b = none → ∃ sl, h'.get? b = some { o with slots := sl }) (free : ∀ b o, b ∉ ch → s.heap.get? b = some o → H b = none → H' b = none)
    (there : ∀ b o, b ∉ ch → s.heap.get? b = some o → ∃ o', h'.get? b = some o')
    (tups : ∀ b xs, H b = some (.tup xs) → H' b = some (.tup xs)) (frzs : ∀ b o u, H b = some (.frz o u) → H' b = some (.frz o u)) (tbls : ∀ b ps, H b = some (.tbl ps) → ∃ more, H' b = some (.tbl (ps ++ more)))
    (ns : ∀ m, s.heap.Ns X.env.locals m → h'.Ns X.env.locals m) (hok : HOk X.prog X.w H' h') (hg : AllBare g') :
    Inv X pins σ H' { s with heap := h', gens := g', drawn := d', toks := t' } := by
  have neL : ∀ b o, X.s₀.heap.get? b = some o → b ≠ X.env.locals := fun b o e => Nat.ne_of_lt (Nat.lt_of_lt_of_le (Heap.lt_size e) I.ok.above)
  have neC : ∀ b o, X.s₀.heap.get? b = some o → b ∉ X.ex → b ∉ ch := fun b o e hx hb => by
    rcases (hch b hb).1 with z | z
    · exact hx z
    · exact absurd (Nat.lt_of_lt_of_le (Heap.lt_size e) z) (Nat.lt_irrefl _)
  have cellK : ∀ x c, X.env.cells.lookup x = some c → ∀ v, s.heap.IsCell c v → h'.IsCell c v := fun x c e v ⟨o, ho, hd⟩ => by
    have nch : c ∉ ch := fun z => (hch c z).2.2.1 x c e rfl
    by_cases hc : c ∈ X.fs
    · obtain ⟨sl, q⟩ := slot c o (I.cne x c e) hc nch ho (I.freeC x c e)
      exact ⟨_, q, hd⟩
    · exact ⟨o, keep c o (I.cne x c e) hc nch ho (I.freeC x c e), hd⟩
  refine ⟨I.ok, I.os, hg, ⟨fun b o e n hb hx => ?_, fun b o e n hb hx => ?_, fun b o e n hx => ?_, fun b o e hx => ?_, fun b xs e => tups b xs (I.base.tups b xs e), fun b o xs e => frzs b o xs (I.base.frzs b o xs e), fun b ps e => ?_⟩, ?_, fun x c e => ?_, ?_, fun x c e => ?_, fun p hp => ?_, hok, I.len⟩
  · exact keep b o (neL b o e) hb (neC b o e hx) (I.base.keep b o e n hb hx) (I.base.free b o e n hx)
  · obtain ⟨sl, e1⟩ := I.base.slot b o e n hb hx
    obtain ⟨sl', e2⟩ := slot b _ (neL b o e) hb (neC b o e hx) e1 (I.base.free b o e n hx)
    exact ⟨sl', e2⟩
  · obtain ⟨o', e1⟩ := I.base.there b o e hx
    exact free b o' (neC b o e hx) e1 (I.base.free b o e n hx)
  · obtain ⟨o', e1⟩ := I.base.there b o e hx
    exact there b o' (neC b o e hx) e1
  · obtain ⟨m1, e1⟩ := I.base.tbls b ps e
    obtain ⟨m2, e2⟩ := tbls b _ e1
    exact ⟨m1 ++ m2, by rw [e2, Array.append_assoc]⟩
  · obtain ⟨m, hn, hl⟩ := I.loc
    refine ⟨m, ns m hn, fun i x v e1 e2 e3 => ?_⟩
    obtain ⟨u, r, l⟩ := hl i x v e1 e2 e3
    refine ⟨u, r, ?_⟩
    rcases l with l | ⟨k, c, e, z⟩
    · exact .inl l
    · exact .inr ⟨k, c, e, cellK x c e _ z⟩
  · obtain ⟨v, z⟩ := I.cell x c e
    exact ⟨v, cellK x c e v z⟩
  · obtain ⟨m, ⟨o, _, _, ho, _⟩, _⟩ := I.loc
    exact free _ o (fun z => (hch _ z).2.1 rfl) ho I.free
  · obtain ⟨v, o, ho, hd⟩ := I.cell x c e
    exact free c o (fun z => (hch c z).2.2.1 x c e rfl) ho (I.freeC x c e)
  · obtain ⟨e, n, ne, nf, d⟩ := I.pin p hp
    have nch : p.1 ∉ ch := fun z => (hch p.1 z).2.2.2 p hp rfl
    exact ⟨keep p.1 p.2 ne nf nch e n, free p.1 p.2 nch e n, ne, nf, d⟩
/-- .. where the frame's own object is kept too -/
theorem Inv.un {t' : Nat} (I : Inv X pins σ H s) (u : Un X.fs [] H H' s.heap h') (hok : HOk X.prog X.w H' h') : Inv X pins σ H' { s with heap := h', toks := t' } := by
  obtain ⟨m, ⟨o, es, ep, ho, r⟩, _⟩ := id I.loc
  obtain ⟨sl, hL⟩ := u.any ho I.free (by simp)
  exact I.step (g' := s.gens) (d' := s.drawn) (ch := []) (fun _ z => nomatch z) (fun b o _ hb _ e n => u.keep b o e n hb (by simp)) (fun b o _ hb _ e n => u.slot b o e n hb (by simp)) (fun b o _ e n => u.free b o e n (by simp)) (fun b o _ e => u.there b o e (by simp)) u.tups u.frzs u.tbls (fun m' hm => by
    obtain ⟨o', es', ep', ho', r'⟩ := hm
    rw [ho] at ho'; cases ho'
    exact ⟨_, es', ep', hL, r'⟩) hok I.bare
/-- behind a call (or a comprehension's block): the slots of this frame may have changed too, the records at ch may have turned -/
theorem Inv.call {g' : Array GenState} {t' : Nat} {d' : Drawn} {ch : List Addr} (I : Inv X pins σ H s) (u : Un (frs X.stack) ch H H' s.heap h') (hok : HOk X.prog X.w H' h') (hg : AllBare g')
    (hch : ∀ b ∈ ch, (b ∈ X.ex ∨ X.s₀.heap.objs.size ≤ b) ∧ b ≠ X.env.locals ∧ (∀ x c, X.env.cells.lookup x = some c → c ≠ b) ∧ ∀ p ∈ X.pn ++ pins, p.1 ≠ b) :
    Inv X pins σ H' { s with heap := h', gens := g', drawn := d', toks := t' } := by
  obtain ⟨m, ⟨o, es, ep, ho, r⟩, _⟩ := id I.loc
  obtain ⟨sl, hL⟩ := u.any ho I.free fun z => (hch _ z).2.1 rfl
  exact I.step (ch := ch) hch (fun b o hL hb hc e n => u.keep b o e n (fun z => (List.mem_cons.mp (I.stkSub b z)).elim hL hb) hc) (fun b o _ _ hc e n => u.any e n hc) (fun b o hc e n => u.free b o e n hc) (fun b o hc e => u.there b o e hc) u.tups u.frzs u.tbls (fun m' hm => by
    obtain ⟨o', es', ep', ho', r'⟩ := hm
    rw [ho] at ho'; cases ho'
    exact ⟨_, es', ep', hL, r'⟩) hok hg
/-- an untracked record of ours (an iterator) has turned -/
theorem Inv.turned {t' : Nat} {it : Addr} (I : Inv X pins σ H s) (k : ∀ b o, b ≠ it → s.heap.get? b = some o → h'.get? b = some o) (hn : H it = none) (hL : it ≠ X.env.locals)
    (h1 : it ∈ X.ex ∨ X.s₀.heap.objs.size ≤ it) (h2 : ∀ x c, X.env.cells.lookup x = some c → c ≠ it) (h3 : ∀ p ∈ X.pn ++ pins, p.1 ≠ it) : Inv X pins σ H { s with heap := h', toks := t' } := by
  have nit : ∀ b u, H b = some u → b ≠ it := fun b u e z => by rw [z, hn] at e; cases e
  refine I.step (g' := s.gens) (d' := s.drawn) (ch := [it]) (fun b hb => ?_) (fun b o _ _ hc e _ => k b o (fun z => hc (by simp [z])) e) (fun b o _ _ hc e _ => ⟨o.slots, k b o (fun z => hc (by simp [z])) e⟩) (fun _ _ _ _ n => n)
    (fun b o hc e => ⟨o, k b o (fun z => hc (by simp [z])) e⟩) (fun _ _ e => e) (fun _ _ _ e => e) (fun b ps e => ⟨#[], by rw [e]; simp⟩) (fun m hm => ?_) (fun b u e => ?_) I.bare
  · have e : b = it := by simpa using hb
    subst e
    exact ⟨h1, hL, h2, h3⟩
  · obtain ⟨o, es, ep, ho, r⟩ := hm
    exact ⟨o, es, ep, k _ o (Ne.symm hL) ho, r⟩
  · refine (I.hok b u e).stay (fun c v hc q => k c v ?_ q) (fun _ q => q) fun _ _ q => q
    rcases hc with z | z
    · rw [z]; exact nit b u e
    · exact nit c _ z
theorem Inv.tok (I : Inv X pins σ H s) (t : Nat) : Inv X pins σ H { s with toks := t } := I.un (h' := s.heap) (t' := t) Un.refl I.hok
/-- all objects kept -/
theorem Inv.kept {t' : Nat} (I : Inv X pins σ H s) (k : ∀ b u, s.heap.get? b = some u → h'.get? b = some u) : Inv X pins σ H { s with heap := h', toks := t' } := I.un (Un.kept k) (I.hok.kept k)
/-- a new object laid and tracked -/
theorem Inv.laid {a : Addr} {o : HO} {t' : Nat} (I : Inv X pins σ H s) (k : ∀ b u, s.heap.get? b = some u → h'.get? b = some u) (hp : s.heap.objs.size ≤ a) (new : ObjOk X.prog X.w (upd H a o) h' a o) :
    Inv X pins σ (upd H a o) { s with heap := h', toks := t' } := I.un (Un.laid k hp (I.hok.fresh hp)) (I.hok.laid k hp new)
/-- an object written -/
theorem Inv.write {x e : Addr} {o : HO} {t' : Nat} (I : Inv X pins σ H s) (mu : Mut (H x)) (he : e = x ∨ H e = some (.own x)) (k : ∀ b u, b ≠ e → s.heap.get? b = some u → h'.get? b = some u) (heo : ∃ u, h'.get? e = some u)
    (new : ObjOk X.prog X.w (upd H x o) h' x o) : Inv X pins σ (upd H x o) { s with heap := h', toks := t' } := I.un (Un.write mu he k heo) (I.hok.write mu he k heo new)
theorem Inv.pins_of {pins' : List (Addr × Obj)} (I : Inv X pins σ H s) (h : ∀ p ∈ pins', s.heap.get? p.1 = some p.2 ∧ H p.1 = none ∧ p.1 ≠ X.env.locals ∧ p.1 ∉ X.fs ∧ ∀ v, p.2.data ≠ .cell v) : Inv X pins' σ H s :=
  ⟨I.ok, I.os, I.bare, I.base, I.loc, I.cell, I.free, I.freeC, fun p hp => (List.mem_append.mp hp).elim (fun z => I.pin p (List.mem_append_left _ z)) (h p), I.hok, I.len⟩

theorem nodup_ix {N : List Str} (hN : N.Nodup) {i j : Nat} {x : Str} (a : N[i]? = some x) (b : N[j]? = some x) : i = j := by
  obtain ⟨h1, e1⟩ := List.getElem?_eq_some_iff.mp a
  obtain ⟨h2, e2⟩ := List.getElem?_eq_some_iff.mp b
  exact (List.getElem_inj hN).mp (e1.trans e2.symm)

/-- a name is stored; what changed -/
theorem store_ok2 {M : Model} {A : Around} {E : Value → Shared → Prop} {i : Nat} {x : Str} {v : V} {u : Value} {Q : Unit → Shared → Prop} (I : Inv X pins σ H s) (hN : X.N.Nodup) (hi : X.N[i]? = some x) (hx : Loc X.env.scope x) (r : RelV v u)
    (h : ∀ s', Inv X pins (σ.set i (some v)) H s' → (∃ a, Heap.SameBut a s.heap s'.heap ∧ (a = X.env.locals ∨ X.env.cells.lookup x = some a)) → Q () s') (hf : X.fn x = true ∨ X.env.scope.names.lookup x = some .local := by first | exact .inl rfl | exact .inr rfl | assumption) : wpAny M A (storeName X.env x u) Q E s := by
  obtain ⟨m, hn, hl⟩ := id I.loc
  have hcls : (X.env.scope.kind == .class || (X.env.scope.kind == .module && X.env.locals != X.env.globals)) = false := by rw [I.ok.kind]; rfl
  have hiσ : i < σ.length := by rw [I.len]; exact (List.getElem?_eq_some_iff.mp hi).1
  have cne := I.cne
  have tracked : ∀ {a : Addr} {h' : Heap}, (∃ o, s.heap.get? a = some o ∧ H a = none) → Heap.SameBut a s.heap h' → HOk X.prog X.w H h' := fun {a h'} ha hs b ob e => by
    obtain ⟨_, _, hfree⟩ := ha
    refine (I.hok b ob e).stay (fun c w' hc q => (hs.2 c ?_).trans q) (fun _ q => q) fun _ _ q => q
    rintro rfl
    rcases hc with rfl | hc
    · rw [hfree] at e; cases e
    · rw [hfree] at hc; cases hc
  rcases hx with hk | hk
  · refine wpAny_storeName_local hk hn (fun h' hn' hs => ?_) hcls
    obtain ⟨oL, _, _, hoL, _⟩ := id hn
    refine h _ ⟨I.ok, I.os, I.bare, ⟨fun b o e n hb hx => ?_, fun b o e n hb hx => ?_, I.base.free, fun b o e hx => ?_, I.base.tups, I.base.frzs, I.base.tbls⟩, ⟨_, hn', fun j y v' e1 e2 e3 => ?_⟩, fun y c e => ?_, I.free, I.freeC, fun p hp => ?_, tracked ⟨oL, hoL, I.free⟩ hs, by simpa using I.len⟩ ⟨_, hs, .inl rfl⟩
    · exact (hs.2 b (Nat.ne_of_lt (Nat.lt_of_lt_of_le (Heap.lt_size e) I.ok.above))).trans (I.base.keep b o e n hb hx)
    · obtain ⟨sl, e1⟩ := I.base.slot b o e n hb hx
      exact ⟨sl, (hs.2 b (Nat.ne_of_lt (Nat.lt_of_lt_of_le (Heap.lt_size e) I.ok.above))).trans e1⟩
    · obtain ⟨o', e1⟩ := I.base.there b o e hx
      exact ⟨o', (hs.2 b (Nat.ne_of_lt (Nat.lt_of_lt_of_le (Heap.lt_size e) I.ok.above))).trans e1⟩
    · by_cases hj : j = i
      · subst hj
        rw [hi] at e1; cases e1
        rw [List.getElem?_set_self hiσ] at e2
        cases e2
        exact ⟨u, r, .inl ⟨hk, by simp⟩⟩
      · rw [List.getElem?_set_ne (Ne.symm hj)] at e2
        obtain ⟨u', r', q⟩ := hl j y v' e1 e2 e3
        refine ⟨u', r', ?_⟩
        rcases q with ⟨k, e⟩ | ⟨k, c, e, z⟩
        · refine .inl ⟨k, ?_⟩
          have : y ≠ x := fun e => hj (nodup_ix hN e1 (e ▸ hi))
          simp [this, e]
        · exact .inr ⟨k, c, e, z.sameBut hs (cne y c e)⟩
    · obtain ⟨w', z⟩ := I.cell y c e
      exact ⟨w', z.sameBut hs (cne y c e)⟩
    · obtain ⟨e, n, ne, nf, d⟩ := I.pin p hp
      exact ⟨(hs.2 p.1 ne).trans e, n, ne, nf, d⟩
  · have hfn : X.fn x = true := by
      rcases hf with z | z
      · exact z
      · rw [z] at hk; cases hk
    obtain ⟨c, hc⟩ := I.ok.has x (.inl hk)
    obtain ⟨w', z⟩ := I.cell x c hc
    refine wpAny_storeName_cell I.ok.kind hk hc z (fun h' hc' hs => ?_)
    obtain ⟨oc, hoc, hocd⟩ := id z
    refine h { s with heap := h' } ⟨I.ok, I.os, I.bare, ⟨fun b o e n hb hx => ?_, fun b o e n hb hx => ?_, I.base.free, fun b o e hx => ?_, I.base.tups, I.base.frzs, I.base.tbls⟩, ⟨m, hn.sameBut hs (Ne.symm (cne x c hc)), fun j y v' e1 e2 e3 => ?_⟩, fun y c' e => ?_, I.free, I.freeC, fun p hp => ?_, tracked ⟨oc, hoc, I.freeC x c hc⟩ hs, by simpa using I.len⟩ ⟨c, hs, .inr hc⟩
    · exact (hs.2 b (Nat.ne_of_lt (Nat.lt_of_lt_of_le (Heap.lt_size e) (I.ok.cab x c hfn hc)))).trans (I.base.keep b o e n hb hx)
    · obtain ⟨sl, e1⟩ := I.base.slot b o e n hb hx
      exact ⟨sl, (hs.2 b (Nat.ne_of_lt (Nat.lt_of_lt_of_le (Heap.lt_size e) (I.ok.cab x c hfn hc)))).trans e1⟩
    · obtain ⟨o', e1⟩ := I.base.there b o e hx
      exact ⟨o', (hs.2 b (Nat.ne_of_lt (Nat.lt_of_lt_of_le (Heap.lt_size e) (I.ok.cab x c hfn hc)))).trans e1⟩
    · by_cases hj : j = i
      · subst hj
        rw [hi] at e1; cases e1
        rw [List.getElem?_set_self hiσ] at e2
        cases e2
        exact ⟨u, r, .inr ⟨.inl hk, c, hc, hc'⟩⟩
      · rw [List.getElem?_set_ne (Ne.symm hj)] at e2
        obtain ⟨u', r', q⟩ := hl j y v' e1 e2 e3
        refine ⟨u', r', ?_⟩
        rcases q with q | ⟨k, c', e, z'⟩
        · exact .inl q
        · refine .inr ⟨k, c', e, z'.sameBut hs ?_⟩
          rintro rfl
          exact hj (nodup_ix hN e1 (I.ok.inj _ _ _ e hc ▸ hi))
    · by_cases hcc : c' = c
      · subst hcc; exact ⟨_, hc'⟩
      · obtain ⟨w2, z2⟩ := I.cell y c' e
        exact ⟨w2, z2.sameBut hs hcc⟩
    · obtain ⟨e, n, ne, nf, d⟩ := I.pin p hp
      refine ⟨(hs.2 p.1 ?_).trans e, n, ne, nf, d⟩
      intro q
      rw [q, hoc] at e
      have q' : oc = p.2 := Option.some.inj e
      exact d w' (by rw [← q']; exact hocd)
theorem store_ok {M : Model} {A : Around} {E : Value → Shared → Prop} {i : Nat} {x : Str} {v : V} {u : Value} {Q : Unit → Shared → Prop} (I : Inv X pins σ H s) (hN : X.N.Nodup) (hi : X.N[i]? = some x) (hx : Loc X.env.scope x) (r : RelV v u)
    (h : ∀ s', Inv X pins (σ.set i (some v)) H s' → Q () s') (hf : X.fn x = true ∨ X.env.scope.names.lookup x = some .local := by first | exact .inl rfl | exact .inr rfl | assumption) : wpAny M A (storeName X.env x u) Q E s :=
  store_ok2 I hN hi hx r (fun s' I' _ => h s' I') hf
/-- behind a call or a block, the state as it is -/
theorem Inv.call' {s' : Shared} {ch : List Addr} (I : Inv X pins σ H s) (ho : s'.os = s.os) (u : Un (frs X.stack) ch H H' s.heap s'.heap) (hok : HOk X.prog X.w H' s'.heap) (hg : AllBare s'.gens)
    (hch : ∀ b ∈ ch, (b ∈ X.ex ∨ X.s₀.heap.objs.size ≤ b) ∧ b ≠ X.env.locals ∧ (∀ x c, X.env.cells.lookup x = some c → c ≠ b) ∧ ∀ p ∈ X.pn ++ pins, p.1 ≠ b) : Inv X pins σ H' s' := by
  obtain ⟨h', g', d', t', o'⟩ := s'
  have e : o' = s.os := ho
  subst e
  exact I.call (g' := g') (t' := t') (d' := d') u hok hg hch
end

/-! ### the judgements -/
/-- an exception: its class, its own dict's address (where it has one), the abstract heap behind it -/
abbrev XK := Value → Option Addr → Hp → Prop
abbrev St := List (Option V)
abbrev VK := V → Hp → Prop
/-- an expression's reading; a test's; an argument list's -/
abbrev TE := St → Hp → VK → Prop
abbrev TT := St → Hp → (Bool → Hp → Prop) → Prop
abbrev TA := St → Hp → (List V → Hp → Prop) → Prop
/-- what is wanted behind a statement -/
structure Ends where
  nx : St → Hp → Prop
  rt : VK
  bk : St → Hp → Prop := fun _ _ => False
  ct : St → Hp → Prop := fun _ _ => False
abbrev TS := Ends → St → Hp → Prop

def EP (X : Cx) (pins : List (Addr × Obj)) (σ : St) (Q : VK) (u : Value) (s' : Shared) : Prop := ∃ v H', Inv X pins σ H' s' ∧ RelV v u ∧ Q v H'
def TP (X : Cx) (pins : List (Addr × Obj)) (σ : St) (Q : Bool → Hp → Prop) (b : Bool) (s' : Shared) : Prop := ∃ H', Inv X pins σ H' s' ∧ Q b H'
def AP (X : Cx) (pins : List (Addr × Obj)) (σ : St) (Q : List V → Hp → Prop) (us : List Value) (s' : Shared) : Prop := ∃ vs H', Inv X pins σ H' s' ∧ Vals vs us ∧ Q vs H'
def SP (X : Cx) (pins : List (Addr × Obj)) (D : Ends) (f : Flow) (s' : Shared) : Prop :=
  match f with
  | .next => ∃ σ' H', Inv X pins σ' H' s' ∧ D.nx σ' H'
  | .brk => ∃ σ' H', Inv X pins σ' H' s' ∧ D.bk σ' H'
  | .cont => ∃ σ' H', Inv X pins σ' H' s' ∧ D.ct σ' H'
  | .ret u => ∃ v σ' H', Inv X pins σ' H' s' ∧ RelV v u ∧ D.rt v H'

def PE (X : Cx) (e : Expr) (t : TE) : Prop :=
  ∀ (pins : List (Addr × Obj)) (s : Shared) (σ : St) (H : Hp) (Q : VK), Inv X pins σ H s → t σ H Q → wpAny (model X.prog X.w) X.A (eval e X.env) (EP X pins σ Q) X.xe s
def PT (X : Cx) (e : Expr) (t : TT) : Prop :=
  ∀ (pins : List (Addr × Obj)) (s : Shared) (σ : St) (H : Hp) (Q : Bool → Hp → Prop), Inv X pins σ H s → t σ H Q → wpAny (model X.prog X.w) X.A (isTrue e X.env (eval e X.env)) (TP X pins σ Q) X.xe s
/-- a test whatever its 'whole' is (and, or) -/
def PW (X : Cx) (e : Expr) (t : TT) : Prop :=
  ∀ (whole : Sem Value) (pins : List (Addr × Obj)) (s : Shared) (σ : St) (H : Hp) (Q : Bool → Hp → Prop), Inv X pins σ H s → t σ H Q → wpAny (model X.prog X.w) X.A (isTrue e X.env whole) (TP X pins σ Q) X.xe s
theorem PW.pt {X : Cx} {e : Expr} {t : TT} (h : PW X e t) : PT X e t := h _
/-- an argument list (no star), from the left -/
def PA (X : Cx) (es : List Expr) (t : TA) : Prop :=
  ∀ (pos : Pos) (pins : List (Addr × Obj)) (s : Shared) (σ : St) (H : Hp) (Q : List V → Hp → Prop), Inv X pins σ H s → t σ H Q → wpAny (model X.prog X.w) X.A (spliced (backTo pos (starEach es X.env))) (AP X pins σ Q) X.xe s
def PS (X : Cx) (st : Stmt) (t : TS) : Prop :=
  ∀ (pins : List (Addr × Obj)) (s : Shared) (σ : St) (H : Hp) (D : Ends), Inv X pins σ H s → t D σ H → wpAny (model X.prog X.w) X.A (exec st X.env) (SP X pins D) X.xe s
def PSs (X : Cx) (st : List Stmt) (t : TS) : Prop :=
  ∀ (pins : List (Addr × Obj)) (s : Shared) (σ : St) (H : Hp) (D : Ends), Inv X pins σ H s → t D σ H → wpAny (model X.prog X.w) X.A (execs st X.env) (SP X pins D) X.xe s
/-- weaken the end -/
theorem thn {α : Type} {t : Sem α} {Q Q' : α → Shared → Prop} {M : Model} {A : Around} {E : Value → Shared → Prop} {s : Shared} (h : wpAny M A t Q E s) (hQ : ∀ a s, Q a s → Q' a s) : wpAny M A t Q' E s := wpAny_mono h hQ fun _ _ x => x
end L2

namespace L2
open PySem PySem.Spec PyProof.Rows
section
variable {X : Cx}

/-! ### names and constants -/
def tVar (i : Nat) : TE := fun σ H Q => ∃ v, σ[i]? = some (some v) ∧ Q v H
def tC (v : V) : TE := fun _ H Q => Q v H
theorem pe_var {i : Nat} {x : Str} {pos : Pos} (hN : X.N[i]? = some x) (hv : Vis X.env.scope x) (hd : (x == ("__debug__" : Str)) = false := by decide) (hcd : (x == ("__classdict__" : Str)) = false := by decide) : PE X (.Name x pos) (tVar i) := by
  intro pins s σ H Q I h
  obtain ⟨v, e, h⟩ := h
  obtain ⟨m, hn, hl⟩ := I.loc
  obtain ⟨u, r, l⟩ := hl i x v hN e hv
  have fin : EP X pins σ Q u s := ⟨v, H, I, r, h⟩
  rcases l with ⟨hk, hm⟩ | ⟨hk, c, hc, hcell⟩
  · exact wpAny_Name (wpAny_loadName_local I.ok.kind hk hn hm fin) hd
  · rcases hk with hk | hk
    · exact wpAny_Name (wpAny_loadName_cell I.ok.kind hk hc hcell fin) hd
    · exact wpAny_Name (wpAny_loadName_free I.ok.kind hk hc hcell fin hcd) hd
theorem pe_int {i j pos} : PE X (.Constant (.int i) j pos) (tC (.int i)) := fun _ _ _ H _ I h => wpAny_Constant_int ⟨.int i, H, I.tok _, ⟨_, rfl⟩, h⟩
theorem pe_bl {b j pos} : PE X (.Constant (.bool b) j pos) (tC (.bl b)) := fun _ _ _ H _ I h => Constant_bool ⟨.bl b, H, I, rfl, h⟩
theorem pe_str {x j pos} : PE X (.Constant (.str x) j pos) (tC (.str x)) := fun _ _ _ H _ I h => Calls.Constant_str ⟨.str x, H, I.tok _, ⟨_, rfl⟩, h⟩

/-- a global name of the def -/
def Gl (X : Cx) (x : Str) : Prop := X.env.kindOf x = some .globalImplicit
theorem ld_glob {E : Value → Shared → Prop} {pins : List (Addr × Obj)} {s : Shared} {σ : St} {H : Hp} {x : Str} {u : Value} {pos : Pos} {Q : Value → Shared → Prop} (I : Inv X pins σ H s) (hg : Gl X x) (hm : X.mg x = some u) (h : Q u s)
    (hd : (x == ("__debug__" : Str)) = false := by decide) : wpAny (model X.prog X.w) X.A (eval (.Name x pos) X.env) Q E s :=
  Calls.Name_function_global I.ok.kind hg (Calls.loadGlobal_global (by rw [I.ok.glob]; exact I.mod.glob.keeps I.bk) hm h) hd
theorem ld_blt {E : Value → Shared → Prop} {pins : List (Addr × Obj)} {s : Shared} {σ : St} {H : Hp} {x : Str} {u : Value} {pos : Pos} {Q : Value → Shared → Prop} (I : Inv X pins σ H s) (hg : Gl X x) (hm : X.mg x = none) (hv : bootBuiltins x = some u) (h : Q u s)
    (hn : x ≠ "__name__" := by decide) (hd : (x == ("__debug__" : Str)) = false := by decide) : wpAny (model X.prog X.w) X.A (eval (.Name x pos) X.env) Q E s := by
  obtain ⟨mb, h1, h2⟩ := I.mod.blt
  exact Calls.Name_function_global I.ok.kind hg (Calls.loadGlobal_builtin (by rw [I.ok.glob]; exact I.mod.glob.keeps I.bk) hm (by rw [I.ok.blt]; exact h1.keeps I.bk) ((h2 x hn).trans hv) h) hd
/-! ### arithmetic -/
/-- two ints -/
def t2I (ta tb : TE) (k : Int → Int → Hp → Prop) : St → Hp → Prop := fun σ H => ta σ H fun x H1 => tb σ H1 fun y H2 => ∃ i j, x = .int i ∧ y = .int j ∧ k i j H2
def tAdd (ta tb : TE) : TE := fun σ H Q => t2I ta tb (fun i j H2 => Q (.int (i + j)) H2) σ H
def tSub (ta tb : TE) : TE := fun σ H Q => t2I ta tb (fun i j H2 => Q (.int (i - j)) H2) σ H
/-- the left factor below 2^64 -/
def tMul (ta tb : TE) : TE := fun σ H Q => t2I ta tb (fun i j H2 => (-(2 ^ 64) < i ∧ i < 2 ^ 64) ∧ Q (.int (i * j)) H2) σ H
variable {a b : Expr} {ta tb : TE} {pos : Pos}
/-! ### comparisons -/
def PC (X : Cx) (op : CmpOp) (a b : Expr) (t : TE) : Prop :=
  ∀ (pins : List (Addr × Obj)) (s : Shared) (σ : St) (H : Hp) (Q : VK), Inv X pins σ H s → t σ H Q →
    wpAny (model X.prog X.w) X.A (eval a X.env) (fun v s₁ => wpAny (model X.prog X.w) X.A (eval b X.env) (fun u s₂ => wpAny (model X.prog X.w) X.A (compareOp op v u) (EP X pins σ Q) X.xe s₂) X.xe s₁) X.xe s
def tCmp (p : Int → Int → Bool) (ta tb : TE) : TE := fun σ H Q => t2I ta tb (fun i j H2 => Q (.bl (p i j)) H2) σ H
abbrev tLt : TE → TE → TE := tCmp fun i j => decide (i < j)
abbrev tLe : TE → TE → TE := tCmp fun i j => decide (i ≤ j)
abbrev tGt : TE → TE → TE := tCmp fun i j => decide (j < i)
abbrev tGe : TE → TE → TE := tCmp fun i j => decide (j ≤ i)
abbrev tEqI : TE → TE → TE := tCmp fun i j => decide (i = j)
abbrev tNeI : TE → TE → TE := tCmp fun i j => !decide (i = j)
/-- is None -/
def tIsN (ta : TE) : TE := fun σ H Q => ta σ H fun x H1 => Q (.bl (decide (x = .non))) H1
def tNotN (ta : TE) : TE := fun σ H Q => ta σ H fun x H1 => Q (.bl (!decide (x = .non))) H1
/-- a comparison as a value, as a test -/
def tB (t : TE) : TT := fun σ H Q => t σ H fun x H1 => ∃ c, x = .bl c ∧ Q c H1
/-- an expression whose value is a bool, as a test -/
theorem pt_val {e : Expr} {t : TE} (h : PE X e t) (he : ∀ whole, isTrue e X.env whole = (do let v ← whole; standAt e.pos; holding [v] (truthy v)) := by intro _; rfl) : PT X e (tB t) := by
  intro pins s σ H Q I hw
  refine isTrue_plain (thn (h pins s σ H _ I hw) fun v s1 ⟨x, H1, I1, r1, q1⟩ => ?_) (he _)
  obtain ⟨d, rfl, q⟩ := q1
  cases r1
  exact wpAny_truthy_bool ⟨H1, I1, q⟩

/-! ### and, or, not -/
variable {tA tB' : TT} {rest : List Expr}
def tAnd (t u : TT) : TT := fun σ H Q => t σ H fun c H1 => if c = true then u σ H1 Q else Q false H1
def tOr (t u : TT) : TT := fun σ H Q => t σ H fun c H1 => if c = true then Q true H1 else u σ H1 Q
def tNot (t : TT) : TT := fun σ H Q => t σ H fun c H1 => Q (!c) H1
theorem pw_and1 (ha : PT X a tA) : PW X (.BoolOp .And [a] pos) tA := by
  intro wh pins s σ H Q I h
  refine isTrue_and (thn (ha pins s σ H Q I h) fun c s1 e => ?_)
  cases c with
  | true => exact isTrue_and_nil e
  | false => exact e
theorem pw_or1 (ha : PT X a tA) : PW X (.BoolOp .Or [a] pos) tA := by
  intro wh pins s σ H Q I h
  refine isTrue_or (thn (ha pins s σ H Q I h) fun c s1 e => ?_)
  cases c with
  | false => exact isTrue_or_nil e
  | true => exact e
theorem pw_and (ha : PT X a tA) (hb : PW X (.BoolOp .And (b :: rest) pos) tB') : PW X (.BoolOp .And (a :: b :: rest) pos) (tAnd tA tB') := by
  intro wh pins s σ H Q I h
  refine isTrue_and (thn (ha pins s σ H _ I h) fun c s1 ⟨H1, I1, q1⟩ => ?_)
  cases c with
  | true => exact hb wh pins s1 σ H1 Q I1 q1
  | false => exact ⟨H1, I1, q1⟩
theorem pw_or (ha : PT X a tA) (hb : PW X (.BoolOp .Or (b :: rest) pos) tB') : PW X (.BoolOp .Or (a :: b :: rest) pos) (tOr tA tB') := by
  intro wh pins s σ H Q I h
  refine isTrue_or (thn (ha pins s σ H _ I h) fun c s1 ⟨H1, I1, q1⟩ => ?_)
  cases c with
  | true => exact ⟨H1, I1, q1⟩
  | false => exact hb wh pins s1 σ H1 Q I1 q1
/-- .. as values (bools) -/
def tAndV (ta tb : TE) : TE := fun σ H Q => ta σ H fun x H1 => ∃ c, x = .bl c ∧ if c = true then tb σ H1 Q else Q (.bl false) H1
def tOrV (ta tb : TE) : TE := fun σ H Q => ta σ H fun x H1 => ∃ c, x = .bl c ∧ if c = true then Q (.bl true) H1 else tb σ H1 Q
def tNotV (ta : TE) : TE := fun σ H Q => ta σ H fun x H1 => ∃ c, x = .bl c ∧ Q (.bl (!c)) H1
/-- a if t else b -/
def tIf (t : TT) (ta tb : TE) : TE := fun σ H Q => t σ H fun c H1 => if c = true then ta σ H1 Q else tb σ H1 Q
theorem pe_ifExp {c : Expr} (hc : PT X c tA) (ha : PE X a ta) (hb : PE X b tb) : PE X (.IfExp c a b pos) (tIf tA ta tb) := by
  intro pins s σ H Q I h
  refine wpAny_IfExp (thn (hc pins s σ H _ I h) fun d s1 ⟨H1, I1, q1⟩ => ?_)
  cases d with
  | true => exact ha pins s1 σ H1 Q I1 q1
  | false => exact hb pins s1 σ H1 Q I1 q1
end
end L2

namespace L2
open PySem PySem.Spec PyProof.Rows

/-! ### a list, a tuple that is read: tracked, frozen, or an object of the module -/
def SqL (K : PySem.W.Frag) (H : Hp) (a : Addr) (xs : List V) : Prop :=
  Rd H a (.lst xs) ∨
    ∃ (o : Obj) (its : Array Value) (n : Nat), K.lookup a = some o ∧ o.cls = .type "list" ∧ o.dict = none ∧ o.data = .seq its n ∧ its.size ≤ sizeLine ∧ Vals xs its.toList
def SqT (K : PySem.W.Frag) (H : Hp) (a : Addr) (xs : List V) : Prop :=
  Rd H a (.tup xs) ∨
    ∃ (o : Obj) (its : Array Value) (n : Nat), K.lookup a = some o ∧ o.cls = .type "tuple" ∧ o.data = .seq its n ∧ its.size ≤ sizeLine ∧ Vals xs its.toList
def absV : Value → Option V
  | .none => some .non
  | .bool b => some (.bl b)
  | .int i _ => some (.int i)
  | .str x _ => some (.str x)
  | .bytes b _ => some (.byt b)
  | .float b _ => some (.flt b)
  | .ref a => some (.ref a)
  | .type n => some (.ty n)
  | _ => none
theorem RelV.abs {x : V} {u : Value} (r : RelV x u) : absV u = some x := by
  cases x with
  | non => cases r; rfl
  | bl _ => cases r; rfl
  | int _ => obtain ⟨t, rfl⟩ := r; rfl
  | str _ => obtain ⟨t, rfl⟩ := r; rfl
  | byt _ => obtain ⟨t, rfl⟩ := r; rfl
  | flt _ => obtain ⟨t, rfl⟩ := r; rfl
  | ref _ => cases r; rfl
  | ty _ => cases r; rfl
theorem RelV.inj {x y : V} {u : Value} (r : RelV x u) (q : RelV y u) : x = y := Option.some.inj (r.abs.symm.trans q.abs)
theorem Vals.inj : ∀ {xs ys : List V} {us : List Value}, Vals xs us → Vals ys us → xs = ys
  | _, _, _, .nil, .nil => rfl
  | _, _, _, .cons r t, .cons r' t' => by rw [r.inj r', Vals.inj t t']
section
variable {X : Cx} {pins : List (Addr × Obj)} {σ : St} {H : Hp} {s : Shared} {a : Addr} {xs ys : List V}
theorem SqL.of {K : PySem.W.Frag} (h : H a = some (.lst xs)) : SqL K H a xs := .inl (.inl h)
theorem SqT.of {K : PySem.W.Frag} (h : H a = some (.tup xs)) : SqT K H a xs := .inl (.inl h)
theorem Inv.list (I : Inv X pins σ H s) (h : SqL X.K H a xs) : ∃ its : List Value, Vals xs its ∧ PlainL s.heap a its.toArray ∧ xs.length ≤ sizeLine := by
  rcases h with h | ⟨o, its, n, hk, hc, hd, hs, hz, r⟩
  · obtain ⟨z, its, n, r, e⟩ := h.ok I.hok
    exact ⟨its, r, ⟨_, n, e, rfl, rfl, rfl⟩, z⟩
  · refine ⟨its.toList, r, ⟨o, n, I.kIn a o hk, hc, hd, by simpa using hs⟩, ?_⟩
    have e := r.length
    simp only [Array.length_toList] at e
    omega
theorem Inv.tuple (I : Inv X pins σ H s) (h : SqT X.K H a xs) : ∃ its : List Value, Vals xs its ∧ IsTup s.heap a its.toArray ∧ xs.length ≤ sizeLine := by
  rcases h with h | ⟨o, its, n, hk, hc, hs, hz, r⟩
  · obtain ⟨z, its, r, p⟩ := h.ok I.hok
    exact ⟨its, r, p, z⟩
  · refine ⟨its.toList, r, ⟨o, I.kIn a o hk, hc, n, by simpa using hs⟩, ?_⟩
    have e := r.length
    simp only [Array.length_toList] at e
    omega
theorem Inv.list_inj (I : Inv X pins σ H s) (h : SqL X.K H a xs) (h' : SqL X.K H a ys) : xs = ys := by
  obtain ⟨its, r, ⟨o, n, e, _, _, d⟩, _⟩ := I.list h
  obtain ⟨its', r', ⟨o', n', e', _, _, d'⟩, _⟩ := I.list h'
  rw [e] at e'; cases e'
  rw [d] at d'
  injection d' with d1 _
  have : its = its' := by simpa using congrArg Array.toList d1
  subst this
  exact r.inj r'
end

/-! ### another wish about exceptions -/
abbrev Cx.wish (X : Cx) (E : Value → Shared → Prop) : Cx := { X with xe := E }
/-- no exception leaves -/
abbrev Cx.nox (X : Cx) : Cx := X.wish fun _ _ => False
theorem Cx.Ok.wish {X : Cx} (ok : X.Ok) (E : Value → Shared → Prop) : (X.wish E).Ok :=
  ⟨ok.mod, ok.kind, ok.glob, ok.blt, ok.above, ok.inj, ok.has, ok.cab, ok.hd, ok.frames, ok.stk, ok.exf, ok.bs, ok.bsz, ok.noex, ok.exfs, ok.funs, ok.frf⟩
theorem Cx.Ok.unwish {X : Cx} {E : Value → Shared → Prop} (ok : (X.wish E).Ok) : X.Ok :=
  ⟨ok.mod, ok.kind, ok.glob, ok.blt, ok.above, ok.inj, ok.has, ok.cab, ok.hd, ok.frames, ok.stk, ok.exf, ok.bs, ok.bsz, ok.noex, ok.exfs, ok.funs, ok.frf⟩
section
variable {X : Cx} {pins : List (Addr × Obj)} {σ : St} {H : Hp} {s : Shared} {E : Value → Shared → Prop}
theorem Inv.wish (I : Inv X pins σ H s) (E : Value → Shared → Prop) : Inv (X.wish E) pins σ H s := ⟨I.ok.wish E, I.os, I.bare, I.base, I.loc, I.cell, I.free, I.freeC, I.pin, I.hok, I.len⟩
theorem Inv.unwish (I : Inv (X.wish E) pins σ H s) : Inv X pins σ H s := ⟨I.ok.unwish, I.os, I.bare, I.base, I.loc, I.cell, I.free, I.freeC, I.pin, I.hok, I.len⟩
theorem SP.unwish {D : Ends} {f : Flow} {s' : Shared} (h : SP (X.wish E) pins D f s') : SP X pins D f s' := by
  cases f with
  | next => obtain ⟨σ', H', I, q⟩ := h; exact ⟨σ', H', I.unwish, q⟩
  | brk => obtain ⟨σ', H', I, q⟩ := h; exact ⟨σ', H', I.unwish, q⟩
  | cont => obtain ⟨σ', H', I, q⟩ := h; exact ⟨σ', H', I.unwish, q⟩
  | ret u => obtain ⟨v, σ', H', I, r, q⟩ := h; exact ⟨v, σ', H', I.unwish, r, q⟩
theorem PSs.nox {st : List Stmt} {t : TS} (h : PSs X.nox st t) : PSs X st t := fun pins s σ H D I hw =>
  wpAny_mono (h pins s σ H D (I.wish _) hw) (fun _ _ q => q.unwish) fun _ _ z => False.elim z
end

/-! ### blocks and small statements -/
section
variable {X : Cx} {st : Stmt} {rest : List Stmt} {t u : TS} {e : Expr} {te : TE} {pos : Pos}
def tNext : TS := fun D σ H => D.nx σ H
def tSeq (t u : TS) : TS := fun D σ H => t { D with nx := u D } σ H
theorem pss_nil : PSs X [] tNext := fun _ _ σ H _ I h => wpAny_execs_nil ⟨σ, H, I, h⟩
theorem pss_cons (h1 : PS X st t) (h2 : PSs X rest u) : PSs X (st :: rest) (tSeq t u) := by
  intro pins s σ H D I h
  refine wpAny_execs_cons (thn (h1 pins s σ H { D with nx := u D } I h) fun f s1 q => ?_)
  cases f with
  | next =>
    obtain ⟨σ', H', I', q⟩ := q
    exact h2 pins s1 σ' H' D I' q
  | ret v => exact q
  | brk => exact q
  | cont => exact q
theorem pss_one (h1 : PS X st t) : PSs X [st] t := by
  intro pins s σ H D I h
  refine wpAny_execs_cons (thn (h1 pins s σ H D I h) fun f s1 q => ?_)
  cases f with
  | next => exact wpAny_execs_nil q
  | ret v => exact q
  | brk => exact q
  | cont => exact q
def tBreak : TS := fun D σ H => D.bk σ H
def tCont : TS := fun D σ H => D.ct σ H
/-- in a def's body nothing is shown -/
theorem Inv.quiet {pins : List (Addr × Obj)} {σ : St} {H : Hp} {s : Shared} (I : Inv X pins σ H s) : interactive X.env = false := by simp [interactive, I.ok.kind]
/-- an expression whose value is dropped -/
def tDrop (te : TE) : TS := fun D σ H => te σ H fun _ H1 => D.nx σ H1
theorem ps_expr (he : PE X e te) (hs : swapsWith e none pos.line X.env = pure false := by rfl) : PS X (.Expr e pos) (tDrop te) := by
  intro pins s σ H D I h
  exact wpAny_Expr_any (thn (he pins s σ H _ I h) fun v s1 ⟨x, H1, I1, r1, q1⟩ => ⟨σ, H1, I1, q1⟩) I.quiet hs
def tRet (te : TE) : TS := fun D σ H => te σ H D.rt
theorem ps_ret (he : PE X e te) : PS X (.Return (some e) pos) (tRet te) := by
  intro pins s σ H D I h
  exact wpAny_Return_some (thn (he pins s σ H _ I h) fun v s1 ⟨x, H1, I1, r1, q1⟩ => ⟨x, σ, H1, I1, r1, q1⟩)
def tRetN : TS := fun D _ H => D.rt .non H
def tIfS (c : TT) (t u : TS) : TS := fun D σ H => c σ H fun b H1 => if b = true then t D σ H1 else u D σ H1
theorem ps_if {c : Expr} {a b : List Stmt} {tc : TT} (hc : PT X c tc) (ha : PSs X a t) (hb : PSs X b u) : PS X (.If c a b pos) (tIfS tc t u) := by
  intro pins s σ H D I h
  refine wpAny_If (thn (hc pins s σ H _ I h) fun d s1 ⟨H1, I1, q1⟩ => ?_)
  cases d with
  | true => exact ha pins s1 σ H1 D I1 q1
  | false => exact hb pins s1 σ H1 D I1 q1
/-- code that the proof never comes to -/
def tNever : TS := fun _ _ _ => False
end

/-! ### targets -/
abbrev TG := V → St → Hp → (St → Hp → Prop) → Prop
abbrev TGs := List V → St → Hp → (St → Hp → Prop) → Prop
def PG (X : Cx) (target : Expr) (t : TG) : Prop :=
  ∀ (pins : List (Addr × Obj)) (s : Shared) (σ : St) (H : Hp) (v : V) (u : Value) (Q : St → Hp → Prop), Inv X pins σ H s → RelV v u → t v σ H Q →
    wpAny (model X.prog X.w) X.A (assign target X.env u) (fun _ s' => ∃ σ' H', Inv X pins σ' H' s' ∧ Q σ' H') X.xe s
/-- several targets, one after another -/
def PGs (X : Cx) (ts : List Expr) (t : TGs) : Prop :=
  ∀ (pins : List (Addr × Obj)) (s : Shared) (σ : St) (H : Hp) (vs : List V) (us : List Value) (Q : St → Hp → Prop), Inv X pins σ H s → Vals vs us → t vs σ H Q →
    wpAny (model X.prog X.w) X.A (assignInOrder ((assignEach ts X.env).map (·.2)) us) (fun _ s' => ∃ σ' H', Inv X pins σ' H' s' ∧ Q σ' H') X.xe s
/-- o[i] = v, by values -/
abbrev TSet := V → V → V → Hp → (Hp → Prop) → Prop
def PSet (X : Cx) (t : TSet) : Prop :=
  ∀ (pins : List (Addr × Obj)) (s : Shared) (σ : St) (H : Hp) (o i v : V) (ov iv u : Value) (Q : Hp → Prop), Inv X pins σ H s → RelV o ov → RelV i iv → RelV v u → t o i v H Q →
    wpAny (model X.prog X.w) X.A (setItem ov iv u) (fun _ s' => ∃ H', Inv X pins σ H' s' ∧ Q H') X.xe s
/-- a op= b, by values -/
abbrev TIp := V → V → Hp → VK → Prop
def PIp (X : Cx) (op : Operator) (t : TIp) : Prop :=
  ∀ (pins : List (Addr × Obj)) (s : Shared) (σ : St) (H : Hp) (x y : V) (v u : Value) (Q : VK), Inv X pins σ H s → RelV x v → RelV y u → t x y H Q →
    wpAny (model X.prog X.w) X.A (inplaceOp op v u) (EP X pins σ Q) X.xe s
section
variable {X : Cx} {pos : Pos}
def gName (i : Nat) : TG := fun v σ H Q => Q (σ.set i (some v)) H
theorem pg_name {i : Nat} {x : Str} (hN : X.N.Nodup) (hi : X.N[i]? = some x) (hx : Loc X.env.scope x) (hf : X.fn x = true ∨ X.env.scope.names.lookup x = some .local := by first | exact .inl rfl | exact .inr rfl | assumption) : PG X (.Name x pos) (gName i) := by
  intro pins s σ H v u Q I r h
  exact wpAny_assign_Name (store_ok I hN hi hx r (fun s' I' => ⟨_, H, I', h⟩) hf)
def gNil : TGs := fun vs σ H Q => vs = [] ∧ Q σ H
def gCons (t : TG) (u : TGs) : TGs := fun vs σ H Q => ∃ v r, vs = v :: r ∧ t v σ H fun σ' H' => u r σ' H' Q
theorem pgs_nil : PGs X [] gNil := by
  intro pins s σ H vs us Q I r h
  obtain ⟨e, h⟩ := h
  subst e
  cases r
  exact assignInOrder_nil ⟨σ, H, I, h⟩
theorem pgs_cons {e : Expr} {es : List Expr} {t : TG} {u : TGs} (h1 : PG X e t) (h2 : PGs X es u)
    (hs : (assignEach (e :: es) X.env).map (·.2) = assign e X.env :: (assignEach es X.env).map (·.2) := by rfl) : PGs X (e :: es) (gCons t u) := by
  intro pins s σ H vs us Q I r h
  obtain ⟨v, vr, e1, h⟩ := h
  subst e1
  cases r with
  | cons r rr =>
    rw [hs]
    refine assignInOrder_cons (thn (h1 pins s σ H _ _ _ I r h) fun _ s1 ⟨σ1, H1, I1, q1⟩ => ?_)
    exact h2 pins s1 σ1 H1 _ _ Q I1 rr q1
/-- (a, b, ..) = a tuple of that length -/
def gTup (K : PySem.W.Frag) (n : Nat) (t : TGs) : TG := fun v σ H Q => ∃ a xs, v = .ref a ∧ SqT K H a xs ∧ xs.length = n ∧ t xs σ H Q
theorem pg_tup {es : List Expr} {k : Nat} {t : TGs} {n : Nat} (hc : X.calm = true) (h : PGs X es t)
    (hn : (assignEach es X.env).length = n := by rfl) (hst : (assignEach es X.env).findIdx? (·.1) = none := by rfl) : PG X (.Tuple es k pos) (gTup X.K n t) := by
  intro pins s σ H v u Q I r hw
  obtain ⟨a, xs, e1, hq, hl, hw⟩ := hw
  subst e1
  cases r
  obtain ⟨its, rv, ht, hz⟩ := I.tuple hq
  refine assign_Tuple_tuple (I.ok.hd hc) ht (by simp [hn, ← hl, rv.length]) hst fun h' hx => ?_
  have I1 : Inv X pins σ H { s with heap := h' } := I.kept (t' := s.toks) fun b o e => hx b o (Nat.ne_of_lt (Heap.lt_size e)) e
  exact h pins _ σ H xs _ Q I1 (by simpa using rv) hw
/-- o[i] = .. -/
def gSub (to ti : TE) (t : TSet) : TG := fun v σ H Q => to σ H fun o H1 => ti σ H1 fun i H2 => t o i v H2 fun H3 => Q σ H3
theorem pg_sub {o i : Expr} {to ti : TE} {t : TSet} (ho : PE X o to) (hi : PE X i ti) (hs : PSet X t)
    (ha : ∀ v, assign (.Subscript o i pos) X.env v = (do
      let ov ← holding [v] (eval o X.env)
      let iv ← holding [v, ov] (eval i X.env)
      standAt pos
      holding [v, ov, iv] (setItem ov iv v)
      release [v, ov, iv] []) := by intro _; rfl) : PG X (.Subscript o i pos) (gSub to ti t) := by
  intro pins s σ H v u Q I r h
  rw [ha]
  refine wpAny_bind (wpAny_holding (thn (ho pins s σ H _ I h) fun ov s1 ⟨x, H1, I1, r1, q1⟩ => ?_))
  refine wpAny_bind (wpAny_holding (thn (hi pins s1 σ H1 _ I1 q1) fun iv s2 ⟨y, H2, I2, r2, q2⟩ => ?_))
  refine wpAny_bind (wpAny_standAt (wpAny_bind (wpAny_holding (thn (hs pins s2 σ H2 x y v ov iv u _ I2 r1 r2 r q2) fun _ s3 ⟨H3, I3, q3⟩ => ?_))))
  exact wpAny_release ⟨σ, H3, I3, q3⟩
/-- target = value -/
def tAsg (te : TE) (g : TG) : TS := fun D σ H => te σ H fun x H1 => g x σ H1 D.nx
theorem ps_asg {tg e : Expr} {te : TE} {g : TG} (he : PE X e te) (hg : PG X tg g) (hs : swapsWithSole [tg] e pos.line X.env = pure false := by rfl) (hw : swappedStores [tg] e X.env = pure none := by rfl)
    (h1 : (assignEach [tg] X.env).map (·.2) = [assign tg X.env] := by rfl) : PS X (.Assign [tg] e pos) (tAsg te g) := by
  intro pins s σ H D I h
  refine wpAny_Assign_stores (thn (he pins s σ H _ I h) fun v s1 ⟨x, H1, I1, r1, q1⟩ => ?_) hs hw
  rw [h1]
  exact thn (hg pins s1 σ H1 x v _ I1 r1 q1) fun _ s2 q => q
/-- name = value -/
theorem ps_set {i : Nat} {x : Str} {e : Expr} {te : TE} {pos' : Pos} (hN : X.N.Nodup) (hi : X.N[i]? = some x) (hx : Loc X.env.scope x) (he : PE X e te) (hs : swapsWith e (some (.Name x pos')) pos.line X.env = pure false := by rfl) (hf : X.fn x = true ∨ X.env.scope.names.lookup x = some .local := by first | exact .inl rfl | exact .inr rfl | assumption) :
    PS X (.Assign [.Name x pos'] e pos) (tAsg te (gName i)) := by
  intro pins s σ H D I h
  refine wpAny_Assign_Name (thn (he pins s σ H _ I h) fun v s1 ⟨y, H1, I1, r1, q1⟩ => ?_) hs
  exact store_ok I1 hN hi hx r1 (fun s2 I2 => ⟨_, H1, I2, q1⟩) hf
/-- a, b = x, y with plain local names: stored from the right; the pair itself is not tracked (the opening rows as in PyProof/Rows/TupAssign.lean:23) -/
def tPar (i j : Nat) (ta : TA) : TS := fun D σ H => ta σ H fun vs H1 => ∃ v w, vs = [v, w] ∧ D.nx ((σ.set i (some v)).set j (some w)) H1
/-- name op= e -/
def tAug (i : Nat) (te : TE) (ti : TIp) : TS := fun D σ H => ∃ x, σ[i]? = some (some x) ∧ te σ H fun y H1 => ti x y H1 fun z H2 => D.nx (σ.set i (some z)) H2
/-- o[i] op= e -/
def tAugS (to ti te : TE) (tget : V → V → Hp → VK → Prop) (tip : TIp) (tset : TSet) : TS := fun D σ H => to σ H fun o H1 => ti σ H1 fun i H2 => tget o i H2 fun x H3 => te σ H3 fun y H4 => tip x y H4 fun z H5 => tset o i z H5 fun H6 => D.nx σ H6
/-- o[i], by values -/
def PGet (X : Cx) (t : V → V → Hp → VK → Prop) : Prop :=
  ∀ (pins : List (Addr × Obj)) (s : Shared) (σ : St) (H : Hp) (o i : V) (ov iv : Value) (Q : VK), Inv X pins σ H s → RelV o ov → RelV i iv → t o i H Q →
    wpAny (model X.prog X.w) X.A (getItem ov iv) (EP X pins σ Q) X.xe s
/-- ints -/
def ipI (f : Int → Int → Int) : TIp := fun x y H Q => ∃ i j, x = .int i ∧ y = .int j ∧ Q (.int (f i j)) H
end

/-! ### while -/
section
variable {X : Cx} {pos : Pos}
/-- the invariant W with its measure -/
def tWhile (c : TT) (tb : TS) : TS := fun D σ H => ∃ W : Nat → St → Hp → Prop, (∃ m, W m σ H) ∧ ∀ m σ H, W m σ H →
  c σ H fun b H1 => if b = true then ∃ N : St → Hp → Prop, (∀ σ' H', N σ' H' → ∃ m', m' < m ∧ W m' σ' H') ∧ tb { D with nx := N, ct := N, bk := D.nx } σ H1 else D.nx σ H1
end

/-! ### what a loop or a comprehension walks -/
/-- at turn i: it yields x (the heap may grow), or it stops -/
structure It where
  go : Nat → Hp → Prop
  yld : Nat → Hp → V → Hp → Prop
  stop : Nat → Hp → Prop
/-- the iterator's own objects may turn: they are not the frame's, not pinned, younger than the entry (or a comprehension's own) -/
def FpOk (X : Cx) (pins : List (Addr × Obj)) (H : Hp) (b : Addr) : Prop :=
  H b = none ∧ b ≠ X.env.locals ∧ b ∉ X.fs ∧ (b ∈ X.ex ∨ X.s₀.heap.objs.size ≤ b) ∧ (∀ x c, X.env.cells.lookup x = some c → c ≠ b) ∧ ∀ p ∈ X.pn ++ pins, p.1 ≠ b
theorem Inv.fpOk {X : Cx} {pins : List (Addr × Obj)} {σ : St} {H H' : Hp} {s : Shared} {b : Addr} (I : Inv X pins σ H s) (hb : s.heap.objs.size ≤ b) (hn : H' b = none) : FpOk X pins H' b := by
  refine ⟨hn, Nat.ne_of_gt (Nat.lt_of_lt_of_le I.lt hb), I.nofs hb, .inr (Nat.le_trans I.sz hb), fun x c e z => ?_, fun p hp z => ?_⟩
  · obtain ⟨v, q⟩ := I.cell x c e
    exact absurd (Nat.lt_of_lt_of_le q.lt (by rw [z]; exact hb)) (Nat.lt_irrefl _)
  · exact absurd (Nat.lt_of_lt_of_le (Heap.lt_size (I.pin p hp).1) (by rw [z]; exact hb)) (Nat.lt_irrefl _)
structure Turn (P : Program) (w : World) (K : PySem.W.Frag) (tg : Expr) (J : It) (fp : List Addr) (it : Addr) (tn : Nat → Heap → Prop) : Prop where
  mem : it ∈ fp
  obj : ∀ i h, tn i h → ∀ b ∈ fp, ∃ o, h.get? b = some o ∧ ∀ v, o.data ≠ .cell v
  keep : ∀ i h h', tn i h → (∀ b ∈ fp, ∀ o, h.get? b = some o → h'.get? b = some o) → tn i h'
  item : ∀ (X : Cx), X.prog = P → X.w = w → X.K = K → X.calm = true → ∀ (i : Nat) (pins : List (Addr × Obj)) (s : Shared) (σ : St) (H : Hp) (E : Value → Shared → Prop), Inv X pins σ H s → (∀ b ∈ fp, FpOk X pins H b) → tn i s.heap → J.go i H →
    wpAny (model P w) X.A (pyNext (.ref it)) (fun r s1 => ∃ u, r = some u ∧
      wpAny (model P w) X.A (letOwnedTupleGo tg (.ref it) u) (fun _ s2 => ∃ x H', Inv X pins σ H' s2 ∧ RelV x u ∧ J.yld i H x H' ∧ tn (i + 1) s2.heap ∧ ∀ b ∈ fp, H' b = none) E s1) E s
  done : ∀ (X : Cx), X.prog = P → X.w = w → X.K = K → X.calm = true → ∀ (i : Nat) (pins : List (Addr × Obj)) (s : Shared) (σ : St) (H : Hp) (E : Value → Shared → Prop), Inv X pins σ H s → (∀ b ∈ fp, FpOk X pins H b) → tn i s.heap → J.stop i H →
    wpAny (model P w) X.A (pyNext (.ref it)) (fun r s1 => r = none ∧ Inv X pins σ H s1) E s
  self : ∀ (A : Around) (i : Nat) (s : Shared) (Q : Value → Shared → Prop) (E : Value → Shared → Prop), tn i s.heap → Q (.ref it) s → wpAny (model P w) A (pyIter (.ref it)) Q E s
abbrev TI := St → Hp → (It → Hp → Prop) → Prop
/-- an iterator has come -/
def PIE (X : Cx) (pins : List (Addr × Obj)) (σ : St) (tg : Expr) (R : It → Hp → Prop) (itv : Value) (s2 : Shared) : Prop :=
  ∃ (it : Addr) (fp : List Addr) (tn : Nat → Heap → Prop) (J : It) (H' : Hp), itv = .ref it ∧ Inv X pins σ H' s2 ∧ Turn X.prog X.w X.K tg J fp it tn ∧ tn 0 s2.heap ∧ (∀ b ∈ fp, FpOk X pins H' b) ∧ R J H'
def PI (X : Cx) (tg iter : Expr) (wi : TI) : Prop :=
  ∀ (pins : List (Addr × Obj)) (s : Shared) (σ : St) (H : Hp) (R : It → Hp → Prop), Inv X pins σ H s → wi σ H R →
    wpAny (model X.prog X.w) X.A (eval iter X.env) (fun v s1 => wpAny (model X.prog X.w) X.A (pyIter v) (PIE X pins σ tg R) X.xe s1) X.xe s

/-- the step ahead of the store is nothing for an iterator that keeps no tuple -/
theorem go_of {M : Model} {A : Around} {E : Value → Shared → Prop} {s : Shared} {tg : Expr} {it : Addr} {u : Value} {o : Obj} {n : String} {vs : Array Value} {Q : Unit → Shared → Prop} (ho : s.heap.get? it = some o) (hc : o.cls = .type n) (hd : o.data = .fields vs)
    (hn : ["enumerate", "zip", "dict_itemiterator", "dict_reverseitemiterator", "odict_iterator", "itertools.zip_longest", "itertools.pairwise"].contains n = false) (hQ : Q () s) : wpAny M A (letOwnedTupleGo tg (.ref it) u) Q E s := by
  unfold letOwnedTupleGo
  cases tg <;> first
    | exact wpAny_pure hQ
    | (cases u <;> first
        | exact wpAny_pure hQ
        | (refine wpAny_bind (wpAny_load ho ?_)
           rw [hc, hd]
           show wpAny M A (if (["enumerate", "zip", "dict_itemiterator", "dict_reverseitemiterator", "odict_iterator", "itertools.zip_longest", "itertools.pairwise"].contains n && vs[0]? == some (rawInt _)) = true then _ else _) Q E s
           rw [if_neg (by intro h; rw [hn, Bool.false_and] at h; cases h)]
           exact wpAny_pure hQ))

/-- the list at a, as it stands at each turn (a loop may append to it) -/
def Itl (K : PySem.W.Frag) (a : Addr) : It :=
  ⟨fun i H => ∃ xs x, SqL K H a xs ∧ xs[i]? = some x, fun i H x H' => H' = H ∧ ∀ xs, SqL K H a xs → xs[i]? = some x, fun i H => ∃ xs, SqL K H a xs ∧ xs.length ≤ i⟩
def Itt (K : PySem.W.Frag) (a : Addr) : It :=
  ⟨fun i H => ∃ xs x, SqT K H a xs ∧ xs[i]? = some x, fun i H x H' => H' = H ∧ ∀ xs, SqT K H a xs → xs[i]? = some x, fun i H => ∃ xs, SqT K H a xs ∧ xs.length ≤ i⟩
/-- lo, lo + 1, .. (n of them) -/
def Itr (lo : Int) (n : Nat) : It := ⟨fun i _ => i < n, fun i H x H' => H' = H ∧ x = .int (lo + i), fun i _ => n ≤ i⟩
theorem turn_list {P : Program} {w : World} {K : PySem.W.Frag} {tg : Expr} (a it : Addr) : Turn P w K tg (Itl K a) [it] it (fun i h => h.IsListIter it a i) where
  mem := by simp
  obj := fun i h st b hb => by
    have e : b = it := by simpa using hb
    subst e
    obtain ⟨o, e, c, d⟩ := st
    exact ⟨o, e, fun v z => by rw [d] at z; cases z⟩
  keep := fun i h h' st k => st.at fun o e => k it (by simp) o e
  item := by
    intro X hP hw hK hc i pins s σ H E I hf st hg
    subst hP hw hK
    obtain ⟨xs, x, hq, hx⟩ := hg
    obtain ⟨its, rv, p, hz⟩ := I.list hq
    obtain ⟨u, hu, ru⟩ := rv.get hx
    obtain ⟨f0, f1, f2, f3, f4, f5⟩ := hf it (by simp)
    refine wpAny_pyNext_list_item st p.isList (x := u) (by simpa using hu) fun h' st' sb => ?_
    have I1 : Inv X pins σ H { s with heap := h' } := I.turned (t' := s.toks) (fun b o hb e => (sb.2 b hb).trans e) f0 f1 f3 f4 f5
    obtain ⟨o, e, c, d⟩ := id st'
    exact ⟨u, rfl, go_of (s := { s with heap := h' }) e c d (by decide) ⟨x, H, I1, ru, ⟨rfl, fun ys hy => by rw [I.list_inj hy hq]; exact hx⟩, st', fun b hb => (hf b hb).1⟩⟩
  done := by
    intro X hP hw hK hc i pins s σ H E I hf st hg
    subst hP hw hK
    obtain ⟨xs, hq, hx⟩ := hg
    obtain ⟨its, rv, p, hz⟩ := I.list hq
    obtain ⟨f0, f1, f2, f3, f4, f5⟩ := hf it (by simp)
    have hl := rv.length
    exact wpAny_pyNext_list_end (I.ok.hd hc) st p.isList (by simp; omega) fun h' eb => ⟨rfl, I.turned (t' := s.toks) (fun b o hb e => eb b o hb e) f0 f1 f3 f4 f5⟩
  self := fun _ _ _ _ _ st h => wpAny_pyIter_listiter st h
theorem turn_range {P : Program} {w : World} {K : PySem.W.Frag} {tg : Expr} (it : Addr) (lo : Int) (n : Nat) : Turn P w K tg (Itr lo n) [it] it (fun i h => IsRangeIter h it (lo + (i : Nat) * 1) ((n : Int) - (i : Nat)) 1) where
  mem := by simp
  obj := fun i h st b hb => by
    have e : b = it := by simpa using hb
    subst e
    exact ⟨_, st, fun v z => by
      have z' : Data.fields _ = Data.cell v := z
      cases z'⟩
  keep := fun i h h' st k => k it (by simp) _ st
  item := by
    intro X hP hw hK hc i pins s σ H E I hf st hg
    subst hP hw hK
    obtain ⟨f0, f1, f2, f3, f4, f5⟩ := hf it (by simp)
    have W := Walks.range (prog := X.prog) (w := X.w) (I.ok.hd hc) it lo 1 n
    refine W.item i s _ _ hg st fun v h' tk hv st' kk => ?_
    obtain ⟨t, rfl⟩ := hv
    have I1 : Inv X pins σ H { s with heap := h', toks := tk } := I.turned (fun b o hb e => kk b o (by simpa using hb) e) f0 f1 f3 f4 f5
    refine ⟨_, rfl, go_of (s := { s with heap := h', toks := tk }) (n := "range_iterator") st' rfl rfl (by decide) ⟨.int (lo + i), H, I1, ⟨t, ?_⟩, ⟨rfl, rfl⟩, st', fun b hb => (hf b hb).1⟩⟩
    rw [Int.mul_one]
  done := by
    intro X hP hw hK hc i pins s σ H E I hf st hg
    subst hP hw hK
    obtain ⟨f0, f1, f2, f3, f4, f5⟩ := hf it (by simp)
    exact wpAny_pyNext_range_end (I.ok.hd hc) st (by have : n ≤ i := hg; omega) fun h' eb => ⟨rfl, I.turned (t' := s.toks) (fun b o hb e => eb b o hb e) f0 f1 f3 f4 f5⟩
  self := fun _ _ _ _ _ st h => wpAny_pyIter_rangeiter st h
end L2

namespace L2
open PySem PySem.Spec PyProof.Rows
section
variable {X : Cx} {tg : Expr}
def iList (K : PySem.W.Frag) (tl : TE) : TI := fun σ H R => tl σ H fun x H1 => ∃ a, x = .ref a ∧ (∃ xs, SqL K H1 a xs) ∧ R (Itl K a) H1
def iTup (K : PySem.W.Frag) (tl : TE) : TI := fun σ H R => tl σ H fun x H1 => ∃ a, x = .ref a ∧ (∃ xs, SqT K H1 a xs) ∧ R (Itt K a) H1
theorem pi_list {l : Expr} {tl : TE} (hl : PE X l tl) : PI X tg l (iList X.K tl) := by
  intro pins s σ H R I h
  refine thn (hl pins s σ H _ I h) fun v s1 ⟨x, H1, I1, r1, q1⟩ => ?_
  obtain ⟨a, e, ⟨xs, hq⟩, q⟩ := q1
  subst e
  cases r1
  obtain ⟨its, rv, p, hz⟩ := I1.list hq
  refine wpAny_pyIter_list p.isList ?_
  refine ⟨s1.heap.objs.size, [s1.heap.objs.size], _, _, H1, rfl, I1.kept (t' := s1.toks) fun b o e => Heap.get?_push_of_some _ e, turn_list a _, ⟨_, Heap.get?_push_size _ rfl, rfl, rfl⟩, fun b hb => ?_, q⟩
  have e : b = s1.heap.objs.size := by simpa using hb
  subst e
  exact I1.fpOk (Nat.le_refl _) (I1.hok.fresh (Nat.le_refl _))
/-- a range object just made, walked -/
theorem range_it {pins : List (Addr × Obj)} {σ : St} {H : Hp} {s : Shared} {R : It → Hp → Prop} {E : Value → Shared → Prop} {lo hi : Int} {t u v : Tok} {tk : Nat} (I : Inv X pins σ H s) (h1 : -(2 ^ 62) ≤ lo) (h2 : lo < 2 ^ 62) (h3 : -(2 ^ 62) ≤ hi) (h4 : hi < 2 ^ 62)
    (q : R (Itr lo (hi - lo).toNat) H) : wpAny (model X.prog X.w) X.A (pyIter (.ref s.heap.objs.size)) (PIE X pins σ tg R) E { s with heap := s.heap.push { cls := .type "range", data := .fields #[.int lo t, .int hi u, .int 1 v] }, toks := tk } := by
  refine wpAny_pyIter_range (IsRange.new ..) (small_one h1 h2 h3 h4) ?_
  have I1 : Inv X pins σ H { s with heap := s.heap.push { cls := .type "range", data := .fields #[.int lo t, .int hi u, .int 1 v] }, toks := tk } := I.kept fun b o e => Heap.get?_push_of_some _ e
  refine ⟨(s.heap.push { cls := .type "range", data := .fields #[.int lo t, .int hi u, .int 1 v] }).objs.size, [(s.heap.push { cls := .type "range", data := .fields #[.int lo t, .int hi u, .int 1 v] }).objs.size], _, _, H, rfl,
    I1.kept (t' := tk) fun b o e => Heap.get?_push_of_some _ e, turn_range _ lo (hi - lo).toNat, ?_, fun b hb => ?_, q⟩
  · have e1 : lo + ((0 : Nat) : Int) * 1 = lo := by simp
    have e2 : (((hi - lo).toNat : Nat) : Int) - ((0 : Nat) : Int) = Builtin.Range.rangeSize lo hi 1 := by rw [rangeSize_one]; split <;> omega
    show IsRangeIter _ _ (lo + ((0 : Nat) : Int) * 1) ((((hi - lo).toNat : Nat) : Int) - ((0 : Nat) : Int)) 1
    rw [e1, e2]
    exact Heap.get?_push_size _ rfl
  · have e : b = (s.heap.push { cls := .type "range", data := .fields #[.int lo t, .int hi u, .int 1 v] }).objs.size := by simpa using hb
    subst e
    exact I1.fpOk (Nat.le_refl _) (I1.hok.fresh (Nat.le_refl _))
def iRng1 (ta : TA) : TI := fun σ H R => ta σ H fun vs H1 => ∃ j : Int, vs = [.int j] ∧ -(2 ^ 62) ≤ j ∧ j < 2 ^ 62 ∧ R (Itr 0 j.toNat) H1
def iRng2 (ta : TA) : TI := fun σ H R => ta σ H fun vs H1 => ∃ i j : Int, vs = [.int i, .int j] ∧ (-(2 ^ 62) ≤ i ∧ i < 2 ^ 62 ∧ -(2 ^ 62) ≤ j ∧ j < 2 ^ 62) ∧ R (Itr i (j - i).toNat) H1
theorem pi_range1 {a : Expr} {ta : TA} {p pos : Pos} (hg : Gl X "range") (hm : X.mg "range" = none) (ha : PA X [a] ta) (hs : starEach [a] X.env = [(false, eval a X.env)] := by rfl) : PI X tg (.Call (.Name "range" p) [a] [] pos) (iRng1 ta) := by
  intro pins s σ H R I h
  refine Call_ (ld_blt I hg hm boot_range (PyProof.Rows.callWith_type1 (thn (ha pos pins s σ H _ I h) fun us s1 ⟨vs, H1, I1, r1, q1⟩ => ?_) hs rfl))
  obtain ⟨j, e, q1, q2, q⟩ := q1
  subst e
  cases r1 with
  | cons r rr =>
    cases rr
    obtain ⟨t, rfl⟩ := r
    exact call_range_1 (range_it I1 (by omega) (by omega) q1 q2 (by simpa using q))
/-! ### for -/
/-- W: the invariant by the turn and a measure; N: what the body is to reach -/
def tFor (wi : TI) (g : TG) (tb : TS) : TS := fun D σ H => wi σ H fun J H1 => ∃ W : Nat → Nat → St → Hp → Prop, (∃ m, W 0 m σ H1) ∧ ∀ i m σ H, W i m σ H →
  (J.stop i H ∧ D.nx σ H) ∨ (J.go i H ∧ ∃ N : St → Hp → Prop, (∀ σ' H', N σ' H' → ∃ m', m' < m ∧ W (i + 1) m' σ' H') ∧ ∀ x H', J.yld i H x H' → g x σ H' fun σ2 H2 => tb { D with nx := N, ct := N, bk := D.nx } σ2 H2)
/-- the records at fp as they stand -/
def pinsAt (fp : List Addr) (h : Heap) : List (Addr × Obj) := fp.filterMap fun b => (h.get? b).map fun o => (b, o)
theorem mem_pinsAt {fp : List Addr} {h : Heap} {b : Addr} {o : Obj} (hb : b ∈ fp) (e : h.get? b = some o) : (b, o) ∈ pinsAt fp h := List.mem_filterMap.mpr ⟨b, hb, by rw [e]; rfl⟩
theorem of_pinsAt {fp : List Addr} {h : Heap} {p : Addr × Obj} (hp : p ∈ pinsAt fp h) : p.1 ∈ fp ∧ h.get? p.1 = some p.2 := by
  obtain ⟨b, hb, e⟩ := List.mem_filterMap.mp hp
  cases q : h.get? b with
  | none => rw [q] at e; cases e
  | some o =>
    rw [q] at e
    have e' : (b, o) = p := Option.some.inj e
    subst e'
    exact ⟨hb, q⟩
theorem Inv.pinned {pins : List (Addr × Obj)} {σ : St} {H : Hp} {s : Shared} {fp : List Addr} (I : Inv X pins σ H s) (hf : ∀ b ∈ fp, FpOk X pins H b) (ho : ∀ b ∈ fp, ∃ o, s.heap.get? b = some o ∧ ∀ v, o.data ≠ .cell v) : Inv X (pins ++ pinsAt fp s.heap) σ H s :=
  I.pins_of fun p hp => (List.mem_append.mp hp).elim (fun z => I.pin p (List.mem_append_right _ z)) fun z => by
    obtain ⟨hb, e⟩ := of_pinsAt z
    obtain ⟨f0, f1, f2, _⟩ := hf p.1 hb
    obtain ⟨o, e', d⟩ := ho p.1 hb
    rw [e] at e'; cases e'
    exact ⟨e, f0, f1, f2, d⟩
theorem Inv.unpinned {pins pl : List (Addr × Obj)} {σ : St} {H : Hp} {s : Shared} (I : Inv X (pins ++ pl) σ H s) : Inv X pins σ H s := I.pins_of fun p hp => I.pin p (List.mem_append_right _ (List.mem_append_left _ hp))
theorem ps_for {iter : Expr} {body : List Stmt} {wi : TI} {g : TG} {tb : TS} {pos : Pos} (hp : PassesOwn (model X.prog X.w) X.A X.env X.xe) (hc : X.calm = true) (hi : PI X tg iter wi) (hg : PG X tg g) (hb : PSs X body tb)
    (hs : ∀ x, foldedSetIterable iter X.env x = pure x := by intro _; rfl) : PS X (.For tg iter body [] pos) (tFor wi g tb) := by
  intro pins s σ H D I h
  refine wpAny_For (thn (hi pins s σ H _ I h) fun v s1 h1 => thn h1 fun itv s2 h2 => ?_) hs
  obtain ⟨it, fp, tn, J, H2, e, I2, T, st2, f2, W, ⟨m0, w0⟩, turn⟩ := h2
  subst e
  -- what stays true of the iterator's objects through the loop
  have stat : ∀ {H' : Hp}, (∀ b ∈ fp, H' b = none) → ∀ b ∈ fp, FpOk X pins H' b := fun hn b hb => ⟨hn b hb, (f2 b hb).2⟩
  refine codeAny_forLoop_any (fun n s' => ∃ i σ' H', Inv X pins σ' H' s' ∧ tn i s'.heap ∧ (∀ b ∈ fp, H' b = none) ∧ W i n σ' H') ?_ m0 ⟨0, σ, H2, I2, st2, fun b hb => (f2 b hb).1, w0⟩
  rintro n s3 ⟨i, σ3, H3, I3, st3, fr3, w3⟩
  rcases turn i n σ3 H3 w3 with ⟨stop, qn⟩ | ⟨go, N, hN, step⟩
  · refine wpAny_passesOwn hp (thn (T.done X rfl rfl rfl hc i pins s3 σ3 H3 X.xe I3 (stat fr3) st3 stop) fun r s4 ⟨hr, I4⟩ => ?_)
    subst hr
    exact wpAny_execs_nil ⟨σ3, H3, I4, qn⟩
  · refine wpAny_passesOwn hp (thn (T.item X rfl rfl rfl hc i pins s3 σ3 H3 X.xe I3 (stat fr3) st3 go) fun r s4 ⟨u, hr, h4⟩ => ?_)
    subst hr
    refine wpAny_passesOwn hp (thn h4 fun _ s5 ⟨x, H5, I5, r5, y5, st5, fr5⟩ => ?_)
    have I5' := I5.pinned (stat fr5) (T.obj _ _ st5)
    refine wpAny_passesOwn hp (thn (hg _ s5 σ3 H5 x u _ I5' r5 (step x H5 y5)) fun _ s6 ⟨σ6, H6, I6, q6⟩ => ?_)
    refine wpAny_passesOwn hp (thn (hb _ s6 σ6 H6 _ I6 q6) fun f s7 q7 => ?_)
    have again : ∀ {σ7 : St} {H7 : Hp}, Inv X (pins ++ pinsAt fp s5.heap) σ7 H7 s7 → N σ7 H7 → ∃ m, m < n ∧ ∃ i σ' H', Inv X pins σ' H' s7 ∧ tn i s7.heap ∧ (∀ b ∈ fp, H' b = none) ∧ W i m σ' H' := fun {σ7 H7} I7 n7 => by
      obtain ⟨m', hm, w7⟩ := hN σ7 H7 n7
      refine ⟨m', hm, i + 1, σ7, H7, I7.unpinned, T.keep _ _ _ st5 fun b hb o e => (I7.pin (b, o) (List.mem_append_right _ (List.mem_append_right _ (mem_pinsAt hb e)))).1, fun b hb => ?_, w7⟩
      obtain ⟨o, e, d⟩ := T.obj _ _ st5 b hb
      exact (I7.pin (b, o) (List.mem_append_right _ (List.mem_append_right _ (mem_pinsAt hb e)))).2.1
    cases f with
    | next => obtain ⟨σ7, H7, I7, n7⟩ := q7; exact again I7 n7
    | cont => obtain ⟨σ7, H7, I7, n7⟩ := q7; exact again I7 n7
    | brk => obtain ⟨σ7, H7, I7, q7⟩ := q7; exact ⟨σ7, H7, I7.unpinned, q7⟩
    | ret v => obtain ⟨x7, σ7, H7, I7, r7, q7⟩ := q7; exact ⟨x7, σ7, H7, I7.unpinned, r7, q7⟩
end

/-! ### the forms one uses -/
/-- over a list that the body leaves as it is -/
theorem for_list {K : PySem.W.Frag} {a : Addr} {xs : List V} {g : TG} {tb : TS} {D : Ends} {σ : St} {H : Hp} (Pv : Nat → St → Hp → Prop) (h0 : Pv 0 σ H) (hl : ∀ i σ H, i ≤ xs.length → Pv i σ H → SqL K H a xs)
    (hs : ∀ i x σ H, xs[i]? = some x → Pv i σ H → g x σ H fun σ2 H2 => tb { D with nx := Pv (i + 1), ct := Pv (i + 1), bk := D.nx } σ2 H2) (hd : ∀ σ H, Pv xs.length σ H → D.nx σ H) :
    ∃ W : Nat → Nat → St → Hp → Prop, (∃ m, W 0 m σ H) ∧ ∀ i m σ H, W i m σ H →
      ((Itl K a).stop i H ∧ D.nx σ H) ∨ ((Itl K a).go i H ∧ ∃ N : St → Hp → Prop, (∀ σ' H', N σ' H' → ∃ m', m' < m ∧ W (i + 1) m' σ' H') ∧ ∀ x H', (Itl K a).yld i H x H' → g x σ H' fun σ2 H2 => tb { D with nx := N, ct := N, bk := D.nx } σ2 H2) := by
  refine ⟨fun i m σ H => m = xs.length - i ∧ i ≤ xs.length ∧ Pv i σ H, ⟨xs.length, by simp, Nat.zero_le _, h0⟩, ?_⟩
  rintro i m σ H ⟨rfl, hi, p⟩
  have q := hl i σ H hi p
  by_cases hlt : i < xs.length
  · refine .inr ⟨⟨xs, xs[i], q, by simp [hlt]⟩, Pv (i + 1), fun σ' H' p' => ⟨xs.length - (i + 1), by omega, rfl, hlt, p'⟩, fun x H' y => ?_⟩
    obtain ⟨e, y⟩ := y
    subst e
    exact hs i x σ _ (y xs q) p
  · have e : i = xs.length := by omega
    subst e
    exact .inl ⟨⟨xs, q, Nat.le_refl _⟩, hd σ H p⟩
theorem for_range {lo : Int} {n : Nat} {g : TG} {tb : TS} {D : Ends} {σ : St} {H : Hp} (Pv : Nat → St → Hp → Prop) (h0 : Pv 0 σ H)
    (hs : ∀ i σ H, i < n → Pv i σ H → g (.int (lo + i)) σ H fun σ2 H2 => tb { D with nx := Pv (i + 1), ct := Pv (i + 1), bk := D.nx } σ2 H2) (hd : ∀ σ H, Pv n σ H → D.nx σ H) :
    ∃ W : Nat → Nat → St → Hp → Prop, (∃ m, W 0 m σ H) ∧ ∀ i m σ H, W i m σ H →
      ((Itr lo n).stop i H ∧ D.nx σ H) ∨ ((Itr lo n).go i H ∧ ∃ N : St → Hp → Prop, (∀ σ' H', N σ' H' → ∃ m', m' < m ∧ W (i + 1) m' σ' H') ∧ ∀ x H', (Itr lo n).yld i H x H' → g x σ H' fun σ2 H2 => tb { D with nx := N, ct := N, bk := D.nx } σ2 H2) := by
  refine ⟨fun i m σ H => m = n - i ∧ i ≤ n ∧ Pv i σ H, ⟨n, by simp, Nat.zero_le _, h0⟩, ?_⟩
  rintro i m σ H ⟨rfl, hi, p⟩
  by_cases hlt : i < n
  · refine .inr ⟨hlt, Pv (i + 1), fun σ' H' p' => ⟨n - (i + 1), by omega, rfl, hlt, p'⟩, fun x H' y => ?_⟩
    obtain ⟨e, y⟩ := y
    subst e y
    exact hs i σ _ hlt p
  · have e : i = n := by omega
    subst e
    exact .inl ⟨Nat.le_refl _, hd σ H p⟩
end L2

namespace L2
open PySem PySem.Spec PyProof.Rows

abbrev R2 := V → V → Hp → VK → Prop
/-- a two-place operation on values: f is binaryOp op, inplaceOp op or compareOp op -/
def OpR (X : Cx) (f : Value → Value → Sem Value) (r : R2) : Prop :=
  ∀ (pins : List (Addr × Obj)) (s : Shared) (σ : St) (H : Hp) (x y : V) (v u : Value) (Q : VK), Inv X pins σ H s → RelV x v → RelV y u → r x y H Q →
    wpAny (model X.prog X.w) X.A (f v u) (EP X pins σ Q) X.xe s
/-- a one-place operation -/
def UnR (X : Cx) (f : Value → Sem Value) (r : V → Hp → VK → Prop) : Prop :=
  ∀ (pins : List (Addr × Obj)) (s : Shared) (σ : St) (H : Hp) (x : V) (v : Value) (Q : VK), Inv X pins σ H s → RelV x v → r x H Q →
    wpAny (model X.prog X.w) X.A (f v) (EP X pins σ Q) X.xe s
/-- a call of a value that is known (a builtin, a type) with values -/
def CallR (X : Cx) (f : Value) (r : List V → Hp → VK → Prop) : Prop :=
  ∀ (pins : List (Addr × Obj)) (s : Shared) (σ : St) (H : Hp) (xs : List V) (us : List Value) (Q : VK), Inv X pins σ H s → Vals xs us → r xs H Q →
    wpAny (model X.prog X.w) X.A (call f us) (EP X pins σ Q) X.xe s
/-- a value's truth -/
def TruR (X : Cx) (r : V → Hp → (Bool → Hp → Prop) → Prop) : Prop :=
  ∀ (pins : List (Addr × Obj)) (s : Shared) (σ : St) (H : Hp) (x : V) (v : Value) (Q : Bool → Hp → Prop), Inv X pins σ H s → RelV x v → r x H Q →
    wpAny (model X.prog X.w) X.A (truthy v) (TP X pins σ Q) X.xe s

def tOp (r : R2) (ta tb : TE) : TE := fun σ H Q => ta σ H fun x H1 => tb σ H1 fun y H2 => r x y H2 Q
def tUn (r : V → Hp → VK → Prop) (ta : TE) : TE := fun σ H Q => ta σ H fun x H1 => r x H1 Q
/-- ints in, under C, and a value out -/
def rI (C : Int → Int → Prop) (g : Int → Int → V) : R2 := fun x y H Q => ∃ i j, x = .int i ∧ y = .int j ∧ C i j ∧ Q (g i j) H
def rI0 (g : Int → Int → V) : R2 := fun x y H Q => ∃ i j, x = .int i ∧ y = .int j ∧ Q (g i j) H
def rU (g : Int → V) : V → Hp → VK → Prop := fun x H Q => ∃ i, x = .int i ∧ Q (g i) H

section
variable {X : Cx} {a b c : Expr} {ta tb tc : TE} {pos : Pos}

theorem binT (ha : PE X a ta) (hb : PE X b tb) {pins : List (Addr × Obj)} {s : Shared} {σ : St} {H : Hp} {R : V → V → Hp → Prop} (I : Inv X pins σ H s)
    (h : ta σ H fun x H1 => tb σ H1 fun y H2 => R x y H2) {Q : Value → Shared → Prop} {f : Value → Value → Sem Value}
    (hf : ∀ v u s2 x y H2, Inv X pins σ H2 s2 → RelV x v → RelV y u → R x y H2 → wpAny (model X.prog X.w) X.A (f v u) Q X.xe s2) :
    wpAny (model X.prog X.w) X.A (eval a X.env) (fun v s₁ => wpAny (model X.prog X.w) X.A (eval b X.env) (fun u s₂ => wpAny (model X.prog X.w) X.A (f v u) Q X.xe s₂) X.xe s₁) X.xe s := by
  refine thn (ha pins s σ H _ I h) fun v s1 ⟨x, H1, I1, r1, q1⟩ => ?_
  refine thn (hb pins s1 σ H1 _ I1 q1) fun u s2 ⟨y, H2, I2, r2, q2⟩ => ?_
  exact hf v u s2 x y H2 I2 r1 r2 q2

theorem pe_op {op : Operator} {r : R2} (ho : OpR X (binaryOp op) r) (ha : PE X a ta) (hb : PE X b tb) : PE X (.BinOp a op b pos) (tOp r ta tb) := by
  intro pins s σ H Q I h
  exact wpAny_BinOp (binT ha hb I h fun v u s2 x y H2 I2 rx ry q => ho pins s2 σ H2 x y v u Q I2 rx ry q)
theorem pe_un {op : UnaryOp} {r : V → Hp → VK → Prop} (ho : UnR X (unaryOp op) r) (ha : PE X a ta) : PE X (.UnaryOp op a pos) (tUn r ta) := by
  intro pins s σ H Q I h
  exact UnaryOp_ (thn (ha pins s σ H _ I h) fun v s1 ⟨x, H1, I1, r1, q1⟩ => ho pins s1 σ H1 x v Q I1 r1 q1)
/-! ### ints -/
theorem opI {f : Value → Value → Sem Value} {C : Int → Int → Prop} {g : Int → Int → Int}
    (rule : ∀ (i j : Int) (t u : Tok) (s : Shared) (Q : Value → Shared → Prop) (E : Value → Shared → Prop), C i j → Q (.int (g i j) s.toks) { s with toks := s.toks + 1 } → wpAny (model X.prog X.w) X.A (f (.int i t) (.int j u)) Q E s) :
    OpR X f (rI C fun i j => .int (g i j)) := by
  intro pins s σ H x y v u Q I rx ry h
  obtain ⟨i, j, rfl, rfl, hc, q⟩ := h
  obtain ⟨t, rfl⟩ := rx
  obtain ⟨t', rfl⟩ := ry
  exact rule i j t t' s _ _ hc ⟨.int (g i j), H, I.tok _, ⟨_, rfl⟩, q⟩
theorem opI0 {f : Value → Value → Sem Value} {g : Int → Int → Int}
    (rule : ∀ (i j : Int) (t u : Tok) (s : Shared) (Q : Value → Shared → Prop) (E : Value → Shared → Prop), Q (.int (g i j) s.toks) { s with toks := s.toks + 1 } → wpAny (model X.prog X.w) X.A (f (.int i t) (.int j u)) Q E s) :
    OpR X f (rI0 fun i j => .int (g i j)) := by
  intro pins s σ H x y v u Q I rx ry h
  obtain ⟨i, j, rfl, rfl, q⟩ := h
  obtain ⟨t, rfl⟩ := rx
  obtain ⟨t', rfl⟩ := ry
  exact rule i j t t' s _ _ ⟨.int (g i j), H, I.tok _, ⟨_, rfl⟩, q⟩
theorem opB0 {f : Value → Value → Sem Value} {g : Int → Int → Bool}
    (rule : ∀ (i j : Int) (t u : Tok) (s : Shared) (Q : Value → Shared → Prop) (E : Value → Shared → Prop), Q (.bool (g i j)) s → wpAny (model X.prog X.w) X.A (f (.int i t) (.int j u)) Q E s) :
    OpR X f (rI0 fun i j => .bl (g i j)) := by
  intro pins s σ H x y v u Q I rx ry h
  obtain ⟨i, j, rfl, rfl, q⟩ := h
  obtain ⟨t, rfl⟩ := rx
  obtain ⟨t', rfl⟩ := ry
  exact rule i j t t' s _ _ ⟨.bl (g i j), H, I, rfl, q⟩

def CDiv (i j : Int) : Prop := 0 < j ∧ j < 1073741824
def CDivN (i j : Int) : Prop := j ≠ 0 ∧ j.natAbs < 1073741824
def CPow (i j : Int) : Prop := 0 ≤ j ∧ j ≤ 1000000 ∧ i.natAbs < 2 ^ 64
def CMul (i j : Int) : Prop := (-(2 ^ 64) < i ∧ i < 2 ^ 64) ∨ (-(2 ^ 64) < j ∧ j < 2 ^ 64)
theorem CMul.ok {i j : Int} (h : CMul i j) : IntMulOk i j := by
  rcases h with ⟨h1, h2⟩ | ⟨h1, h2⟩
  · exact .of_left (intBits_le_64 h1 h2)
  · exact .of_right (intBits_le_64 h1 h2)
theorem op_add : OpR X (binaryOp .Add) (rI0 fun i j => .int (i + j)) := opI0 fun _ _ _ _ _ _ _ q => add_int q
theorem op_sub : OpR X (binaryOp .Sub) (rI0 fun i j => .int (i - j)) := opI0 fun _ _ _ _ _ _ _ q => sub_int q
theorem op_mul : OpR X (binaryOp .Mult) (rI CMul fun i j => .int (i * j)) := opI fun _ _ _ _ _ _ _ hc q => mul_int q hc.ok
/-- // by a positive divisor -/
theorem op_fdiv : OpR X (binaryOp .FloorDiv) (rI CDiv fun i j => .int (i / j)) := opI fun i j _ _ _ _ _ hc q => by
  have h1 : (0 : Int) < j := hc.1
  have h2 : j < 1073741824 := hc.2
  exact floordiv_int (by omega) (by rw [Int.fdiv_eq_ediv_of_nonneg i (by omega)]; exact q) (.inl (PyProof.noPylong_small (by omega)))
/-- % by a positive divisor of any size -/
theorem op_mod : OpR X (binaryOp .Mod) (rI (fun _ j => 0 < j) fun i j => .int (i % j)) := opI fun i j _ _ _ _ _ hc q => by
  have h1 : (0 : Int) < j := hc
  exact mod_int' (by omega) (by rw [Int.fmod_eq_emod_of_nonneg i (by omega)]; exact q)
theorem op_pow : OpR X (binaryOp .Pow) (rI CPow fun i j => .int (i ^ j.toNat)) := opI fun _ _ _ _ _ _ _ hc q => pow_int_small hc.1 hc.2.1 hc.2.2 q
theorem unI {f : Value → Sem Value} {g : Int → Int}
    (rule : ∀ (i : Int) (t : Tok) (s : Shared) (Q : Value → Shared → Prop) (E : Value → Shared → Prop), Q (.int (g i) s.toks) { s with toks := s.toks + 1 } → wpAny (model X.prog X.w) X.A (f (.int i t)) Q E s) :
    UnR X f (rU fun i => .int (g i)) := by
  intro pins s σ H x v Q I rx h
  obtain ⟨i, rfl, q⟩ := h
  obtain ⟨t, rfl⟩ := rx
  exact rule i t s _ _ ⟨.int (g i), H, I.tok _, ⟨_, rfl⟩, q⟩
theorem un_neg : UnR X (unaryOp .USub) (rU fun i => .int (-i)) := unI fun _ _ _ _ _ q => neg_int q
/-! ### bools among ints: n += (a < b) -/
end

/-! ### comparisons -/
/-- the scalars that == tells apart as data does -/
def scal : V → V → Bool
  | .non, .non => true | .non, .int _ => true | .int _, .non => true | .non, .bl _ => true | .bl _, .non => true | .non, .str _ => true | .str _, .non => true
  | .int _, .int _ => true | .bl _, .bl _ => true | .str _, .str _ => true | .byt _, .byt _ => true
  | .int _, .str _ => true | .str _, .int _ => true | .bl _, .str _ => true | .str _, .bl _ => true
  | _, _ => false
def rEq : R2 := fun x y H Q => scal x y = true ∧ Q (.bl (decide (x = y))) H
def rNe : R2 := fun x y H Q => scal x y = true ∧ Q (.bl (!decide (x = y))) H

theorem dec_int {i j : Int} : decide (V.int i = V.int j) = (i == j) := by
  rw [Bool.eq_iff_iff]
  simp
theorem dec_bl {i j : Bool} : decide (V.bl i = V.bl j) = (i == j) := by
  rw [Bool.eq_iff_iff]
  simp
theorem dec_str {i j : Str} : decide (V.str i = V.str j) = (i == j) := by
  rw [Bool.eq_iff_iff]
  simp
theorem dec_byt {i j : Array UInt8} : decide (V.byt i = V.byt j) = (i.toList == j.toList) := by
  rw [Bool.eq_iff_iff]
  cases i
  cases j
  simp

section
variable {X : Cx} {a b c : Expr} {ta tb tc : TE} {pos : Pos}
theorem fin_bl {pins : List (Addr × Obj)} {σ : St} {H : Hp} {s : Shared} {Q : VK} {k k' : Bool} (I : Inv X pins σ H s) (q : Q (.bl k) H) (e : k = k') : EP X pins σ Q (.bool k') s := by
  subst e
  exact ⟨.bl k, H, I, rfl, q⟩
theorem op_eq : OpR X (compareOp .Eq) rEq := by
  intro pins s σ H x y v u Q I rx ry h
  obtain ⟨hs, q⟩ := h
  cases x with
  | non =>
    cases rx
    cases y with
    | non => cases ry; exact PySem.EqNone.eq_none_none (fin_bl I q (by simp))
    | bl j => cases ry; exact PySem.EqNone.eq_none_bool (fin_bl I q (by simp))
    | int j => obtain ⟨t', rfl⟩ := ry; exact PySem.EqNone.eq_none_int (fin_bl I q (by simp))
    | str j => obtain ⟨t', rfl⟩ := ry; exact PySem.EqNone.eq_none_str (fin_bl I q (by simp))
    | _ => exact absurd (show false = true from hs) Bool.false_ne_true
  | bl i =>
    cases rx
    cases y with
    | non => cases ry; exact PySem.EqNone.eq_bool_none (fin_bl I q (by simp))
    | bl j => cases ry; exact eq_bool (fin_bl I q dec_bl)
    | str j => obtain ⟨t', rfl⟩ := ry; exact PySem.EqMixed.eq_bool_str (fin_bl I q (by simp))
    | _ => exact absurd (show false = true from hs) Bool.false_ne_true
  | int i =>
    obtain ⟨t, rfl⟩ := rx
    cases y with
    | non => cases ry; exact PySem.EqNone.eq_int_none (fin_bl I q (by simp))
    | int j => obtain ⟨t', rfl⟩ := ry; exact eq_int (fin_bl I q dec_int)
    | str j => obtain ⟨t', rfl⟩ := ry; exact PySem.EqMixed.eq_int_str (fin_bl I q (by simp))
    | _ => exact absurd (show false = true from hs) Bool.false_ne_true
  | str i =>
    obtain ⟨t, rfl⟩ := rx
    cases y with
    | non => cases ry; exact PySem.EqNone.eq_str_none (fin_bl I q (by simp))
    | bl j => cases ry; exact PySem.EqMixed.eq_str_bool (fin_bl I q (by simp))
    | int j => obtain ⟨t', rfl⟩ := ry; exact PySem.EqMixed.eq_str_int (fin_bl I q (by simp))
    | str j => obtain ⟨t', rfl⟩ := ry; exact eq_str (fin_bl I q dec_str)
    | _ => exact absurd (show false = true from hs) Bool.false_ne_true
  | byt i =>
    obtain ⟨t, rfl⟩ := rx
    cases y with
    | byt j => obtain ⟨t', rfl⟩ := ry; exact PySem.W.eq_bytes (fin_bl I q dec_byt)
    | _ => exact absurd (show false = true from hs) Bool.false_ne_true
  | _ => cases y <;> exact absurd (show false = true from hs) Bool.false_ne_true
theorem op_ne : OpR X (compareOp .NotEq) rNe := by
  intro pins s σ H x y v u Q I rx ry h
  obtain ⟨hs, q⟩ := h
  cases x with
  | non =>
    cases rx
    cases y with
    | non => cases ry; exact PySem.EqNone.ne_none_none (fin_bl I q (by simp))
    | bl j => cases ry; exact PySem.EqNone.ne_none_bool (fin_bl I q (by simp))
    | int j => obtain ⟨t', rfl⟩ := ry; exact PySem.EqNone.ne_none_int (fin_bl I q (by simp))
    | str j => obtain ⟨t', rfl⟩ := ry; exact PySem.EqNone.ne_none_str (fin_bl I q (by simp))
    | _ => exact absurd (show false = true from hs) Bool.false_ne_true
  | bl i =>
    cases rx
    cases y with
    | non => cases ry; exact PySem.EqNone.ne_bool_none (fin_bl I q (by simp))
    | bl j => cases ry; exact ne_bool (fin_bl I q (congrArg not dec_bl))
    | str j => obtain ⟨t', rfl⟩ := ry; exact PySem.EqMixed.ne_bool_str (fin_bl I q (by simp))
    | _ => exact absurd (show false = true from hs) Bool.false_ne_true
  | int i =>
    obtain ⟨t, rfl⟩ := rx
    cases y with
    | non => cases ry; exact PySem.EqNone.ne_int_none (fin_bl I q (by simp))
    | int j => obtain ⟨t', rfl⟩ := ry; exact ne_int (fin_bl I q (congrArg not dec_int))
    | str j => obtain ⟨t', rfl⟩ := ry; exact PySem.EqMixed.ne_int_str (fin_bl I q (by simp))
    | _ => exact absurd (show false = true from hs) Bool.false_ne_true
  | str i =>
    obtain ⟨t, rfl⟩ := rx
    cases y with
    | non => cases ry; exact PySem.EqNone.ne_str_none (fin_bl I q (by simp))
    | bl j => cases ry; exact PySem.EqMixed.ne_str_bool (fin_bl I q (by simp))
    | int j => obtain ⟨t', rfl⟩ := ry; exact PySem.EqMixed.ne_str_int (fin_bl I q (by simp))
    | str j => obtain ⟨t', rfl⟩ := ry; exact ne_str (fin_bl I q (congrArg not dec_str))
    | _ => exact absurd (show false = true from hs) Bool.false_ne_true
  | byt i =>
    obtain ⟨t, rfl⟩ := rx
    cases y with
    | byt j => obtain ⟨t', rfl⟩ := ry; exact PySem.W.ne_bytes (fin_bl I q (congrArg not dec_byt))
    | _ => exact absurd (show false = true from hs) Bool.false_ne_true
  | _ => cases y <;> exact absurd (show false = true from hs) Bool.false_ne_true

theorem op_lt : OpR X (compareOp .Lt) (rI0 fun i j => .bl (decide (i < j))) := opB0 fun _ _ _ _ _ _ _ q => lt_int q
theorem op_le : OpR X (compareOp .LtE) (rI0 fun i j => .bl (decide (i ≤ j))) := opB0 fun _ _ _ _ _ _ _ q => le_int q
theorem op_gt : OpR X (compareOp .Gt) (rI0 fun i j => .bl (decide (j < i))) := opB0 fun _ _ _ _ _ _ _ q => gt_int q
theorem op_ge : OpR X (compareOp .GtE) (rI0 fun i j => .bl (decide (j ≤ i))) := opB0 fun _ _ _ _ _ _ _ q => ge_int q
/-- is, is not of two objects that are tracked lists or instances -/
def isObj : HO → Bool
  | .lst _ => true
  | .ins _ _ _ => true
  | _ => false
theorem nomark (b : Expr) {op : CmpOp} (h : op ≠ .In := by decide) (h2 : op ≠ .NotIn := by decide) : behindInMarks op b = false := by
  have e1 : (op == CmpOp.In) = false := by cases op <;> first | rfl | exact absurd rfl h
  have e2 : (op == CmpOp.NotIn) = false := by cases op <;> first | rfl | exact absurd rfl h2
  cases b <;> simp [behindInMarks, e1, e2]
/-- a comparison as a value; hm: nomark b, or (for in, not in) by with_unfolding_all rfl -/
theorem pe_cmpR {op : CmpOp} {r : R2} (ho : OpR X (compareOp op) r) (ha : PE X a ta) (hb : PE X b tb) (hm : behindInMarks op b = false) : PE X (.Compare a [op] [b] pos) (tOp r ta tb) := by
  intro pins s σ H Q I h
  exact wpAny_Compare1 (binT ha hb I h fun v u s2 x y H2 I2 rx ry q => ho pins s2 σ H2 x y v u Q I2 rx ry q) hm
/-- a reading of a value as a test -/
def tTest (t : TE) : TT := fun σ H Q => t σ H fun x H' => ∃ k, x = .bl k ∧ Q k H'
theorem pt_cmpR {op : CmpOp} {r : R2} (ho : OpR X (compareOp op) r) (ha : PE X a ta) (hb : PE X b tb) (hm : behindInMarks op b = false) : PT X (.Compare a [op] [b] pos) (tTest (tOp r ta tb)) := by
  intro pins s σ H Q I h
  refine wpAny_isTrue_Compare1 (thn (ha pins s σ H _ I h) fun v s1 ⟨x, H1, I1, r1, q1⟩ => thn (hb pins s1 σ H1 _ I1 q1) fun u s2 ⟨y, H2, I2, r2, q2⟩ =>
    thn (ho pins s2 σ H2 x y v u _ I2 r1 r2 q2) fun c s3 ⟨z, H3, I3, r3, k, e, q3⟩ => ?_) hm
  subst e
  cases r3
  exact wpAny_truthy_bool ⟨H3, I3, q3⟩
/-- a op1 b op2 c -/
def tChain (r r' : R2) (ta tb tc : TE) : TE := fun σ H Q => ta σ H fun x H1 => tb σ H1 fun y H2 => r x y H2 fun z H3 => ∃ k, z = .bl k ∧
  (if k = true then tc σ H3 fun w' H4 => r' y w' H4 Q else Q (.bl false) H3)
theorem pt_chain {op op' : CmpOp} {r r' : R2} (ho : OpR X (compareOp op) r) (ho' : OpR X (compareOp op') r') (ha : PE X a ta) (hb : PE X b tb) (hc : PE X c tc)
    (hm : lastMarks [op, op'] [b, c] = false := by with_unfolding_all rfl) : PT X (.Compare a [op, op'] [b, c] pos) (tTest (tChain r r' ta tb tc)) := by
  intro pins s σ H Q I h
  refine isTrue_chain (thn (ha pins s σ H _ I h) fun v s1 ⟨x, H1, I1, r1, q1⟩ => test_link (thn (hb pins s1 σ H1 _ I1 q1) fun u s2 ⟨y, H2, I2, r2, q2⟩ =>
    thn (ho pins s2 σ H2 x y v u _ I2 r1 r2 q2) fun d s3 ⟨z, H3, I3, r3, k, e, q3⟩ => ?_)) hm
  subst e
  cases r3
  refine wpAny_truthy_bool ?_
  cases k with
  | false =>
    obtain ⟨k', e', q'⟩ := q3
    cases e'
    exact ite_ff ⟨H3, I3, q'⟩
  | true =>
    refine ite_tt (test_last (thn (hc pins s3 σ H3 _ I3 q3) fun w' s4 ⟨z', H4, I4, r4, q4⟩ => thn (ho' pins s4 σ H4 y z' u w' _ I4 r2 r4 q4) fun d' s5 ⟨z2, H5, I5, r5, k2, e2, q5⟩ => ?_))
    subst e2
    cases r5
    exact wpAny_truthy_bool ⟨H5, I5, q5⟩

/-! ### truth -/
/-- a value's truth by the abstract heap -/
def TruV (K : PySem.W.Frag) (x : V) (H : Hp) (k : Bool) : Prop :=
  match x with
  | .non => k = false
  | .bl b => k = b
  | .int i => k = (i != 0)
  | .str y => y.length ≤ sizeLine ∧ k = ((y.length : Int) != 0)
  | .byt y => y.size ≤ sizeLine ∧ k = ((y.size : Int) != 0)
  | .ref p => (∃ xs, SqL K H p xs ∧ k = !xs.isEmpty) ∨ (∃ xs, SqT K H p xs ∧ k = !xs.isEmpty) ∨ ∃ kvs, H p = some (.dK kvs) ∧ k = !kvs.isEmpty
  | _ => False
theorem isEmpty_kv {κ : Type} {kvs : List (κ × V)} {vs : List (κ × Value)} (r : KV kvs vs) : (!vs.isEmpty) = !kvs.isEmpty := by
  cases r <;> rfl
theorem isEmpty_of {xs : List V} {its : List Value} (r : Vals xs its) : (!its.toArray.isEmpty) = !xs.isEmpty := by
  cases r <;> simp
theorem line63 : (sizeLine : Nat) < 2 ^ 63 := by rw [sizeLine_eq]; decide
theorem tru_ok : TruR X (fun x H Q => ∃ k, TruV X.K x H k ∧ Q k H) := by
  intro pins s σ H x v Q I rx h
  obtain ⟨k, e, q⟩ := h
  have hl := line63
  have hs : sizeLine = 16777216 := sizeLine_eq
  cases x with
  | non =>
    cases rx
    have e' : k = false := e
    subst e'
    exact truthy_none ⟨H, I, q⟩
  | bl b =>
    cases rx
    have e' : k = b := e
    subst e'
    exact wpAny_truthy_bool ⟨H, I, q⟩
  | int i =>
    obtain ⟨t, rfl⟩ := rx
    have e' : k = (i != 0) := e
    subst e'
    exact PySem.P.truthy_int ⟨H, I, q⟩
  | str y =>
    obtain ⟨t, rfl⟩ := rx
    obtain ⟨hy, e'⟩ : y.length ≤ sizeLine ∧ k = ((y.length : Int) != 0) := e
    subst e'
    exact PySem.P.truthy_str (by omega) ⟨H, I.tok _, q⟩
  | byt y =>
    obtain ⟨t, rfl⟩ := rx
    obtain ⟨hy, e'⟩ : y.size ≤ sizeLine ∧ k = ((y.size : Int) != 0) := e
    subst e'
    exact PySem.W.truthy_bytes (by omega) ⟨H, I.tok _, q⟩
  | ref p =>
    cases rx
    have e' : (∃ xs, SqL X.K H p xs ∧ k = !xs.isEmpty) ∨ (∃ xs, SqT X.K H p xs ∧ k = !xs.isEmpty) ∨ ∃ kvs, H p = some (.dK kvs) ∧ k = !kvs.isEmpty := e
    rcases e' with ⟨xs, hx, e'⟩ | ⟨xs, hx, e'⟩ | ⟨kvs, hx, e'⟩
    · subst e'
      obtain ⟨its, r, pl, hz⟩ := I.list hx
      have hlen := r.length
      exact wpAny_truthy_list pl.isList (by simp only [List.size_toArray]; omega) ⟨H, I.tok _, by rw [isEmpty_of r]; exact q⟩
    · subst e'
      obtain ⟨its, r, pl, hz⟩ := I.tuple hx
      have hlen := r.length
      exact truthy_tuple pl (by simp only [List.size_toArray]; omega) ⟨H, I.tok _, by rw [isEmpty_of r]; exact q⟩
    · subst e'
      obtain ⟨hz, hS, vs, r, m⟩ : kvs.length ≤ sizeLine ∧ (p == sysModules) = false ∧ ∃ vs, KV kvs vs ∧ s.heap.DictOf (mixKind X.prog X.w) p vs := I.hok p _ hx
      have hlen : kvs.length = vs.length := Paired.length r
      exact wpAny_truthy_dict hS m (by omega) ⟨H, I.tok _, by rw [isEmpty_kv r]; exact q⟩
  | _ => exact (show False from e).elim
/-- any expression whose test is its value's truth (a name, a call, a subscript, a field ..: he by fun _ => rfl) -/
theorem pt_truth (ha : PE X a ta) (he : ∀ whole, isTrue a X.env whole = (do let v ← whole; standAt a.pos; holding [v] (truthy v))) :
    PT X a (fun σ H Q => ta σ H fun x H' => ∃ k, TruV X.K x H' k ∧ Q k H') := by
  intro pins s σ H Q I h
  exact isTrue_plain (thn (ha pins s σ H _ I h) fun v s1 ⟨x, H1, I1, r1, q1⟩ => tru_ok pins s1 σ H1 x v Q I1 r1 q1) (he _)

/-! ### strs and bytes -/
def PlainIxT (b : Expr) : Prop := ∀ o i, subscripted b false o i = operate [o, i] (getItem o i)
/-! ### scalar builtins, by CallR -/
theorem vals1 {x : V} {us : List Value} (r : Vals [x] us) : ∃ u, us = [u] ∧ RelV x u := by
  cases r with
  | cons r1 r2 => cases r2; exact ⟨_, rfl, r1⟩
theorem vals2 {x y : V} {us : List Value} (r : Vals [x, y] us) : ∃ u w', us = [u, w'] ∧ RelV x u ∧ RelV y w' := by
  cases r with
  | cons r1 r2 =>
    cases r2 with
    | cons r3 r4 => cases r4; exact ⟨_, _, rfl, r1, r3⟩
theorem call_abs : CallR X (.builtin "abs") (fun xs H Q => ∃ i, xs = [.int i] ∧ Q (.int (if i < 0 then -i else i)) H) := by
  intro pins s σ H xs us Q I r h
  obtain ⟨i, rfl, q⟩ := h
  obtain ⟨u, rfl, t, rfl⟩ := vals1 r
  exact call_abs_int fun u tk => ⟨.int (if i < 0 then -i else i), H, I.tok _, ⟨_, rfl⟩, q⟩
theorem call_max2 (hc : X.calm = true) : CallR X (.builtin "max") (fun xs H Q => ∃ i j, xs = [.int i, .int j] ∧ Q (.int (if j > i then j else i)) H) := by
  intro pins s σ H xs us Q I r h
  obtain ⟨i, j, rfl, q⟩ := h
  obtain ⟨u, w', rfl, ⟨t, rfl⟩, ⟨t', rfl⟩⟩ := vals2 r
  refine max_two_ints (I.ok.hd hc) fun h' tk k => ⟨_, H, I.kept k, ?_, q⟩
  by_cases hj : j > i
  · rw [if_pos hj, if_pos hj]; exact ⟨_, rfl⟩
  · rw [if_neg hj, if_neg hj]; exact ⟨_, rfl⟩
theorem call_min2 (hc : X.calm = true) : CallR X (.builtin "min") (fun xs H Q => ∃ i j, xs = [.int i, .int j] ∧ Q (.int (if j < i then j else i)) H) := by
  intro pins s σ H xs us Q I r h
  obtain ⟨i, j, rfl, q⟩ := h
  obtain ⟨u, w', rfl, ⟨t, rfl⟩, ⟨t', rfl⟩⟩ := vals2 r
  refine min_two_ints (I.ok.hd hc) fun h' tk k => ⟨_, H, I.kept k, ?_, q⟩
  by_cases hj : j < i
  · rw [if_pos hj, if_pos hj]; exact ⟨_, rfl⟩
  · rw [if_neg hj, if_neg hj]; exact ⟨_, rfl⟩
theorem call_int1 : CallR X (.type "int") (fun xs H Q => (∃ i, xs = [.int i] ∧ Q (.int i) H) ∨ ∃ k, xs = [.bl k] ∧ Q (.int (if k then 1 else 0)) H) := by
  intro pins s σ H xs us Q I r h
  rcases h with ⟨i, rfl, q⟩ | ⟨k, rfl, q⟩
  · obtain ⟨u, rfl, t, rfl⟩ := vals1 r
    exact call_int_int ⟨.int i, H, I, ⟨_, rfl⟩, q⟩
  · obtain ⟨u, rfl, r1⟩ := vals1 r
    cases r1
    exact call_int_bool ⟨.int (if k then 1 else 0), H, I.tok _, ⟨_, rfl⟩, q⟩
/-- len of a str, a bytes, a list, a tuple -/
def LenV (K : PySem.W.Frag) (x : V) (H : Hp) (n : Nat) : Prop :=
  match x with
  | .str y => y.length ≤ sizeLine ∧ n = y.length
  | .byt y => y.size ≤ sizeLine ∧ n = y.size
  | .ref p => (∃ xs, SqL K H p xs ∧ n = xs.length) ∨ ∃ xs, SqT K H p xs ∧ n = xs.length
  | _ => False
end
end L2

namespace L2
open PySem PySem.Spec PyProof.Rows

/-! ### an instance, its attributes a map -/
structure ObjM (h : Heap) (x dx C : Addr) (mA : Str → Option Value) : Prop where
  obj : h.get? x = some (PySem.W.instObj C dx)
  ns : h.Ns1 dx mA
  ne : dx ≠ x

section
variable {prog : Program} {w : World} {A : Around} {E : Value → Shared → Prop} {s : Shared} {K : PySem.W.Frag} {x dx C f : Addr} {mA : Str → Option Value} {name : Str} {v : Value}

end

/-! ### the attributes as a list of pairs -/
def putF (f : Str) (v : V) : List (Str × V) → List (Str × V)
  | [] => [(f, v)]
  | (g, x) :: r => if g = f then (g, v) :: r else (g, x) :: putF f v r
section
variable {P : Program} {w : World} {H H' : Hp} {h h' : Heap} {a C dx : Addr} {fs fs' : List (Str × V)}
end

/-! ### what of the text a class must have -/
structure Cls (K : PySem.W.Frag) (C : Addr) : Prop where
  pg : PySem.W.plainGet K C Str.empty = true
  hd : PySem.W.hasDictIn K C = true
  po : PySem.W.plainOver K C = true
  sa : PySem.W.findIn K (.ref C) "__setattr__" = some (some (.builtin "object.__setattr__"))
/-- no class of it has the name -/
def NoAttr (K : PySem.W.Frag) (C : Addr) (f : Str) : Prop := PySem.W.findIn K (.ref C) f = some none
/-- a constant of the class -/
structure Con (K : PySem.W.Frag) (C : Addr) (f : Str) (v : V) (u : Value) : Prop where
  at_ : PySem.W.findIn K (.ref C) f = some (some u)
  rel : RelV v u
  get : PySem.W.specialIn K u "__get__" = some none
  cp : PySem.W.copiedNames.contains f = false
/-- a method: a plain def of the class or of one above it -/
structure Meth (K : PySem.W.Frag) (C : Addr) (m : Str) (f : Addr) : Prop where
  at_ : PySem.W.findIn K (.ref C) m = some (some (.ref f))
  fn : PySem.W.isFn K (.ref f) = true
  kp : PySem.W.keepIn K (.ref f) = true

section
variable {X : Cx} {pins : List (Addr × Obj)} {σ : St} {H : Hp} {s : Shared} {a C dx : Addr} {fs : List (Str × V)} {f : Str} {v : V} {A : Around} {E : Value → Shared → Prop}

end

/-! ### readings and rules -/
/-- e.f, an attribute of the instance -/
def tFld (K : PySem.W.Frag) (ta : TE) (f : Str) : TE := fun σ H Q => ta σ H fun x H1 => ∃ a C dx fs v, x = .ref a ∧ H1 a = some (.ins C dx fs) ∧ Cls K C ∧ NoAttr K C f ∧ fs.lookup f = some v ∧ Q v H1
/-- e.f, a constant of the class -/
def tCon (K : PySem.W.Frag) (ta : TE) (f : Str) : TE := fun σ H Q => ta σ H fun x H1 => ∃ a C dx fs v u, x = .ref a ∧ H1 a = some (.ins C dx fs) ∧ Cls K C ∧ Con K C f v u ∧ fs.lookup f = none ∧ Q v H1
/-- e.f = value -/
def sFld (K : PySem.W.Frag) (ta tv : TE) (f : Str) : TS := fun D σ H => tv σ H fun y H1 => ta σ H1 fun x H2 => ∃ a C dx fs, x = .ref a ∧ H2 a = some (.ins C dx fs) ∧ Cls K C ∧ NoAttr K C f ∧ fs.length < 1000 ∧
  D.nx σ (upd H2 a (.ins C dx (putF f y fs)))
/-- an augmented operator on two values -/
def InOp (X : Cx) (op : Operator) (rd : V → V → Hp → VK → Prop) : Prop :=
  ∀ (pins : List (Addr × Obj)) (s : Shared) (σ : St) (H : Hp) (x y : V) (u v : Value) (Q : VK), Inv X pins σ H s → RelV x u → RelV y v → rd x y H Q → wpAny (model X.prog X.w) X.A (inplaceOp op u v) (EP X pins σ Q) X.xe s
/-- e.f op= value -/
def sFldAug (K : PySem.W.Frag) (ta tv : TE) (rd : V → V → Hp → VK → Prop) (f : Str) : TS := fun D σ H => ta σ H fun x H1 => ∃ a C dx fs v, x = .ref a ∧ H1 a = some (.ins C dx fs) ∧ Cls K C ∧ NoAttr K C f ∧ fs.lookup f = some v ∧
  tv σ H1 fun y H2 => rd v y H2 fun z H3 => ∃ dx' fs', H3 a = some (.ins C dx' fs') ∧ fs'.length < 1000 ∧ D.nx σ (upd H3 a (.ins C dx' (putF f z fs')))

section
variable {X : Cx} {o e value : Expr} {f : Str} {pos pos' tpos : Pos} {ta tv : TE}
def rAdd : V → V → Hp → VK → Prop := fun x y H Q => ∃ i j, x = .int i ∧ y = .int j ∧ Q (.int (i + j)) H
def rSub : V → V → Hp → VK → Prop := fun x y H Q => ∃ i j, x = .int i ∧ y = .int j ∧ Q (.int (i - j)) H
end

/-! ### isinstance -/
section
variable {X : Cx} {pins : List (Addr × Obj)} {σ : St} {H : Hp} {s : Shared} {A : Around} {E : Value → Shared → Prop} {Q : Value → Shared → Prop} {c : Value} {b : Bool}
/-- the type of a value, as the fragment's deciders take it; for an instance its class -/
inductive TyOf (K : PySem.W.Frag) (H : Hp) : V → Value → Prop where
  | non : TyOf K H .non (.type "NoneType")
  | bl (x : Bool) : TyOf K H (.bl x) (.type "bool")
  | int (i : Int) : TyOf K H (.int i) (.type "int")
  | str (x : Str) : TyOf K H (.str x) (.type "str")
  | flt (x : UInt64) : TyOf K H (.flt x) (.type "float")
  | lst {a : Addr} {xs : List V} (e : H a = some (.lst xs)) : TyOf K H (.ref a) (.type "list")
  | frz {a : Addr} {o : Obj} {xs : List V} (e : H a = some (.frz o (.lst xs))) : TyOf K H (.ref a) (.type "list")
  | tup {a : Addr} {xs : List V} (e : H a = some (.tup xs)) : TyOf K H (.ref a) (.type "tuple")
  | dK {a : Addr} {kvs : List (Key × V)} (e : H a = some (.dK kvs)) : TyOf K H (.ref a) (.type "dict")
  | dT {a : Addr} {kvs : List (List Key × V)} (e : H a = some (.dT kvs)) : TyOf K H (.ref a) (.type "dict")
  | ins {a C dx : Addr} {fs : List (Str × V)} (e : H a = some (.ins C dx fs)) (cl : Cls K C) (ha : PySem.W.findIn K (.ref C) "__class__" = some (some (.builtin "object.__class__")))
      (hn : PySem.W.specialIn K (.builtin "object.__class__") "__get__" = some (some (.builtin "getset_descriptor.__get__"))) (htk : PySem.W.takesIn K (.builtin "object.__class__") = some true)
      (hm : PySem.W.mroIn K C (.type "object") = some true) : TyOf K H (.ref a) (.ref C)
end
end L2

namespace L2
open PySem PySem.Spec PyProof.Rows

/-! ### room -/
structure Room (k : Nat) (A : Around) : Prop where
  hd : A.handled = none
  dp : A.depth + 3 * k + 5 < recursionLimit
  un : A.units + 16 * k + 200 < cLine
theorem Room.mono {j k : Nat} {A : Around} (r : Room k A) (h : j ≤ k) : Room j A := ⟨r.hd, by have := r.dp; omega, by have := r.un; omega⟩
theorem Room.deeper {k : Nat} {A : Around} (r : Room (k + 1) A) (env : Env) : Room k (A.deeper env) :=
  ⟨r.hd, by have := r.dp; show A.depth + 1 + 3 * k + 5 < _; omega, by have := r.un; show A.units + 3 + 16 * k + 200 < _; omega⟩
theorem Room.in1 {k : Nat} {A : Around} (r : Room (k + 1) A) : Room k A.in1 :=
  ⟨r.hd, by have := r.dp; show A.depth + 3 * k + 5 < _; omega, by have := r.un; show A.units + 1 + 16 * k + 200 < _; omega⟩
theorem Room.depth {k : Nat} {A : Around} (r : Room k A) : A.depth < recursionLimit := by have := r.dp; omega
theorem Room.units {k : Nat} {A : Around} (r : Room k A) : A.units + 64 < cLine := by have := r.un; omega
/-! ### argument lists and displays -/
def tNil : TA := fun _ H Q => Q [] H
def tCons (ta : TE) (tr : TA) : TA := fun σ H Q => ta σ H fun x H1 => tr σ H1 fun xs H2 => Q (x :: xs) H2
section
variable {X : Cx} {e : Expr} {es : List Expr} {te : TE} {t : TA} {pos : Pos}
theorem pa_nil : PA X [] tNil := fun _ _ _ _ H Q I h => Calls.spliced_nil ⟨[], H, I, .nil, h⟩
theorem pa_cons (ha : PE X e te) (hr : PA X es t) (hs : starEach (e :: es) X.env = (false, eval e X.env) :: starEach es X.env := by rfl) : PA X (e :: es) (tCons te t) := by
  intro pos pins s σ H Q I h
  rw [hs]
  show wpAny _ _ (spliced ((false, eval e X.env) :: backTo pos (starEach es X.env))) _ _ s
  refine Calls.spliced_cons (thn (ha pins s σ H _ I h) fun u s1 ⟨x, H1, I1, r1, q1⟩ => ?_)
  exact thn (hr pos pins s1 σ H1 _ I1 q1) fun us s2 ⟨xs, H2, I2, r2, q2⟩ => ⟨x :: xs, H2, I2, .cons r1 r2, q2⟩

/-- a tuple, a list of written items -/
def tTup (t : TA) : TE := fun σ H Q => t σ H fun xs H1 => xs.length ≤ sizeLine ∧ ∀ p, H1 p = none → Q (.ref p) (upd H1 p (.tup xs))
def tLst (t : TA) : TE := fun σ H Q => t σ H fun xs H1 => xs.length ≤ sizeLine ∧ ∀ p, H1 p = none → Q (.ref p) (upd H1 p (.lst xs))
theorem pe_tup {x1} (h : PA X es t) : PE X (.Tuple es x1 pos) (tTup t) := by
  intro pins s σ H Q I hq
  refine wpAny_Tuple_spliced (thn (h pos pins s σ H _ I hq) fun us s1 ⟨xs, H1, I1, r, z, q⟩ => ⟨by rw [← r.length]; exact z, ?_⟩)
  have hf : H1 s1.heap.objs.size = none := I1.hok.fresh (Nat.le_refl _)
  refine ⟨.ref s1.heap.objs.size, upd H1 s1.heap.objs.size (.tup xs), I1.laid (t' := s1.toks) (fun b u e => Heap.get?_push_of_some _ e) (Nat.le_refl _) ?_, rfl, q _ hf⟩
  exact ⟨z, us, r, ⟨_, Heap.get?_push_size _ rfl, rfl, _, rfl⟩⟩
theorem pe_lst (h : PA X es t) : PE X (.List es pos) (tLst t) := by
  intro pins s σ H Q I hq
  refine wpAny_List_spliced (thn (h pos pins s σ H _ I hq) fun us s1 ⟨xs, H1, I1, r, z, q⟩ => ⟨by rw [← r.length]; exact z, ?_⟩)
  have hf : H1 s1.heap.objs.size = none := I1.hok.fresh (Nat.le_refl _)
  refine ⟨.ref s1.heap.objs.size, upd H1 s1.heap.objs.size (.lst xs), I1.laid (t' := s1.toks) (fun b u e => Heap.get?_push_of_some _ e) (Nat.le_refl _) ?_, rfl, q _ hf⟩
  exact ⟨z, us, 0, r, Heap.get?_push_size _ rfl⟩
end

/-! ### what a def promises -/
/-- a def's promise: the bound arguments in the parameters' order, the heap, the wanted end, the wanted exception -/
abbrev Sp := List V → Hp → VK → XK → Prop
/-- how an exception lies behind a call (file 08 gives it): the callers' frames, abstract heap and state ahead of the call, the wish, the exception, the state -/
abbrev CXT := List Env → Hp → Shared → XK → Value → Shared → Prop

/-- the state at a call -/
structure Env0 (P : Program) (w : World) (K : PySem.W.Frag) (mg : Str → Option Value) (base : Heap) (A : Around) (outer : List Env) (s : Shared) (H : Hp) : Prop where
  frames : A.frames = some outer
  mod : Mod K mg base
  bs : ∀ b o, base.get? b = some o → s.heap.get? b = some o ∧ H b = none
  bsz : base.objs.size ≤ s.heap.objs.size
  funs : s.heap.FunFrames base outer
  frf : ∀ b ∈ frs outer, H b = none
  hok : HOk P w H s.heap
  bare : AllBare s.gens
/-- a call's end -/
def CE (outer : List Env) (P : Program) (w : World) (H : Hp) (s : Shared) (Q : VK) (u : Value) (s' : Shared) : Prop :=
  ∃ v H', s'.os = s.os ∧ AllBare s'.gens ∧ Un (frs outer) [] H H' s.heap s'.heap ∧ HOk P w H' s'.heap ∧ RelV v u ∧ Q v H'
def CR (CX : CXT) (outer : List Env) (P : Program) (w : World) (H : Hp) (s : Shared) (Q : VK) (E : XK) (r : Result) (s' : Shared) : Prop :=
  match r with
  | .ok (.ret u) => CE outer P w H s Q u s'
  | .ok _ => False
  | .error e => CX outer H s E e s'
structure FnOk (P : Program) (w : World) (K : PySem.W.Frag) (mg : Str → Option Value) (base : Heap) (CX : CXT) (k : Nat) (f : Addr) (fd : FuncData) (ps : List Str) (sp : Sp) : Prop where
  len : ∀ vs H Q E, sp vs H Q E → vs.length = ps.length
  run : ∀ (A : Around) (outer : List Env) (s : Shared) (H : Hp) (args : Args) (us : List Value) (vs : List V) (Q : VK) (E : XK), Room k A → Env0 P w K mg base A outer s H → BindsTo s fd args (ps.zip us) → Vals vs us → sp vs H Q E →
    codeAny (model P w) A (.call (.ref f) args) (CR CX outer P w H s Q E) s
section
variable {X : Cx} {pins : List (Addr × Obj)} {σ : St} {H : Hp} {s s' : Shared}
/-- from a body: what a callee wants -/
theorem Inv.env0 (I : Inv X pins σ H s) : Env0 X.prog X.w X.K X.mg X.base X.A X.stack s H :=
  ⟨I.ok.frames, I.ok.mod, I.bs, Nat.le_trans I.ok.bsz I.sz, I.stack, I.stkFree, I.hok, I.bare⟩
/-- behind a call -/
theorem Inv.after {Q : VK} {u : Value} (I : Inv X pins σ H s) (h : CE X.stack X.prog X.w H s Q u s') : EP X pins σ Q u s' := by
  obtain ⟨v, H', os, bare, un, hok, r, q⟩ := h
  obtain ⟨hh, g, d, t, os'⟩ := s'
  obtain rfl : os' = s.os := os
  exact ⟨v, H', I.call (h' := hh) (g' := g) (d' := d) (t' := t) (ch := []) un hok bare (fun b z => absurd z (by simp)), r, q⟩
end

/-! ### calls -/
/-- f(..): the written arguments, then the defaults dvs; E: what is wanted of an exception -/
def tCall (sp : Sp) (dvs : List V) (E : XK) (t : TA) : TE := fun σ H Q => t σ H fun vs H1 => sp (vs ++ dvs) H1 Q E
/-- o.m(..) of an instance of the class at C -/
def tMeth (C : Addr) (m : Str) (sp : Sp) (dvs : List V) (E : XK) (ta : TE) (t : TA) : TE := fun σ H Q => ta σ H fun x H1 => ∃ a dx fs, x = .ref a ∧ H1 a = some (.ins C dx fs) ∧ fs.lookup m = none ∧
  t σ H1 fun vs H2 => sp (x :: (vs ++ dvs)) H2 Q E
/-- C(..): a new instance and its dict, then __init__ -/
def tMake (C : Addr) (sp : Sp) (dvs : List V) (E : XK) (t : TA) : TE := fun σ H Q => t σ H fun vs H1 => ∀ x dx, H1 x = none → H1 dx = none → dx ≠ x →
  sp (.ref x :: (vs ++ dvs)) (upd (upd H1 dx (.own x)) x (.ins C dx [])) (fun v H2 => v = .non ∧ Q (.ref x) H2) E

/-- how the parameters are bound: us the positional arguments, kw the keywords' values by name, ds the defaults that fill up -/
def Binds (K : PySem.W.Frag) (fd : FuncData) (ps : List Str) (ds : List Value) : Prop :=
  ∀ (s : Shared) (us : List Value), K.In s.heap → (us ++ ds).length = ps.length → BindsTo s fd ⟨us, []⟩ (ps.zip (us ++ ds))
/-- every parameter is given -/
theorem Binds.all {K : PySem.W.Frag} {fd : FuncData} {ps : List Str} (h : ∀ us : List Value, us.length = ps.length → bindArgs fd ⟨us, []⟩ = pure (ps.zip us)) : Binds K fd ps [] := fun s us _ hl => by
  rw [List.append_nil] at hl ⊢
  exact .of_eq (h us hl)

/-- an exception of a callee reaches what this body wants of exceptions -/
def Passes (CX : CXT) (X : Cx) (E : XK) : Prop := ∀ (pins : List (Addr × Obj)) (σ : St) (H : Hp) (s : Shared) (e : Value) (s' : Shared), Inv X pins σ H s → CX X.stack H s E e s' → X.xe e s'

section
variable {X : Cx} {CX : CXT} {k : Nat} {f C : Addr} {fd : FuncData} {ps : List Str} {sp : Sp} {dvs : List V} {ds : List Value} {E : XK} {x m : Str} {p pos apos : Pos} {e o : Expr} {es : List Expr} {ta : TE} {t : TA}

/-- the callee runs -/
theorem run_fn {pins : List (Addr × Obj)} {σ : St} {H : Hp} {s : Shared} {Q : VK} {us : List Value} {vs : List V} (F : FnOk X.prog X.w X.K X.mg X.base CX k f fd ps sp) (hr : Room k X.A) (hb : Binds X.K fd ps ds) (hd : Vals dvs ds) (hx : Passes CX X E)
    (I : Inv X pins σ H s) (r : Vals vs us) (h : sp (vs ++ dvs) H Q E) : wpAny (model X.prog X.w) X.A (call (.ref f) us) (EP X pins σ Q) X.xe s := by
  have r2 : Vals (vs ++ dvs) (us ++ ds) := r.append hd
  have hl : (us ++ ds).length = ps.length := by rw [← r2.length]; exact F.len _ _ _ _ h
  refine wpAny_call (codeAny_mono (F.run X.A X.stack s H ⟨us, []⟩ (us ++ ds) (vs ++ dvs) Q E hr I.env0 (hb s us I.kIn hl) r2 h) fun r s' hq => ?_)
  cases r with
  | error e => exact hx pins σ H s e s' I hq
  | ok fl =>
    cases fl with
    | ret u => exact I.after hq
    | next => exact False.elim hq
    | brk => exact False.elim hq
    | cont => exact False.elim hq

theorem pe_call (F : FnOk X.prog X.w X.K X.mg X.base CX k f fd ps sp) (hr : Room k X.A) (hg : Gl X x) (hm : X.mg x = some (.ref f)) (hk : PySem.W.keepIn X.K (.ref f) = true) (hb : Binds X.K fd ps ds) (hd : Vals dvs ds) (hx : Passes CX X E)
    (ha : PA X (e :: es) t) (hdb : (x == ("__debug__" : Str)) = false := by decide) (he : starEach (e :: es) X.env = (false, eval e X.env) :: starEach es X.env := by rfl) (hpl : (backTo pos (starEach es X.env)).any (·.1) = false := by rfl) :
    PE X (.Call (.Name x p) (e :: es) [] pos) (tCall sp dvs E t) := by
  intro pins s σ H Q I h
  refine wpAny_Call_Name_kw (ld_glob I hg hm ?_ hdb)
  refine PySem.W.callWith_K (h₀ := X.base) I.ok.mod.kin hk (thn (ha pos pins s σ H _ I h) fun us s1 ⟨vs, H1, I1, r, q⟩ => ⟨I1.kIn, ?_⟩) he hpl
  exact run_fn F hr hb hd hx I1 r q
/-- what a class must have to be made -/
structure Mk (K : PySem.W.Frag) (C f : Addr) : Prop where
  makes : PySem.W.makesIn K C = true
  init : PySem.W.findIn K (.ref C) "__init__" = some (some (.ref f))
  fn : PySem.W.isFn K (.ref f) = true
  kp : PySem.W.keepIn K (.ref C) = true

end

/-! ### keywords -/
/-- the values of the keywords, from the left -/
def PK (X : Cx) (kws : List Keyword) (t : TA) : Prop :=
  ∀ (pos : Pos) (pins : List (Addr × Obj)) (s : Shared) (σ : St) (H : Hp) (Q : List V → Hp → Prop), Inv X pins σ H s → t σ H Q → wpAny (model X.prog X.w) X.A (evalAll ((backToKw pos (keywordEach kws X.env)).map (·.2))) (AP X pins σ Q) X.xe s
section
variable {X : Cx} {CX : CXT} {k : Nat} {f C : Addr} {fd : FuncData} {ps ks : List Str} {sp : Sp} {E : XK} {x m : Str} {p pos apos kpos : Pos} {e o : Expr} {es : List Expr} {kws : List Keyword} {te ta : TE} {t tk : TA} {nm : Option Str}
/-- how a call with keywords binds: g puts the positional values us and the keywords' values ws (names ks) in the parameters' order, defaults among them -/
structure KBinds (K : PySem.W.Frag) (fd : FuncData) (ps ks : List Str) (g : List Value → List Value → List Value) (gV : List V → List V → List V) : Prop where
  to : ∀ (s : Shared) (us ws : List Value), K.In s.heap → (g us ws).length = ps.length → BindsTo s fd ⟨us, ks.zip ws⟩ (ps.zip (g us ws))
  rel : ∀ {vs : List V} {us : List Value} {zs : List V} {ws : List Value}, Vals vs us → Vals zs ws → Vals (gV vs zs) (g us ws)
def tCallK (sp : Sp) (gV : List V → List V → List V) (E : XK) (t tk : TA) : TE := fun σ H Q => t σ H fun vs H1 => tk σ H1 fun zs H2 => sp (gV vs zs) H2 Q E
variable {g : List Value → List Value → List Value} {gV : List V → List V → List V}
end

/-! ### a def's body keeps its promise -/
/-- names: the parameters first -/
structure FnScope (N P : List Str) (sc : Scope) : Prop where
  kind : sc.kind = .function
  co : sc.isCoroutine = false
  gen : sc.isGenerator = false
  nd : N.Nodup
  pre : N.take P.length = P
  par : ∀ x ∈ P, sc.names.lookup x = some .local ∨ sc.names.lookup x = some .cell
  nofree : ∀ y ∈ sc.names, y.2 ≠ .free

theorem bindL_out {kindOf : Str → Option NameKind} {x : Str} : ∀ {binds : List (Str × Value)} {m : Str → Option Value}, (∀ v, (x, v) ∉ binds) → bindL kindOf binds m x = m x
  | [], _, _ => rfl
  | (n, v) :: r, m, h => by
    unfold bindL
    rw [bindL_out fun w hw => h w (List.mem_cons_of_mem _ hw)]
    split
    · have : x ≠ n := by rintro rfl; exact h v List.mem_cons_self
      simp [this]
    · rfl
theorem bindC_out {kindOf : Str → Option NameKind} {x : Str} : ∀ {binds : List (Str × Value)} {m : Str → Option Value}, (∀ v, (x, v) ∉ binds) → bindC kindOf binds m x = m x
  | [], _, _ => rfl
  | (n, v) :: r, m, h => by
    unfold bindC
    rw [bindC_out fun w hw => h w (List.mem_cons_of_mem _ hw)]
    split
    · rfl
    · have : x ≠ n := by rintro rfl; exact h v List.mem_cons_self
      simp [this]
theorem bindL_get {kindOf : Str → Option NameKind} {x : Str} {v : Value} : ∀ {P : List Str} {vs : List Value} {i : Nat} {m : Str → Option Value}, P.Nodup → P[i]? = some x → vs[i]? = some v → kindOf x = some .local →
    bindL kindOf (P.zip vs) m x = some v
  | [], _, _, _, _, h, _, _ => by simp at h
  | _ :: _, [], _, _, _, _, h, _ => by simp at h
  | p :: P, w :: vs, 0, m, nd, h1, h2, hk => by
    simp at h1 h2; subst h1; subst h2
    show bindL kindOf ((p, w) :: P.zip vs) m p = _
    unfold bindL
    rw [bindL_out fun v hv => (List.nodup_cons.mp nd).1 (List.of_mem_zip hv).1, if_pos hk]
    simp
  | p :: P, w :: vs, i + 1, m, nd, h1, h2, hk => by
    show bindL kindOf ((p, w) :: P.zip vs) m x = _
    unfold bindL
    exact bindL_get (i := i) (List.nodup_cons.mp nd).2 (by simpa using h1) (by simpa using h2) hk
theorem bindC_get {kindOf : Str → Option NameKind} {x : Str} {v : Value} : ∀ {P : List Str} {vs : List Value} {i : Nat} {m : Str → Option Value}, P.Nodup → P[i]? = some x → vs[i]? = some v → kindOf x ≠ some .local →
    bindC kindOf (P.zip vs) m x = some v
  | [], _, _, _, _, h, _, _ => by simp at h
  | _ :: _, [], _, _, _, _, h, _ => by simp at h
  | p :: P, w :: vs, 0, m, nd, h1, h2, hk => by
    simp at h1 h2; subst h1; subst h2
    show bindC kindOf ((p, w) :: P.zip vs) m p = _
    unfold bindC
    rw [bindC_out fun v hv => (List.nodup_cons.mp nd).1 (List.of_mem_zip hv).1, if_neg hk]
    simp
  | p :: P, w :: vs, i + 1, m, nd, h1, h2, hk => by
    show bindC kindOf ((p, w) :: P.zip vs) m x = _
    unfold bindC
    exact bindC_get (i := i) (List.nodup_cons.mp nd).2 (by simpa using h1) (by simpa using h2) hk

/-- the names' values at the entry -/
def start (N : List Str) (vs : List V) : St := vs.map some ++ List.replicate (N.length - vs.length) none

/-- the context of a def's body, at its entry; an exception leaves the frame, then lies as CX says -/
def cxOf (CX : CXT) (P : Program) (w : World) (K : PySem.W.Frag) (mg : Str → Option Value) (base : Heap) (N : List Str) (qual : Str) (scope : Scope) (f : Addr) (cd : Value) (A : Around) (outer : List Env) (s : Shared) (H : Hp) (E : XK) : Cx where
  prog := P
  w := w
  K := K
  mg := mg
  base := base
  A := A.deeper (envOfC qual scope s.heap.objs.size f cd)
  N := N
  s₀ := s
  H₀ := H
  env := envOfC qual scope s.heap.objs.size f cd
  outer := outer
  stack := envOfC qual scope s.heap.objs.size f cd :: outer
  ex := []
  calm := true
  fn := fun _ => true
  pn := []
  xe := fun e s' => wpAny (model P w) (A.deeper (envOfC qual scope s.heap.objs.size f cd)) (leaving (envOfC qual scope s.heap.objs.size f cd) e) (fun _ s'' => CX outer H s E e s'') (fun e' s'' => CX outer H s E e' s'') s'

theorem cell_has {sc : Scope} {n : Nat} {x : Str} (h : sc.names.lookup x = some .cell) : ∃ c, (cellsFrom n sc.names []).lookup x = some c := by
  have q := PySem.W.cellsFrom_some sc.names n [] (.inl h)
  exact Option.isSome_iff_exists.mp q

theorem inv_start {CX : CXT} {P : Program} {w : World} {K : PySem.W.Frag} {mg : Str → Option Value} {base : Heap} {N ps : List Str} {qual : Str} {scope : Scope} {f : Addr} {cd : Value} {A : Around} {outer : List Env} {s s1 : Shared} {H : Hp} {E : XK} {us : List Value} {vs : List V}
    (S : FnScope N ps scope) (hd : A.handled = none) (e0 : Env0 P w K mg base A outer s H) (hl : vs.length = ps.length) (r : Vals vs us)
    (x : InCallC s s.heap.objs.size (bindL (envOfC qual scope s.heap.objs.size f cd).kindOf (ps.zip us) fun _ => none) (cellsFrom (s.heap.objs.size + 1) scope.names []) (bindC (envOfC qual scope s.heap.objs.size f cd).kindOf (ps.zip us) fun _ => none) s1) :
    Inv (cxOf CX P w K mg base N qual scope f cd A outer s H E) [] (start N vs) H s1 := by
  have hpl : ps.length ≤ N.length := by have := congrArg List.length S.pre; rw [List.length_take] at this; omega
  obtain ⟨h1, tk, rfl, hk⟩ := x.done
  have noA : ∀ b : Addr, b ∉ (cxOf CX P w K mg base N qual scope f cd A outer s H E).ex := fun b z => absurd (show b ∈ ([] : List Addr) from z) (by simp)
  refine ⟨⟨e0.mod, S.kind, rfl, rfl, Nat.le_refl _, fun y z c h1 h2 => ?_, fun y hy => ?_, fun y c _ h => ?_, fun _ => hd, Around.frames_deeper e0.frames, .inr ⟨rfl, rfl⟩, fun b z => absurd z (noA b), e0.bs, e0.bsz, fun b _ _ => noA b, fun b z => absurd z (noA b), e0.funs, e0.frf⟩,
    rfl, e0.bare, Un.kept hk, ⟨_, x.toInCall.ns, fun i y v h1 h2 h3 => ?_⟩, fun y c h => ⟨_, x.cell y c h⟩, e0.hok.fresh (Nat.le_refl _), fun y c h => ?_, fun p hp => absurd (show p ∈ ([] : List (Addr × Obj)) from hp) (by simp), e0.hok.kept hk, ?_⟩
  · exact name_of_addr x.apart (PySem.mem_of_lookup h1) (PySem.mem_of_lookup h2)
  · have hy : scope.names.lookup y = some .cell ∨ scope.names.lookup y = some .free := hy
    rcases hy with hy | hy
    · exact cell_has hy
    · exact absurd rfl (S.nofree _ (PySem.mem_of_lookup hy))
  · exact Nat.le_of_lt (x.above y c (PySem.mem_of_lookup h))
  · have hi : i < vs.length := by
      unfold start at h2
      by_cases hi : i < vs.length
      · exact hi
      · rw [List.getElem?_append_right (by simpa using hi)] at h2
        rw [List.getElem?_replicate] at h2
        split at h2 <;> cases h2
    have ha : vs[i]? = some v := by
      unfold start at h2
      rw [List.getElem?_append_left (by simpa using hi), List.getElem?_map] at h2
      cases e : vs[i]? with
      | none => rw [e] at h2; cases h2
      | some a => rw [e] at h2; cases h2; rfl
    obtain ⟨u, hu, rv⟩ := r.get ha
    have hp : ps[i]? = some y := by
      rw [← S.pre, List.getElem?_take_of_lt (by omega)]; exact h1
    have ndP : ps.Nodup := by rw [← S.pre]; exact S.nd.sublist (List.take_sublist _ _)
    refine ⟨u, rv, ?_⟩
    rcases S.par y (List.mem_of_getElem? hp) with k | k
    · exact .inl ⟨k, bindL_get ndP hp hu k⟩
    · obtain ⟨c, e⟩ := cell_has (n := s.heap.objs.size + 1) k
      refine .inr ⟨.inl k, c, e, ?_⟩
      have q := x.cell y c e
      rw [bindC_get ndP hp hu (by show scope.names.lookup y ≠ _; rw [k]; decide)] at q
      exact q
  · exact e0.hok.fresh (Nat.le_of_lt (x.above y c (PySem.mem_of_lookup h)))
  · unfold start
    show _ = N.length
    rw [List.length_append, List.length_map, List.length_replicate]
    omega

/-- THE RULE: a def (or a method) of the text, by its body. The body's reading t is chosen for each entry; it is run at the parameters' values -/
theorem fn_of {CX : CXT} {P : Program} {w : World} {K : PySem.W.Frag} {mg : Str → Option Value} {base : Heap} {k : Nat} {f : Addr} {name qual : Str} {params : Arguments} {body : List Stmt} {scope : Scope} {dV kV doc pm cdv ct oc : Value} {an od : Option Addr}
    {osl : Array (Option Value)} {N ps : List Str} {sp : Sp} (lk : K.lookup f = some ⟨oc, od, .func (PySem.W.fnOf name qual params body scope dV kV doc pm an cdv ct), osl⟩) (hcd : PySem.W.codeIn K cdv qual = true) (S : FnScope N ps scope)
    (len : ∀ vs H Q E, sp vs H Q E → vs.length = ps.length)
    (hbody : ∀ (A : Around) (outer : List Env) (s : Shared) (H : Hp) (vs : List V) (Q : VK) (E : XK), Room k (A.deeper (envOfC qual scope s.heap.objs.size f cdv)) → sp vs H Q E →
      ∃ t, PSs (cxOf CX P w K mg base N qual scope f cdv A outer s H E) body t ∧ t { nx := fun _ H' => Q .non H', rt := Q } (start N vs) H) :
    FnOk P w K mg base CX (k + 1) f (PySem.W.fnOf name qual params body scope dV kV doc pm an cdv ct) ps sp := by
  refine ⟨len, fun A outer s H args us vs Q E hr e0 hb r hsp => ?_⟩
  have hl := len _ _ _ _ hsp
  have KX : K.In s.heap := e0.mod.kin.keeps fun b o e => (e0.bs b o e).1
  have lim : s.heap.NoLimit := e0.mod.nolimit.keeps fun b o e => (e0.bs b o e).1
  have hkind : ∀ y ∈ ps.zip us, scope.names.lookup y.1 = some .local ∨ (scope.names.lookup y.1 = some .cell ∧ ((cellsFrom (s.heap.objs.size + 1) scope.names []).lookup y.1).isSome = true) := fun ⟨n, v⟩ hy => by
    rcases S.par n (List.of_mem_zip hy).1 with q | q
    · exact .inl q
    · exact .inr ⟨q, PySem.W.cellsFrom_some _ _ _ (.inl q)⟩
  refine codeAny_call_function hr.depth (KX _ _ lk) rfl S.co S.gen rfl (PySem.W.codeRec_of KX hcd) (hb _ _ _ _ ?_)
  refine wpAny_newFunctionEnv_cells S.kind hkind fun env he s1 x => ?_
  subst he
  refine ⟨lim.keeps x.toInCall.keep, codeAny_func ?_⟩
  obtain ⟨t, ht, hq⟩ := hbody A outer s H vs Q E (hr.deeper _) hsp
  have I : Inv (cxOf CX P w K mg base N qual scope f cdv A outer s H E) [] (start N vs) H s1 := inv_start S hr.hd e0 hl r x
  refine wpAny_mono (ht [] s1 (start N vs) H _ I hq) (fun fl s' hs => ?_) fun e s' hs => hs
  have fin : ∀ {σ' : St} {H' : Hp} {v : V} {u : Value}, Inv (cxOf CX P w K mg base N qual scope f cdv A outer s H E) [] σ' H' s' → RelV v u → Q v H' → CE outer P w H s Q u s' :=
    fun {σ' H' v u} J rv q => ⟨v, H', J.os, J.bare, J.base, J.hok, rv, q⟩
  cases fl with
  | ret u =>
    obtain ⟨v, σ', H', J, rv, q⟩ := hs
    exact fin J rv q
  | next =>
    obtain ⟨σ', H', J, q⟩ := hs
    exact fin (v := V.non) (u := Value.none) J rfl q
  | brk =>
    obtain ⟨_, _, _, q⟩ := hs
    exact False.elim q
  | cont =>
    obtain ⟨_, _, _, q⟩ := hs
    exact False.elim q
end L2

namespace L2
open PySem PySem.Spec PyProof.Rows
section
variable {X : Cx} {x : Str} {p pos : Pos} {e : Expr} {es : List Expr} {t : TA} {id T : String} {r : List V → Hp → VK → Prop}

def tCB (r : List V → Hp → VK → Prop) (t : TA) : TE := fun σ H Q => t σ H fun vs H1 => r vs H1 Q
/-- f(e, ..), f a built-in function -/
theorem pe_callB (hc : CallR X (.builtin id) r) (hg : Gl X x) (hm : X.mg x = none) (hv : bootBuiltins x = some (.builtin id)) (ha : PA X (e :: es) t) (hn : x ≠ "__name__" := by decide) (hdb : (x == ("__debug__" : Str)) = false := by decide)
    (he : starEach (e :: es) X.env = (false, eval e X.env) :: starEach es X.env := by rfl) (hpl : (backTo pos (starEach es X.env)).any (·.1) = false := by rfl) : PE X (.Call (.Name x p) (e :: es) [] pos) (tCB r t) := by
  intro pins s σ H Q I h
  refine wpAny_Call_Name_kw (ld_blt I hg hm hv ?_ hn hdb)
  exact PyProof.Rows.callWith_builtin1 (thn (ha pos pins s σ H _ I h) fun us s1 ⟨vs, H1, I1, r1, q1⟩ => hc pins s1 σ H1 vs us Q I1 r1 q1) he hpl
/-- T(e, ..), T a built-in type -/
theorem pe_callTy (hc : CallR X (.type T) r) (hg : Gl X x) (hm : X.mg x = none) (hv : bootBuiltins x = some (.type T)) (ha : PA X (e :: es) t) (hn : x ≠ "__name__" := by decide) (hdb : (x == ("__debug__" : Str)) = false := by decide)
    (he : starEach (e :: es) X.env = (false, eval e X.env) :: starEach es X.env := by rfl) (hpl : (backTo pos (starEach es X.env)).any (·.1) = false := by rfl) : PE X (.Call (.Name x p) (e :: es) [] pos) (tCB r t) := by
  intro pins s σ H Q I h
  refine wpAny_Call_Name_kw (ld_blt I hg hm hv ?_ hn hdb)
  exact PyProof.Rows.callWith_type1 (thn (ha pos pins s σ H _ I h) fun us s1 ⟨vs, H1, I1, r1, q1⟩ => hc pins s1 σ H1 vs us Q I1 r1 q1) he hpl
end
end L2

namespace HT
open PySem PyProof.Rows

/-- t < u of tuples of ints -/
def lexLt : List Int → List Int → Bool
  | [], [] => false
  | [], _ :: _ => true
  | _ :: _, [] => false
  | x :: xs, y :: ys => if x = y then lexLt xs ys else decide (x < y)
section
open PySem.SeqAt
open PySem.AutoSeq1 (wpAny_loadPart')
open PySem.MeetsSeq PySem.MeetsSeq2 PySem.MeetsSeq3

end

section
variable {prog : Program} {w : World} {A : Around} {E : Value → Shared → Prop} {s : Shared}

/-- t + u, t not empty -/
theorem cat_tup {t b : Addr} {vs ws : List Value} {Q : Value → Shared → Prop} (ht : IsTup s.heap t vs.toArray) (hb : IsTup s.heap b ws.toArray) (hv : vs ≠ [])
    (h1 : ws = [] → Q (.ref t) s) (h2 : ws ≠ [] → Q (.ref s.heap.objs.size) { s with heap := s.heap.push { cls := .type "tuple", data := .seq (vs ++ ws).toArray } })
    (hsz : vs.length + ws.length ≤ sizeLine) : wpAny (model prog w) A (binaryOp .Add (.ref t) (.ref b)) Q E s := by
  obtain ⟨⟨cls, dd, data, sl⟩, ho, hc, n, hd⟩ := id ht
  obtain ⟨⟨cls2, dd2, data2, sl2⟩, ho2, hc2, n2, hd2⟩ := id hb
  simp only at hc hd hc2 hd2
  subst hc hd hc2 hd2
  have e : vs.toArray ++ ws.toArray = (vs ++ ws).toArray := by simp
  by_cases hw : ws = []
  · exact concat_meets ⟨_, ho, rfl⟩ ⟨_, ho2, rfl⟩ noFill_tuple_add seq_tuple_add PySem.F.slot_tuple_add PySem.F.entry_tuple_add (PySem.F.args_tuple_add_2 _ _)
      (tuple_addW1 t b vs.toArray ws.toArray n n2 dd dd2 sl sl2 (by simpa using hv) (by simp [hw])) ⟨ho, ho2, h1 hw⟩
  · refine concat_meets ⟨_, ho, rfl⟩ ⟨_, ho2, rfl⟩ noFill_tuple_add seq_tuple_add PySem.F.slot_tuple_add PySem.F.entry_tuple_add (PySem.F.args_tuple_add_2 _ _)
      (tuple_addW2 t b vs.toArray ws.toArray n n2 dd dd2 sl sl2 (by simpa using hv) (by simpa using hw) (by rw [List.size_toArray, List.size_toArray]; exact hsz)) ⟨ho, ho2, ?_⟩
    rw [e]
    exact h2 hw

/-! ### t[a:b], not the whole -/
/-- a slice's bound as a place among n (d where it is left out) -/
def sIx (n d : Nat) : Option Int → Nat
  | none => d
  | some v => if v < 0 then (v + (n : Int)).toNat else min v.toNat n
theorem sIx_none (n d : Nat) : sIx n d none = d := rfl
theorem sIx_nat (n d k : Nat) : sIx n d (some (k : Int)) = min k n := by
  show (if (k : Int) < 0 then ((k : Int) + (n : Int)).toNat else min (k : Int).toNat n) = min k n
  rw [if_neg (by omega), Int.toNat_natCast]
theorem sIx_le (n d : Nat) (hd : d ≤ n) (o : Option Int) : sIx n d o ≤ n := by
  cases o with
  | none => exact hd
  | some v =>
    show (if v < 0 then (v + (n : Int)).toNat else min v.toNat n) ≤ n
    by_cases hv : v < 0
    · rw [if_pos hv]; omega
    · rw [if_neg hv]; exact Nat.min_le_right _ _
theorem clip_eq (v : Int) (n d : Nat) : (if v < 0 then max (v + (n : Int)) 0 else min v (n : Int)) = ((sIx n d (some v) : Nat) : Int) := by
  show (if v < 0 then max (v + (n : Int)) 0 else min v (n : Int)) = (((if v < 0 then (v + (n : Int)).toNat else min v.toNat n) : Nat) : Int)
  by_cases hv : v < 0
  · simp only [if_pos hv]; omega
  · simp only [if_neg hv]; omega
theorem adjust_gen (lo hi : Option Int) (n : Nat) : Builtin.Slice.sliceAdjust lo hi 1 (n : Int) = (((sIx n 0 lo : Nat) : Int), ((sIx n n hi : Nat) : Int)) := by
  have h1 : ¬ ((1 : Int) < 0) := by omega
  unfold Builtin.Slice.sliceAdjust
  simp only [h1, if_false]
  refine Prod.ext ?_ ?_
  · cases lo with
    | none => rfl
    | some v => exact clip_eq v n 0
  · cases hi with
    | none => rfl
    | some v => exact clip_eq v n n
theorem places_gen (i j : Nat) : Builtin.Slice.slicePlaces (i : Int) (j : Int) 1 = j - i := by
  unfold Builtin.Slice.slicePlaces
  have h1 : (1 : Int) > 0 := by omega
  simp only [h1, if_true, Int.ediv_one]
  split <;> omega
theorem slicePart_ {v : Value} {o : Option Int} {Q : Option Int → Shared → Prop} (p : IsPart v o) (h : Q o s) : wpAny (model prog w) A (Builtin.Slice.slicePartIndex v) Q E s := by
  cases p with
  | none => exact slicePart_none h
  | int i t => exact slicePart_int h
theorem sliceApplied_gen {sl : Addr} {vl vu : Value} {lo hi : Option Int} {n : Nat} {Q : Int × Int × Nat → Shared → Prop} (hs : s.heap.IsSliceOf sl vl vu .none) (pl : IsPart vl lo) (pu : IsPart vu hi)
    (h : Q (((sIx n 0 lo : Nat) : Int), 1, sIx n n hi - sIx n 0 lo) s) : wpAny (model prog w) A (Builtin.Slice.sliceApplied (.ref sl) (pure (n : Int))) Q E s := by
  obtain ⟨os, hos, hcs, hds⟩ := id hs
  unfold Builtin.Slice.sliceApplied Builtin.Slice.sliceFields
  refine wpAny_bind (wpAny_bind (wpAny_field hos hds (x := vl) rfl (wpAny_bind (wpAny_field hos hds (x := vu) rfl (wpAny_bind (wpAny_field hos hds (x := .none) rfl (wpAny_pure ?_)))))))
  refine wpAny_bind (slicePart_none ?_)
  show wpAny _ _ (if ((1 : Int) == 0) = true then _ else _) _ _ s
  rw [if_neg (by decide)]
  refine wpAny_bind (slicePart_ pl (wpAny_bind (slicePart_ pu (wpAny_bind (wpAny_pure ?_)))))
  show wpAny _ _ (match Builtin.Slice.sliceAdjust lo hi 1 (n : Int) with | (lo, hi) => pure (lo, (1 : Int), Builtin.Slice.slicePlaces lo hi 1)) _ _ s
  rw [adjust_gen lo hi n]
  show wpAny _ _ (pure (((sIx n 0 lo : Nat) : Int), (1 : Int), Builtin.Slice.slicePlaces ((sIx n 0 lo : Nat) : Int) ((sIx n n hi : Nat) : Int) 1)) _ _ s
  rw [places_gen]
  exact wpAny_pure h
theorem pick_gen (xs : Array Value) (i k : Nat) : ((List.range k).filterMap fun (m : Nat) => xs[((i : Int) + (m : Int) * 1).toNat]?).toArray = ((xs.toList.drop i).take k).toArray := by
  have e : (fun (m : Nat) => xs[((i : Int) + (m : Int) * 1).toNat]?) = fun m => xs[i + m]? := by
    funext m
    have : ((i : Int) + (m : Int) * 1).toNat = i + m := by omega
    rw [this]
  rw [e]
  have := pick_run xs i k
  rw [List.filterMap_map] at this
  have e2 : ((fun x => xs[x]?) ∘ fun x => i + x) = fun m => xs[i + m]? := rfl
  rw [e2] at this
  rw [this]

theorem getItem_tuple_cut {t sl : Addr} {items : Array Value} {vl vu : Value} {lo hi : Option Int} {Q : Value → Shared → Prop} (ht : IsTup s.heap t items) (hs : s.heap.IsSliceOf sl vl vu .none) (pl : IsPart vl lo) (pu : IsPart vu hi)
    (hw : ¬ (sIx items.size 0 lo = 0 ∧ sIx items.size items.size hi = items.size))
    (h : Q (.ref s.heap.objs.size) { s with heap := s.heap.push { cls := .type "tuple", data := .seq ((items.toList.drop (sIx items.size 0 lo)).take (sIx items.size items.size hi - sIx items.size 0 lo)).toArray } })
    (hsz : items.size ≤ sizeLine) : wpAny (model prog w) A (getItem (.ref t) (.ref sl)) Q E s := by
  have htake : sizeOk (.seq ((items.toList.drop (sIx items.size 0 lo)).take (sIx items.size items.size hi - sIx items.size 0 lo)).toArray) := by
    show ((items.toList.drop (sIx items.size 0 lo)).take (sIx items.size items.size hi - sIx items.size 0 lo)).toArray.size ≤ sizeLine
    rw [List.size_toArray, List.length_take, List.length_drop, Array.length_toList]
    omega
  have hj : sIx items.size items.size hi ≤ items.size := sIx_le _ _ (Nat.le_refl _) hi
  obtain ⟨os, hos, hcs, hds⟩ := id hs
  have hTs : s.TypeIs (.ref sl) "slice" := ⟨os, hos, hcs⟩
  unfold getItem
  try with_reducible refine wpAny_holding ?_
  first | refine wpAny_bind (wpAny_pure ?_) | skip
  refine wpAny_bind (wpAny_sequenceKey ht.typeIs (by decide) ?_)
  refine wpAny_bind (wpAny_callSpecial?_slot (name := Str.ofString "__getitem__") ht.typeIs PyProof.Rows.slot_tuple_getitem
    (wpAny_call_entry PyProof.Rows.slot_tuple_getitem ht.typeIs entry_tuple_getitem ?_ (args_tuple_getitem _ _)))
  show wpAny _ _ (Builtin.Tuple.tupleItemsOf (.ref t) >>= _) _ _ s
  refine wpAny_bind (tupleItemsOf_ ht ?_)
  refine wpAny_bind (wpAny_typeOf hTs ?_)
  rw [if_pos (by decide)]
  refine wpAny_bind (sliceApplied_gen hs pl pu ?_)
  have hno : ¬ ((((sIx items.size 0 lo : Nat) : Int) == 0 && (1 : Int) == 1 && (sIx items.size items.size hi - sIx items.size 0 lo) == items.size) = true) := by
    intro q
    rw [Bool.and_eq_true, Bool.and_eq_true] at q
    have q1 : ((sIx items.size 0 lo : Nat) : Int) = 0 := eq_of_beq q.1.1
    have q2 : sIx items.size items.size hi - sIx items.size 0 lo = items.size := eq_of_beq q.2
    exact hw ⟨by omega, by omega⟩
  show wpAny _ _ (if (((sIx items.size 0 lo : Nat) : Int) == 0 && (1 : Int) == 1 && (sIx items.size items.size hi - sIx items.size 0 lo) == items.size) = true then _ else _) _ _ s
  rw [if_neg hno, pick_gen]
  first
    | exact wpAny_bind (m := Builtin.Tuple.tupleExact _) (wpAny_newObj_type (wpAny_pure ⟨_, rfl, wpAny_pure h⟩) htake)
    | exact wpAny_bind (m := Builtin.Tuple.tupleExact _) (wpAny_newObj_type (wpAny_bind (wpAny_pure (wpAny_pure ⟨_, rfl, wpAny_pure h⟩))) htake)
    | exact wpAny_bind (wpAny_bind (m := Builtin.Tuple.tupleExact _) (wpAny_newObj_type (wpAny_pure (wpAny_pure ⟨_, rfl, wpAny_pure h⟩)) htake))
    | exact wpAny_bind (wpAny_bind (m := Builtin.Tuple.tupleExact _) (wpAny_newObj_type (wpAny_pure ⟨_, rfl, wpAny_pure h⟩) htake))
end
end HT

namespace L2
open PySem PySem.Spec PyProof.Rows

/-! ### the parts of a slice -/
abbrev TO := St → Hp → (Option Int → Hp → Prop) → Prop
/-- a slice's part (left out, or an int) -/
def PO (X : Cx) (e : Option Expr) (t : TO) : Prop :=
  ∀ (pins : List (Addr × Obj)) (s : Shared) (σ : St) (H : Hp) (Q : Option Int → Hp → Prop), Inv X pins σ H s → t σ H Q →
    wpAny (model X.prog X.w) X.A (evalPart e X.env) (fun u s' => ∃ o H', Inv X pins σ H' s' ∧ IsPart u o ∧ Q o H') X.xe s
def tNoPart : TO := fun _ H Q => Q none H
def tPart (t : TE) : TO := fun σ H Q => t σ H fun x H1 => ∃ i, x = .int i ∧ Q (some i) H1

section
variable {X : Cx} {e : Expr} {te : TE} {lo hi : Option Expr} {tl th : TO} {pos p2 : Pos}

theorem po_none : PO X none tNoPart := by
  intro pins s σ H Q I h
  rw [evalPart_none]
  exact wpAny_pure ⟨none, H, I, .none, h⟩
theorem po_some (h : PE X e te) : PO X (some e) (tPart te) := by
  intro pins s σ H Q I hw
  rw [evalPart_some]
  refine thn (h pins s σ H _ I hw) fun u s1 ⟨x, H1, I1, r1, q1⟩ => ?_
  obtain ⟨i, rfl, q⟩ := q1
  obtain ⟨t, rfl⟩ := r1
  exact ⟨some i, H1, I1, .int i t, q⟩

/-- what a slice of a value is, by values: the slice object stands at sl -/
def SlR (X : Cx) (r : V → Option Int → Option Int → Hp → VK → Prop) : Prop :=
  ∀ (pins : List (Addr × Obj)) (s : Shared) (σ : St) (H : Hp) (x : V) (v vl vu : Value) (lo hi : Option Int) (sl : Addr) (Q : VK), Inv X pins σ H s → RelV x v → s.heap.IsSliceOf sl vl vu .none → IsPart vl lo → IsPart vu hi → r x lo hi H Q →
    ∃ T id, typeLookup (.type T) "__getitem__" = pure (some (.builtin id)) ∧ s.TypeIs v T ∧ wpAny (model X.prog X.w) X.A (getItem v (.ref sl)) (EP X pins σ Q) X.xe s
def tSl (r : V → Option Int → Option Int → Hp → VK → Prop) (te : TE) (tl th : TO) : TE := fun σ H Q => te σ H fun x H1 => tl σ H1 fun l H2 => th σ H2 fun u H3 => r x l u H3 Q
/-- a[lo:hi], any a -/
theorem pe_slice {r : V → Option Int → Option Int → Hp → VK → Prop} (hr : SlR X r) (he : PE X e te) (hl : PO X lo tl) (hu : PO X hi th) : PE X (.Subscript e (.Slice lo hi none p2) pos) (tSl r te tl th) := by
  intro pins s σ H Q I h
  refine Subscript_ (thn (he pins s σ H _ I h) fun v s1 ⟨x, H1, I1, r1, q1⟩ => ?_)
  refine wpAny_Slice (thn (hl pins s1 σ H1 _ I1 q1) fun vl s2 ⟨l, H2, I2, pl, q2⟩ => thn (hu pins s2 σ H2 _ I2 q2) fun vu s3 ⟨u, H3, I3, pu, q3⟩ => ?_)
  rw [evalPart_none]
  refine wpAny_pure ?_
  have I4 : Inv X pins σ H3 { s3 with heap := s3.heap.push { cls := .type "slice", data := .fields #[vl, vu, .none] } } := I3.kept (t' := s3.toks) fun b ob q => Heap.get?_push_of_some _ q
  obtain ⟨T, id, hT, ht, hg⟩ := hr pins { s3 with heap := s3.heap.push { cls := .type "slice", data := .fields #[vl, vu, .none] } } σ H3 x v vl vu l u s3.heap.objs.size Q I4 r1 (Heap.IsSliceOf.new ..) pl pu q3
  show wpAny (model X.prog X.w) X.A (subscriptTail e (.Slice lo hi none p2) v (.ref s3.heap.objs.size)) (EP X pins σ Q) X.xe { s3 with heap := s3.heap.push { cls := .type "slice", data := .fields #[vl, vu, .none] } }
  exact tail_any (ops := [.ref s3.heap.objs.size, v]) ht hT hg (by with_unfolding_all rfl)

/-- the items of xs[lo:hi] -/
def cutV (xs : List V) (lo hi : Option Int) : List V := (xs.drop (HT.sIx xs.length 0 lo)).take (HT.sIx xs.length xs.length hi - HT.sIx xs.length 0 lo)
theorem cutV_length (xs : List V) (lo hi : Option Int) : (cutV xs lo hi).length ≤ xs.length := by
  unfold cutV
  rw [List.length_take, List.length_drop]
  omega
/-- t[lo:hi], not the whole of it (the whole would be t itself) -/
def rSlT (K : PySem.W.Frag) : V → Option Int → Option Int → Hp → VK → Prop := fun x lo hi H Q => ∃ a xs, x = .ref a ∧ SqT K H a xs ∧
  ¬ (HT.sIx xs.length 0 lo = 0 ∧ HT.sIx xs.length xs.length hi = xs.length) ∧ ∀ p, H p = none → Q (.ref p) (upd H p (.tup (cutV xs lo hi)))
/-! ### t < u, t + u -/
def rLtT (K : PySem.W.Frag) : R2 := fun x y H Q => ∃ a b ns ms, x = .ref a ∧ y = .ref b ∧ SqT K H a (ns.map V.int) ∧ SqT K H b (ms.map V.int) ∧ Q (.bl (HT.lexLt ns ms)) H
/-- t + u, t not empty: u empty gives t itself -/
def rCatT (K : PySem.W.Frag) : R2 := fun x y H Q => ∃ a b xs ys, x = .ref a ∧ y = .ref b ∧ SqT K H a xs ∧ SqT K H b ys ∧ xs ≠ [] ∧ xs.length + ys.length ≤ sizeLine ∧
  (ys = [] → Q (.ref a) H) ∧ (ys ≠ [] → ∀ p, H p = none → Q (.ref p) (upd H p (.tup (xs ++ ys))))
theorem Vals.nil_iff {xs : List V} {us : List Value} (r : Vals xs us) : us = [] ↔ xs = [] := by
  cases r with
  | nil => simp
  | cons _ _ => simp
end
end L2

namespace L2
open PySem PySem.Spec PyProof.Rows

/-! ### places -/
/-- the place that an index of any sign means -/
def ixN (n : Nat) (i : Int) : Option Nat := if 0 ≤ i then (if i < n then some i.toNat else none) else if -(n : Int) ≤ i then some (i + n).toNat else none
def atI {α : Type} (xs : List α) (i : Int) : Option α := (ixN xs.length i).bind fun j => xs[j]?
theorem ixN_seq {n : Nat} {i : Int} {j : Nat} (h : ixN n i = some j) : seqIndex? i n = some j ∧ j < n ∧ -(n : Int) ≤ i ∧ i < n := by
  unfold ixN at h
  by_cases h0 : 0 ≤ i
  · rw [if_pos h0] at h
    by_cases h1 : i < n
    · rw [if_pos h1] at h
      have e : i.toNat = j := Option.some.inj h
      exact ⟨by rw [seqIndex_of h0 h1, e], by omega, by omega, h1⟩
    · rw [if_neg h1] at h; cases h
  · rw [if_neg h0] at h
    by_cases h1 : -(n : Int) ≤ i
    · rw [if_pos h1] at h
      have e : (i + n).toNat = j := Option.some.inj h
      exact ⟨by rw [seqIndex_neg (by omega) h1, e], by omega, h1, by omega⟩
    · rw [if_neg h1] at h; cases h
theorem atI_get {α : Type} {xs : List α} {i : Int} {v : α} (h : atI xs i = some v) : ∃ j, seqIndex? i xs.length = some j ∧ xs[j]? = some v ∧ j < xs.length ∧ -(xs.length : Int) ≤ i ∧ i < xs.length := by
  unfold atI at h
  cases e : ixN xs.length i with
  | none => rw [e] at h; cases h
  | some j =>
    rw [e] at h
    obtain ⟨h1, h2, h3, h4⟩ := ixN_seq e
    exact ⟨j, h1, h, h2, h3, h4⟩
theorem atI_nat {α : Type} {xs : List α} {j : Nat} {v : α} (h : xs[j]? = some v) : atI xs (j : Int) = some v := by
  have hj : j < xs.length := (List.getElem?_eq_some_iff.mp h).1
  have e : ixN xs.length (j : Int) = some j := by
    unfold ixN
    rw [if_pos (by omega), if_pos (by omega)]; simp
  unfold atI; rw [e]; exact h
theorem atI_last {α : Type} (xs : List α) (v : α) : atI (xs ++ [v]) (-1) = some v := by
  have hl : (xs ++ [v]).length = xs.length + 1 := by simp
  have e : ixN (xs ++ [v]).length (-1) = some xs.length := by
    unfold ixN
    rw [hl, if_neg (by decide), if_pos (by omega)]
    congr 1
    omega
  unfold atI
  rw [e]
  show (xs ++ [v])[xs.length]? = some v
  simp

/-! ### what may be subscripted -/
/-- what stands as an index of a plain subscript -/
def PlainIx (b : Expr) : Prop := ∀ o i, subscripted b false o i = operate [o, i] (getItem o i)
/-- a subscript by values -/
def IxR (X : Cx) (r : R2) : Prop :=
  ∀ (value slice : Expr) (pins : List (Addr × Obj)) (s : Shared) (σ : St) (H : Hp) (x y : V) (v u : Value) (Q : VK), Inv X pins σ H s → RelV x v → RelV y u → r x y H Q →
    subscripted slice false v u = operate [v, u] (getItem v u) → wpAny (model X.prog X.w) X.A (subscriptTail value slice v u) (EP X pins σ Q) X.xe s
/-- a call of a builtin's method by values: the receiver, the arguments -/
def MtR (X : Cx) (id : String) (r : V → List V → Hp → VK → Prop) : Prop :=
  ∀ (pins : List (Addr × Obj)) (s : Shared) (σ : St) (H : Hp) (x : V) (xs : List V) (v : Value) (us : List Value) (Q : VK), Inv X pins σ H s → RelV x v → Vals xs us → r x xs H Q →
    wpAny (model X.prog X.w) X.A (call (.builtin id) (v :: us)) (EP X pins σ Q) X.xe s
section
variable {X : Cx} {a b : Expr} {ta tb : TE} {pos : Pos}
/-- a[b] -/
theorem pe_ix {r : R2} (hr : IxR X r) (ha : PE X a ta) (hb : PE X b tb) (hs : PlainIx b) : PE X (.Subscript a b pos) (tOp r ta tb) := by
  intro pins s σ H Q I h
  exact Subscript_ (binT ha hb I h fun v u s2 x y H2 I2 rx ry q => hr a b pins s2 σ H2 x y v u Q I2 rx ry q (hs _ _))

def rIxL (K : PySem.W.Frag) : R2 := fun x y H Q => ∃ p xs i v, x = .ref p ∧ y = .int i ∧ SqL K H p xs ∧ atI xs i = some v ∧ Q v H
def rIxT (K : PySem.W.Frag) : R2 := fun x y H Q => ∃ p xs i v, x = .ref p ∧ y = .int i ∧ SqT K H p xs ∧ atI xs i = some v ∧ Q v H
def rIxS : R2 := fun x y H Q => ∃ z i c, x = .str z ∧ y = .int i ∧ z.length ≤ sizeLine ∧ atI z.cps.toList i = some c ∧ Q (.str ⟨#[c]⟩) H
theorem ix_list : IxR X (rIxL X.K) := by
  intro value slice pins s σ H x y v u Q I rx ry h hs
  obtain ⟨p, xs, i, z, rfl, rfl, hq, he, q⟩ := h
  cases rx
  obtain ⟨t, rfl⟩ := ry
  obtain ⟨its, r, pl, hz⟩ := I.list hq
  obtain ⟨j, h1, h2, h3, h4, h5⟩ := atI_get he
  obtain ⟨w, ew, rw'⟩ := r.get h2
  have hl := r.length
  have hn := line63
  have fin : EP X pins σ Q w s := ⟨z, H, I, rw', q⟩
  by_cases h0 : 0 ≤ i
  · have hj : i.toNat = j := by
      rw [seqIndex_of h0 h5] at h1
      exact Option.some.inj h1
    exact item_listR pl.isList h0 (by omega) (by rw [hj]; simpa using ew) fin hs
  · have hj : (i + (its.toArray.size : Int)).toNat = j := by
      rw [seqIndex_neg (by omega) h4] at h1
      rw [List.size_toArray, ← hl]
      exact Option.some.inj h1
    exact subscriptTail_builtinR (x := w) pl.isList.typeIs slot_list_getitem.lookup
      (wpAny_getItem_list_neg (Q := fun r s' => r = w ∧ EP X pins σ Q r s') pl.isList (by omega) (by rw [List.size_toArray] <;> omega) (by omega) (by rw [hj]; simpa using ew) ⟨rfl, fin⟩) hs
theorem ix_tup : IxR X (rIxT X.K) := by
  intro value slice pins s σ H x y v u Q I rx ry h hs
  obtain ⟨p, xs, i, z, rfl, rfl, hq, he, q⟩ := h
  cases rx
  obtain ⟨t, rfl⟩ := ry
  obtain ⟨its, r, pl, hz⟩ := I.tuple hq
  obtain ⟨j, h1, h2, h3, h4, h5⟩ := atI_get he
  obtain ⟨w, ew, rw'⟩ := r.get h2
  have hl := r.length
  have hn := line63
  have fin : EP X pins σ Q w s := ⟨z, H, I, rw', q⟩
  exact subscriptTail_builtinR (x := w) pl.typeIs slot_tuple_getitem.lookup
    (getItem_tuple (j := j) (Q := fun r s' => r = w ∧ EP X pins σ Q r s') pl (by omega) (by omega) (by rw [List.size_toArray, ← hl]; exact h1) (by simpa using ew) ⟨rfl, fin⟩) hs
/-- list, tuple or str -/
def rIx (K : PySem.W.Frag) : R2 := fun x y H Q => rIxL K x y H Q ∨ rIxT K x y H Q ∨ rIxS x y H Q
/-! ### xs[i] = v, any sign -/
/-- the list's object behind a store -/
theorem mapSeq_set (its : List Value) (n j : Nat) (u : Value) : Obj.mapSeq (·.setIfInBounds j u) { cls := .type "list", data := .seq its.toArray n } = { cls := .type "list", data := .seq (its.set j u).toArray n } := by
  simp [Obj.mapSeq]
theorem Inv.lst {pins : List (Addr × Obj)} {σ : St} {H : Hp} {s : Shared} {p : Addr} {xs : List V} (I : Inv X pins σ H s) (h : H p = some (.lst xs)) :
    ∃ (its : List Value) (n : Nat), Vals xs its ∧ s.heap.get? p = some { cls := .type "list", data := .seq its.toArray n } ∧ xs.length ≤ sizeLine := by
  obtain ⟨z, its, n, r, e⟩ := I.hok p _ h
  exact ⟨its, n, r, e, z⟩
/-- the list at p is written by an update of its object -/
theorem Inv.lstUpd {pins : List (Addr × Obj)} {σ : St} {H : Hp} {s : Shared} {p : Addr} {xs ys : List V} {its its' : List Value} {n n' : Nat} {f : Obj → Obj} (I : Inv X pins σ H s) (h : H p = some (.lst xs))
    (ho : s.heap.get? p = some { cls := .type "list", data := .seq its.toArray n }) (hf : f { cls := .type "list", data := .seq its.toArray n } = { cls := .type "list", data := .seq its'.toArray n' }) (r : Vals ys its') (hz : ys.length ≤ sizeLine) (t : Nat) :
    Inv X pins σ (upd H p (.lst ys)) { s with heap := s.heap.update p f, toks := t } := by
  have e : (s.heap.update p f).get? p = some { cls := .type "list", data := .seq its'.toArray n' } := by
    rw [Heap.get?_update_self f ho (by rw [hf] <;> rfl), hf]
  refine I.write (x := p) (e := p) (by rw [h]; trivial) (.inl rfl) (fun b u hb q => (Heap.get?_update_other _ _ (Ne.symm hb)).trans q) ⟨_, e⟩ ?_
  exact ⟨hz, its', n', r, e⟩
def rSetL : V → V → V → Hp → (Hp → Prop) → Prop := fun o i v H Q => ∃ p xs k j, o = .ref p ∧ i = .int k ∧ H p = some (.lst xs) ∧ ixN xs.length k = some j ∧ Q (upd H p (.lst (xs.set j v)))
theorem set_list : PSet X rSetL := by
  intro pins s σ H o i v ov iv u Q I ro ri rv h
  obtain ⟨p, xs, k, j, rfl, rfl, hp, hj, q⟩ := h
  cases ro
  obtain ⟨t, rfl⟩ := ri
  obtain ⟨its, n, r, ho, hz⟩ := I.lst hp
  obtain ⟨h1, h2, h3, h4⟩ := ixN_seq hj
  have hl := r.length
  have hn := line63
  have I' : Inv X pins σ (upd H p (.lst (xs.set j v))) { s with heap := s.heap.update p (Obj.mapSeq (·.setIfInBounds j u)) } :=
    I.lstUpd hp ho (mapSeq_set its n j u) (r.set rv j) (by rw [List.length_set]; exact hz) s.toks
  by_cases h0 : 0 ≤ k
  · have hk : k.toNat = j := by
      rw [seqIndex_of h0 h4] at h1
      exact Option.some.inj h1
    exact PySem.W.ki_setAt ho h0 (by omega) (by rw [List.size_toArray, ← hl]; exact h4) (by rw [hk]; exact ⟨_, I', q⟩)
  · have hk : (k + (its.toArray.size : Int)).toNat = j := by
      rw [seqIndex_neg (by omega) h3] at h1
      rw [List.size_toArray, ← hl]
      exact Option.some.inj h1
    exact PySem.W.ki_setBack ho (by omega) (by rw [List.size_toArray, ← hl]; exact h3) (by omega) (by rw [hk]; exact ⟨_, I', q⟩)

/-! ### slices -/
theorem slice_bounds (lo hi : Option Int) (n : Nat) : (sliceBounds lo hi none n).1 = ((HT.sIx n 0 lo : Nat) : Int) ∧ (sliceBounds lo hi none n).2.1 = ((HT.sIx n n hi : Nat) : Int) ∧ (sliceBounds lo hi none n).2.2 = 1 := by
  refine ⟨?_, ?_, rfl⟩
  · cases lo with
    | none => simp [sliceBounds, HT.sIx]
    | some i =>
      simp only [sliceBounds, HT.sIx, Option.getD_none, show (1 : Int) > 0 by decide, if_true]
      by_cases h : i < 0
      · simp only [h, if_true] <;> omega
      · simp only [h, if_false] <;> omega
  · cases hi with
    | none => simp [sliceBounds, HT.sIx]
    | some i =>
      simp only [sliceBounds, HT.sIx, Option.getD_none, show (1 : Int) > 0 by decide, if_true]
      by_cases h : i < 0
      · simp only [h, if_true] <;> omega
      · simp only [h, if_false] <;> omega
theorem slicePick_cut (its : List Value) (lo hi : Option Int) : slicePick its.toArray lo hi none = ((its.drop (HT.sIx its.length 0 lo)).take (HT.sIx its.length its.length hi - HT.sIx its.length 0 lo)).toArray := by
  obtain ⟨h1, h2, h3⟩ := slice_bounds lo hi its.toArray.size
  unfold slicePick
  rw [h1, h2, h3]
  simp only [sliceRange_one, pick_run, List.size_toArray] <;> rfl
/-- xs[lo:hi] of a list: a new list -/
def rSlL (K : PySem.W.Frag) : V → Option Int → Option Int → Hp → VK → Prop := fun x lo hi H Q => ∃ a xs, x = .ref a ∧ SqL K H a xs ∧ ∀ p, H p = none → Q (.ref p) (upd H p (.lst (cutV xs lo hi)))
theorem sl_list : SlR X (rSlL X.K) := by
  intro pins s σ H x v vl vu lo hi sl Q I rx hs pl pu h
  obtain ⟨a, xs, rfl, hx, q⟩ := h
  cases rx
  obtain ⟨its, r, ht, hz⟩ := I.list hx
  have hlen := r.length
  refine ⟨"list", _, slot_list_getitem.lookup, ht.isList.typeIs, ?_⟩
  refine wpAny_getItem_list_slice ht.isList hs pl pu .none (by simp) ?_ (by rw [List.size_toArray] <;> omega)
  rw [slicePick_cut, ← hlen]
  refine ⟨.ref s.heap.objs.size, _, I.laid (t' := s.toks) (o := .lst (cutV xs lo hi)) (fun b ob q => Heap.get?_push_of_some _ q) (Nat.le_refl _) ?_, rfl, q _ (I.hok.fresh (Nat.le_refl _))⟩
  exact ⟨Nat.le_trans (cutV_length xs lo hi) hz, _, 0, (r.drop (HT.sIx xs.length 0 lo)).take (HT.sIx xs.length xs.length hi - HT.sIx xs.length 0 lo), Heap.get?_push_size _ rfl⟩

/-! ### in, not in: flat items -/
def flatV : V → Bool
  | .non => true
  | .bl _ => true
  | .int _ => true
  | .str _ => true
  | _ => false
/-- == of flat values -/
def eqV : V → V → Bool
  | .non, .non => true
  | .bl a, .bl b => a == b
  | .bl a, .int b => (if a then 1 else 0) == b
  | .int a, .bl b => a == (if b then 1 else 0)
  | .int a, .int b => a == b
  | .str a, .str b => a == b
  | _, _ => false
/-- the items' answers, read off the values (a value's own answer does not lean on its token) -/
def eqU (x : V) (u : Value) : Bool := match u with
  | .none => eqV .non x
  | .bool b => eqV (.bl b) x
  | .int i _ => eqV (.int i) x
  | .str z _ => eqV (.str z) x
  | _ => false
def inV (x : V) (xs : List V) : Bool := xs.any fun y => eqV y x
/-- x in a list or tuple of flat items -/
def rIn (K : PySem.W.Frag) (neg : Bool) : R2 := fun x y H Q => ∃ p xs, y = .ref p ∧ (SqL K H p xs ∨ SqT K H p xs) ∧ flatV x = true ∧ xs.all flatV = true ∧ Q (.bl (if neg then !inV x xs else inV x xs)) H
/-! ### len, list(x), tuple(x) of any list or tuple that is read -/
theorem call_len_seq : CallR X (.builtin "len") (fun xs H Q => ∃ p ys, xs = [.ref p] ∧ (SqL X.K H p ys ∨ SqT X.K H p ys) ∧ Q (.int ys.length) H) := by
  intro pins s σ H xs us Q I r h
  obtain ⟨p, ys, rfl, hq, q⟩ := h
  obtain ⟨u, rfl, rx⟩ := vals1 r
  cases rx
  have hn := line63
  rcases hq with hq | hq
  · obtain ⟨its, r', pl, hz⟩ := I.list hq
    have hlen := r'.length
    exact Calls.call_len_list pl.isList (by simp only [List.size_toArray] <;> omega) ⟨.int ys.length, H, I.tok _, ⟨s.toks + 1, by rw [List.size_toArray, hlen]⟩, q⟩
  · obtain ⟨its, r', pl, hz⟩ := I.tuple hq
    have hlen := r'.length
    exact len_tuple pl (by simp only [List.size_toArray] <;> omega) ⟨.int ys.length, H, I.tok _, ⟨s.toks + 1, by rw [List.size_toArray, hlen]⟩, q⟩
theorem call_list_of : CallR X (.type "list") (fun xs H Q => ∃ p ys, xs = [.ref p] ∧ (SqL X.K H p ys ∨ SqT X.K H p ys) ∧ ∀ l, H l = none → Q (.ref l) (upd H l (.lst ys))) := by
  intro pins s σ H xs us Q I r h
  obtain ⟨p, ys, rfl, hq, q⟩ := h
  obtain ⟨u, rfl, rx⟩ := vals1 r
  cases rx
  have fin : ∀ (its : List Value), Vals ys its → ys.length ≤ sizeLine → ∀ (h' : Heap) (c' : Nat), (∀ b o', s.heap.get? b = some o' → h'.get? b = some o') →
      h'.get? s.heap.objs.size = some { cls := .type "list", dict := none, data := .seq its.toArray c', slots := #[] } → EP X pins σ Q (.ref s.heap.objs.size) { s with heap := h' } := fun its r' hz h' c' kp e =>
    ⟨.ref s.heap.objs.size, _, I.laid (t' := s.toks) kp (Nat.le_refl _) (show ObjOk X.prog X.w _ h' _ (.lst ys) from ⟨hz, its, c', r', e⟩), rfl, q _ (I.hok.fresh (Nat.le_refl _))⟩
  rcases hq with hq | hq
  · obtain ⟨its, r', pl, hz⟩ := I.list hq
    have hlen := r'.length
    obtain ⟨o, ho, hc, n, hd⟩ := pl.isList
    exact call_list_seq p (.inl rfl) ho hc hd (fun h' c' kp e => fin its r' hz h' c' kp e) (by simp only [List.size_toArray] <;> omega)
  · obtain ⟨its, r', pl, hz⟩ := I.tuple hq
    have hlen := r'.length
    obtain ⟨o, ho, hc, n, hd⟩ := pl
    exact call_list_seq p (.inr rfl) ho hc hd (fun h' c' kp e => fin its r' hz h' c' kp e) (by simp only [List.size_toArray] <;> omega)
/-! ### the call of a builtin's method: o.m(..) -/
/-- the value is of that builtin type -/
def tyV (K : PySem.W.Frag) (T : String) (x : V) (H : Hp) : Prop := match x with
  | .str _ => T = "str"
  | .int _ => T = "int"
  | .ref p => (T = "list" ∧ ∃ xs, SqL K H p xs) ∨ (T = "tuple" ∧ ∃ o, K.lookup p = some o ∧ o.cls = .type "tuple" ∧ o.dict = none) ∨
      (T = "dict" ∧ ((∃ kvs, H p = some (.dK kvs)) ∨ ∃ kvs, H p = some (.dT kvs))) ∨ (T = "set" ∧ ∃ S n, H p = some (.set S n))
  | _ => False
theorem tyV_is {pins : List (Addr × Obj)} {σ : St} {H : Hp} {s : Shared} {T : String} {x : V} {v : Value} (I : Inv X pins σ H s) (r : RelV x v) (ty : tyV X.K T x H) :
    s.TypeIs v T ∧ ∀ a, v = .ref a → ∃ ob, s.heap.get? a = some ob ∧ ob.dict = none := by
  cases x with
  | str z =>
    obtain ⟨t, rfl⟩ := r
    cases (show T = "str" from ty)
    exact ⟨typeIs_str s z t, fun _ e => nomatch e⟩
  | int i =>
    obtain ⟨t, rfl⟩ := r
    cases (show T = "int" from ty)
    exact ⟨typeIs_int s i t, fun _ e => nomatch e⟩
  | ref p =>
    cases r
    rcases ty with ⟨rfl, xs, hq⟩ | ⟨rfl, o, hk, hc, hd⟩ | ⟨rfl, hk⟩ | ⟨rfl, S, n, hk⟩
    · obtain ⟨its, _, pl, _⟩ := I.list hq
      refine ⟨pl.isList.typeIs, fun a e => ?_⟩
      cases e
      obtain ⟨o, n, e, c, hd, _⟩ := pl
      exact ⟨o, e, hd⟩
    · refine ⟨⟨o, I.kIn p o hk, hc⟩, fun a e => ?_⟩
      cases e
      exact ⟨o, I.kIn _ o hk, hd⟩
    · have z : ∃ o, s.heap.get? p = some o ∧ o.ExactDict := by
        rcases hk with ⟨kvs, hk⟩ | ⟨kvs, hk⟩
        · obtain ⟨_, _, _, _, o, _, _, e, ex, _⟩ := I.hok p _ hk
          exact ⟨o, e, ex⟩
        · obtain ⟨_, _, _, _, o, _, _, e, ex, _⟩ := I.hok p _ hk
          exact ⟨o, e, ex⟩
      obtain ⟨o, e, ex⟩ := z
      refine ⟨⟨o, e, ex.1⟩, fun a e2 => ?_⟩
      cases e2
      exact ⟨o, e, ex.2.1⟩
    · obtain ⟨o, _, _, _, e, ex, _⟩ := I.hok p _ hk
      refine ⟨⟨o, e, ex.1⟩, fun a e2 => ?_⟩
      cases e2
      exact ⟨o, e, ex.2.1⟩
  | _ => exact False.elim ty
def tBM0 (K : PySem.W.Frag) (T : String) (r : V → List V → Hp → VK → Prop) (to : TE) : TE := fun σ H Q => to σ H fun x H1 => tyV K T x H1 ∧ r x [] H1 Q
def tBM (K : PySem.W.Frag) (T : String) (r : V → List V → Hp → VK → Prop) (to : TE) (t : TA) : TE := fun σ H Q => to σ H fun x H1 => tyV K T x H1 ∧ t σ H1 fun xs H2 => r x xs H2 Q
variable {o e : Expr} {es : List Expr} {to : TE} {t : TA} {name : Str} {apos cpos : Pos} {T id : String} {r : V → List V → Hp → VK → Prop}
theorem pe_bm (pa : PlainAttrs T) (slot : Slot T name id) (hty : typeOf (.builtin id) = pure (.type "method_descriptor")) (hm : MtR X id r) (ho : PE X o to) (ha : PA X (e :: es) t)
    (hbase : attributeBase o name X.env (eval o X.env) = eval o X.env := by rfl)
    (hfew : ((backTo cpos (starEach (e :: es) X.env)).all (fun x => !x.1) && (backToKw cpos (keywordEach [] X.env)).all (fun x => x.1.isSome)
      && decide ((e :: es).length + ([] : List Keyword).length + (if ([] : List Keyword).isEmpty then 0 else 1) < 30)) = true := by rfl)
    (hline : (apos.endLine == cpos.line) = true := by rfl) (hs : starEach (e :: es) X.env = (false, eval e X.env) :: starEach es X.env := by rfl) (hplain : (backTo cpos (starEach es X.env)).any (·.1) = false := by rfl) :
    PE X (.Call (.Attribute o name apos) (e :: es) [] cpos) (tBM X.K T r to t) := by
  intro pins s σ H Q I h
  refine wpAny_Call_method_late hbase hfew hline rfl (thn (ho pins s σ H _ I h) fun v s1 ⟨x, H1, I1, r1, ty, q1⟩ => ?_)
  obtain ⟨h1, h2⟩ := tyV_is I1 r1 ty
  refine ⟨T, id, pa, slot, hty, h1, h2, ?_⟩
  have hA := ha cpos pins s1 σ H1 _ I1 q1
  rw [hs] at hA ⊢
  refine Calls.callWith_builtin (by show (false || (backTo cpos (starEach es X.env)).any (·.1)) = false; rw [hplain] <;> rfl) (Calls.evalArgs_plain ?_)
  exact thn hA fun us s2 ⟨vs, H2, I2, r2, q2⟩ => hm pins s2 σ H2 x vs v us Q I2 r1 r2 q2
/- xs.append(e), list.index on a module's tuple .. are MtR facts of 06m -/
end
end L2

namespace L2
open PySem PySem.Spec PyProof.Rows

def MtM (X : Cx) (id : String) (r : V → List V → Hp → VK → Prop) : Prop :=
  ∀ (pins : List (Addr × Obj)) (s : Shared) (σ : St) (H : Hp) (x : V) (xs : List V) (v : Value) (us : List Value) (Q : VK), Inv X pins σ H s → RelV x v → Vals xs us → r x xs H Q →
    wpAny (model X.prog X.w) X.A (call (.builtin id) (v :: us)) (EP X pins σ Q) X.xe s

/-! ### lists of values -/
theorem Vals.one : ∀ {x : V} {us : List Value}, Vals [x] us → ∃ u, us = [u] ∧ RelV x u
  | _, _, .cons r .nil => ⟨_, rfl, r⟩
theorem Vals.rep {xs : List V} {us : List Value} (h : Vals xs us) : ∀ k : Nat, Vals (List.replicate k xs).flatten (List.replicate k us).flatten
  | 0 => .nil
  | k + 1 => by
    rw [List.replicate_succ, List.replicate_succ, List.flatten_cons, List.flatten_cons]
    exact Vals.append h (Vals.rep h k)
theorem foldl_rep (its : List Value) : ∀ (k : Nat) (acc : List Value),
    List.foldl (fun x1 x2 => x1 ++ x2) acc.toArray (List.replicate k its.toArray) = (acc ++ (List.replicate k its).flatten).toArray
  | 0, acc => by simp
  | k + 1, acc => by
    have e : acc.toArray ++ its.toArray = (acc ++ its).toArray := by simp
    have e2 : (acc ++ its) ++ (List.replicate k its).flatten = acc ++ (List.replicate (k + 1) its).flatten := by
      rw [List.replicate_succ, List.flatten_cons, List.append_assoc]
    rw [← e2, ← foldl_rep its k (acc ++ its), ← e, List.replicate_succ, List.foldl_cons]

section
variable {X : Cx} {pins : List (Addr × Obj)} {σ : St} {H : Hp} {s : Shared} {l b : Addr} {xs ys zs : List V}

/-! ### the two steps: a tracked list is rewritten, a new list is laid -/
theorem Inv.lset {its its' : List Value} {n : Nat} {f : Array Value → Array Value} {t' : Nat} (I : Inv X pins σ H s) (hH : H l = some (.lst xs))
    (e : s.heap.get? l = some { cls := .type "list", data := .seq its.toArray n }) (hf : f its.toArray = its'.toArray) (hv : Vals ys its') (hz : ys.length ≤ sizeLine) :
    Inv X pins σ (upd H l (.lst ys)) { s with heap := s.heap.update l (Obj.mapSeq f), toks := t' } := by
  have q := PySem.IsL.update e f
  rw [hf] at q
  refine I.write (x := l) (e := l) (by rw [hH]; exact trivial) (.inl rfl) (fun b' u hb hu => (Heap.get?_update_other s.heap (Obj.mapSeq f) (Ne.symm hb)).trans hu) ⟨_, q⟩ ?_
  exact ⟨hz, its', _, hv, q⟩
theorem Inv.lnew {its : List Value} {t' : Nat} (I : Inv X pins σ H s) (hv : Vals ys its) (hz : ys.length ≤ sizeLine) :
    Inv X pins σ (upd H s.heap.objs.size (.lst ys)) { s with heap := s.heap.push { cls := .type "list", data := .seq its.toArray }, toks := t' } :=
  I.laid (fun _ _ q => Heap.get?_push_of_some _ q) (Nat.le_refl _) ⟨hz, its, 0, hv, Heap.get?_push_size _ rfl⟩
theorem Inv.fresh (I : Inv X pins σ H s) : H s.heap.objs.size = none := I.hok.fresh (Nat.le_refl _)
theorem Inv.lstM (I : Inv X pins σ H s) (hH : H l = some (.lst xs)) : xs.length ≤ sizeLine ∧ ∃ (its : List Value) (n : Nat), Vals xs its ∧ xs.length = its.length ∧ s.heap.get? l = some { cls := .type "list", data := .seq its.toArray n } := by
  obtain ⟨z, its, n, r, e⟩ := I.hok l _ hH
  exact ⟨z, its, n, r, r.length, e⟩

theorem notLongL {n : Nat} (h : n ≤ sizeLine) : Builtin.List.listTooLong n = false := by
  unfold Builtin.List.listTooLong
  exact decide_eq_false (by omega)
end

section
variable {X : Cx}

/-! ### methods -/
def rAppend : V → List V → Hp → VK → Prop := fun x vs H Q => ∃ l xs y, x = .ref l ∧ vs = [y] ∧ H l = some (.lst xs) ∧ xs.length < sizeLine ∧ Q .non (upd H l (.lst (xs ++ [y])))
theorem mt_append : MtM X "list.append" rAppend := by
  intro pins s σ H x vs v us Q I rx rv h
  obtain ⟨l, xs, y, rfl, rfl, hH, hz, q⟩ := h
  cases rx
  obtain ⟨u, rfl, ru⟩ := rv.one
  obtain ⟨z, its, n, r, hl, e⟩ := I.lstM hH
  refine call_meets F.slot_list_append ⟨_, e, rfl⟩ F.entry_list_append (F.args_list_append_2 _ _) (PySem.list_append l its.toArray n u (by rw [List.size_toArray]; omega)) ⟨e, ?_⟩
  refine ⟨.non, _, I.lset (its' := its ++ [u]) hH e (by simp) (r.append (.cons ru .nil)) ?_, rfl, q⟩
  rw [List.length_append, List.length_singleton]
  omega

def rExtend : V → List V → Hp → VK → Prop := fun x vs H Q => ∃ l b xs zs, x = .ref l ∧ vs = [.ref b] ∧ H l = some (.lst xs) ∧ H b = some (.lst zs) ∧ xs.length + zs.length ≤ sizeLine ∧ Q .non (upd H l (.lst (xs ++ zs)))
def rPop : V → List V → Hp → VK → Prop := fun x vs H Q => ∃ l xs y, x = .ref l ∧ vs = [] ∧ H l = some (.lst xs) ∧ xs[xs.length - 1]? = some y ∧ Q y (upd H l (.lst xs.dropLast))
def rPopAt : V → List V → Hp → VK → Prop := fun x vs H Q => ∃ l xs i k y, x = .ref l ∧ vs = [.int i] ∧ H l = some (.lst xs) ∧ -(2 ^ 63) ≤ i ∧ i < 2 ^ 63 ∧ seqIndex? i xs.length = some k ∧ xs[k]? = some y ∧ Q y (upd H l (.lst (xs.eraseIdx k)))
def rReverse : V → List V → Hp → VK → Prop := fun x vs H Q => ∃ l xs, x = .ref l ∧ vs = [] ∧ H l = some (.lst xs) ∧ Q .non (upd H l (.lst xs.reverse))
def rClear : V → List V → Hp → VK → Prop := fun x vs H Q => ∃ l xs, x = .ref l ∧ vs = [] ∧ H l = some (.lst xs) ∧ Q .non (upd H l (.lst []))
/-! ### list + list, list += list, list * int -/
def rCat : R2 := fun x y H Q => ∃ l b xs zs, x = .ref l ∧ y = .ref b ∧ H l = some (.lst xs) ∧ H b = some (.lst zs) ∧ xs.length + zs.length ≤ sizeLine ∧ ∀ p, H p = none → Q (.ref p) (upd H p (.lst (xs ++ zs)))
theorem op_cat : OpR X (binaryOp .Add) rCat := by
  intro pins s σ H x y v u Q I rx ry h
  obtain ⟨l, b, xs, zs, rfl, rfl, hH, hB, hz, q⟩ := h
  cases rx
  cases ry
  obtain ⟨z, its, n, r, hl, e⟩ := I.lstM hH
  obtain ⟨z2, its2, n2, r2, hl2, e2⟩ := I.lstM hB
  refine PySem.P.add_list e e2 ?_ (by rw [List.size_toArray, List.size_toArray]; omega)
  have ea : its.toArray ++ its2.toArray = (its ++ its2).toArray := by simp
  rw [ea]
  exact ⟨.ref _, _, I.lnew (t' := s.toks) (r.append r2) (by rw [List.length_append]; omega), rfl, q _ I.fresh⟩
/-- a list times an int (a negative one is nothing) -/
def rRep : R2 := fun x y H Q => ∃ l k xs, x = .ref l ∧ y = .int k ∧ H l = some (.lst xs) ∧ -(2 ^ 63) ≤ k ∧ k < 2 ^ 63 ∧ xs.length * k.toNat ≤ sizeLine ∧
  ∀ p, H p = none → Q (.ref p) (upd H p (.lst (List.replicate k.toNat xs).flatten))
theorem len_rep {α : Type} (xs : List α) (k : Nat) : (List.replicate k xs).flatten.length = k * xs.length := by
  induction k with
  | zero => simp
  | succ k ih => rw [List.replicate_succ, List.flatten_cons, List.length_append, ih, Nat.succ_mul, Nat.add_comm]
theorem op_rep : OpR X (binaryOp .Mult) rRep := by
  intro pins s σ H x y v u Q I rx ry h
  obtain ⟨l, k, xs, rfl, rfl, hH, h1, h2, hz, q⟩ := h
  cases rx
  obtain ⟨t, rfl⟩ := ry
  obtain ⟨z, its, n, r, hl, e⟩ := I.lstM hH
  have hlen : its.toArray.size * k.toNat ≤ sizeLine := by rw [List.size_toArray, ← hl]; exact hz
  have hcap : ¬ its.toArray.size * k.toNat > (2 ^ 63 - 1) / 8 := by
    have : (sizeLine : Nat) ≤ (2 ^ 63 - 1) / 8 := by decide
    omega
  have hfit : ¬ (!Builtin.List.listFitsIndex k) = true := by
    rw [fitsIndex_both h1 h2]
    exact Bool.false_ne_true
  have hlong : ¬ Builtin.List.listTooLong (its.toArray.size * k.toNat) = true := by
    rw [notLongL hlen]
    exact Bool.false_ne_true
  have hnew : List.foldl (fun x1 x2 => x1 ++ x2) #[] (List.replicate (if its.toArray.isEmpty = true then 0 else k.toNat) its.toArray) = (List.replicate k.toNat its).flatten.toArray := by
    have f0 : ∀ m : Nat, List.foldl (fun x1 x2 => x1 ++ x2) #[] (List.replicate m its.toArray) = (List.replicate m its).flatten.toArray := fun m => by
      have := foldl_rep its m []
      rw [List.nil_append] at this
      exact this
    rw [f0]
    cases its with
    | nil => simp
    | cons a r' => rw [if_neg (by simp)]
  refine wpAny_binaryOp_repeat_ref (T := "list") (U := "int") (by decide) ⟨_, e, rfl⟩ (fun s' => typeIs_int s' k t) noFill_list_mul F.fills_int_mul F.slot_int_rmul repeat_list F.slot_int_index.lookup
    (call_meets F.slot_int_rmul (typeIs_int s k t) F.entry_int_rmul (F.args_int_rmul_2 _ _) (int___rmul___int_list k t l its.toArray n)
      ⟨e, rfl, ⟨_, e, rfl⟩, call_meets F.slot_list_mul ⟨_, e, rfl⟩ F.entry_list_mul (F.args_list_mul_2 _ _) (AutoListH.list___mul___list_int_3 l its.toArray n k t hfit hcap hlong) ⟨e, ?_⟩⟩)
  rw [hnew]
  exact ⟨.ref _, _, I.lnew (t' := s.toks) (r.rep k.toNat) (by rw [len_rep, Nat.mul_comm]; exact hz), rfl, q _ I.fresh⟩

/-! ### del xs[i] -/
end

/-! ### xs[a:b] = ys -/
section
variable {prog : Program} {w : World} {A : Around} {E : Value → Shared → Prop} {s : Shared}
set_option maxRecDepth 100000 in
end

section
variable {X : Cx}
end
end L2

namespace Att
open PySem PySem.W PySem.Calls PyProof.Rows

/-! ### the script -/
theorem ints_of_wellAll {P : Params} {h : Heap} : ∀ (ns : List Int) (vs : List Value), WellAll P h vs (ns.map WData.int) → IntsAre vs ns := by
  intro ns
  induction ns with
  | nil =>
    intro vs w
    rw [List.map_nil] at w
    cases w
    exact .nil
  | cons n ns ih =>
    intro vs w
    rw [List.map_cons] at w
    cases w with
    | cons a b =>
      cases a
      exact .cons _ _ (ih _ b)

theorem script_of {l : OpenLaw} {n : Nat} (hn : l.most = some n) {P : Params} {h : Heap} {args : List WData} {vals : List Value}
    (hpre : l.row.toRowW.claim.pre args = true) (hwl : WellAll P h vals args) :
    ∃ a vs ns, vals = [Value.ref a] ∧ args = [WData.list (ns.map WData.int)] ∧ h.get? a = some { cls := .type "list", data := .seq vs.toArray } ∧ IntsAre vs ns ∧ ns.length ≤ n := by
  have hsh : WShape.hasAll [] args [.list .int] = true := (pre_splitW hpre).1
  have hc : l.pre.holds [] { args := args } = true := (pre_splitW hpre).2
  obtain ⟨d, r, rfl, h1, h2⟩ := hasAllW_cons hsh
  obtain rfl := hasAllW_nil h2
  obtain ⟨xs, rfl, h3⟩ := hasW_list h1
  obtain ⟨ns, rfl⟩ := items_int h3
  have hlen : ns.length ≤ n := by
    unfold OpenLaw.pre at hc
    have h4 : (WTm.not (.lt (.lit (.int (n : Int))) (.len (.arg 0)))).holds [] { args := [.list (ns.map .int)] } = true := by
      have h4 := (holds_andW hc).1
      rw [hn] at h4
      exact h4
    have h5 := condW_of h4 (w_not (w_lt w_lit (w_len_list (w_arg rfl))))
    rw [List.length_map] at h5
    refine Nat.le_of_not_lt fun q => ?_
    have q' : (n : Int) < ((ns.length : Nat) : Int) := by omega
    first
      | (rw [decide_eq_true q'] at h5; exact absurd h5 (by decide))
      | (simp at h5; omega)
  cases hwl with
  | cons w1 w2 =>
    cases w2
    cases w1 with
    | list ho hall => exact ⟨_, _, ns, rfl, rfl, ho, ints_of_wellAll ns _ hall, hlen⟩

theorem post_true (l : OpenLaw) (args : List WData) : l.row.toRowW.claim.post args (.bool true) args = true :=
  postW_of (r := l.row.toRowW) (X := (true == true))
    (show WShape.has [] (.bool true) .bool = true by first | rfl | decide | simp [WShape.has, WShape.arms, WShape.armsAll])
    (show (WTm.eq .res (.lit (.bool true))).value [] { args := args, res := some (.bool true), after := args } = some (.bool (true == true)) from w_eq_bool (w_res rfl) w_lit) rfl

/-! ### the attachment: holds_open's last premise (the goal 'hc' behind k_head) from a wpAny of the law's body -/
/-- the same from a codeAny of the CALL (for a layer whose function contracts speak of calls) -/
theorem attach_call {l : OpenLaw} {n : Nat} {q : Program} {loose : List Str} {XP : (Str → Option Value) → Heap → Prop} {YP : World → Heap → Prop} {d : DefRec}
    (hn : l.most = some n) (hdf : d.params.defaults = [])
    (call : ∀ (w : World) (s₀ s₁ : Shared) (mg mb : Str → Option Value) (fa : Addr) (o : Obj) (pm cd doc : Value) (a : Addr) (vs : List Value) (ns : List Int),
      Ground q loose [] XP w s₀ mg mb s₁.heap → YP w s₁.heap →
      s₁.heap.get? fa = some o → o.data = .func (docDef d.name d.params d.body d.scope pm cd doc) → s₁.heap.CodeRec cd d.name → mg d.name = some (.ref fa) →
      s₁.heap.get? a = some { cls := .type "list", data := .seq vs.toArray } → IntsAre vs ns → ns.length ≤ n → s₁.gens = #[] →
      codeAny (model l.prog w) callerA (.call (.ref fa) ⟨[.ref a], []⟩) (fun r s' => r = .ok (.ret (.bool true)) ∧ OldK s₁.heap s'.heap ∧ s'.os = s₁.os ∧ AllBare s'.gens) s₁) :
    WalkO q loose XP YP l.row.toRowW d [] (fun f vs => PySem.call f vs) := by
  intro w s₀ s₁ mg mb G Y fa o pm cd doc dV kV ho hd hcd hD hmg hg args vals as hpre hlay hrd hwl hlo
  obtain rfl : dV = .none := Dflts.none hD hdf
  obtain rfl : kV = .none := Dflts.noKw hD
  obtain ⟨a, vs, ns, rfl, rfl, hobj, hints, hlen⟩ := script_of hn hpre hwl
  refine enter_call (codeAny_mono (call w s₀ s₁ mg mb fa o pm cd doc a vs ns G Y ho (fd_plain hd) hcd hmg hobj hints hlen hg) fun r s' hq => ?_)
  obtain ⟨rfl, h2, h3, h4⟩ := hq
  exact ⟨.inl ⟨.bool true, .bool true, [], rfl, fun _ => rfl, .bool true, post_true l _, fun _ => ⟨List.Pairwise.nil, fun _ hm => (nomatch hm)⟩⟩, h2, h3, h4⟩

/-! ### rules over ANY heap (no ledger) from facts about the written part K: the library's own take a ledger (News) for what they write -/
section
variable {prog : Program} {w : World} {A : Around} {E : Value → Shared → Prop} {s : Shared} {K : Frag}

/-! the whole heap as the ledger: makes every rule that writes through a ledger a rule over any heap -/
def noObjs (h : Heap) : Heap := { h with objs := #[] }
def ledger (h : Heap) (L d : Addr) : List (Addr × Obj) := (List.range h.objs.size).filterMap fun a => if a = L ∨ a = d then none else (h.get? a).map fun o => (a, o)
end
end Att

namespace L2
open PySem PySem.Spec PyProof.Rows

theorem vals_ints : ∀ {vs : List Value} {ns : List Int}, IntsAre vs ns → Vals (ns.map V.int) vs
  | _, _, .nil => .nil
  | _, _, .cons n t h => .cons ⟨t, rfl⟩ (vals_ints h)

/-- nothing is tracked but the script, known to the object (or it is an object of the module) -/
def Only (H : Hp) : Prop := ∀ b, H b = none ∨ ∃ o xs, H b = some (.frz o (.lst xs))

end L2

namespace L2
open PySem PySem.Spec PyProof.Rows

abbrev KOf {K : PySem.W.Frag} {h : Heap} (_ : K.In h) : PySem.W.Frag := K

end L2


/-! SHORT WORDS over the layer: a def of the text, its body, what a loop and a test want. -/
namespace L2
open PySem PySem.Spec PyProof.Rows

/-! ### the text by places -/
/-- the j-th statement of a class's body -/
def inClass (s : Stmt) (j : Nat) : Stmt := match s with
  | .ClassDef _ _ _ body _ _ _ _ _ _ _ => body.getD j (.Pass ⟨0, 0, 0, 0⟩)
  | _ => .Pass ⟨0, 0, 0, 0⟩
def defArgs (s : Stmt) : Arguments := match s with
  | .FunctionDef _ a _ _ _ _ _ _ _ _ => a
  | _ => { posonlyargs := [], args := [], vararg := none, kwonlyargs := [], kw_defaults := [], kwarg := none, defaults := [] }
def defBody (s : Stmt) : List Stmt := match s with
  | .FunctionDef _ _ b _ _ _ _ _ _ _ => b
  | _ => []
def defScope (s : Stmt) : Scope := match s with
  | .FunctionDef _ _ _ _ _ _ sc _ _ _ => sc
  | _ => { kind := .function, names := [], isGenerator := false, isCoroutine := false }

/-! ### no exception leaves a def -/
abbrev CX0 : CXT := fun _ _ _ _ _ _ => False
abbrev E0 : XK := fun _ _ _ => False
theorem pass0 {X : Cx} : Passes CX0 X E0 := fun _ _ _ _ _ _ _ h => h.elim

/-! ### a def (or method) of the text as it stands behind the top -/
structure Fun (K : PySem.W.Frag) (x qual : Str) (st : Stmt) (f : Addr) (fd : FuncData) : Prop where
  ex : ∃ (oc : Value) (od : Option Addr) (kV doc pm : Value) (an : Option Addr) (cdv ct : Value) (osl : Array (Option Value)),
    fd = PySem.W.fnOf x qual (defArgs st) (defBody st) (defScope st) .none kV doc pm an cdv ct ∧ K.lookup f = some ⟨oc, od, .func fd, osl⟩ ∧ PySem.W.codeIn K cdv qual = true
  kp : PySem.W.keepIn K (.ref f) = true
section
variable {P : Program} {w : World} {K : PySem.W.Frag} {mg : Str → Option Value} {base : Heap}
/-- THE RULE for a def: its body as a term of rules, and the reading of that term -/
theorem Fun.ok {x qual : Str} {st : Stmt} {f : Addr} {fd : FuncData} {N ps : List Str} {k : Nat} {sp : Sp} (F : Fun K x qual st f fd) (S : FnScope N ps (defScope st)) (len : ∀ vs H Q E, sp vs H Q E → vs.length = ps.length)
    (hbody : ∀ (cdv : Value) (A : Around) (outer : List Env) (s : Shared) (H : Hp) (vs : List V) (Q : VK) (E : XK), Room k (A.deeper (envOfC qual (defScope st) s.heap.objs.size f cdv)) → sp vs H Q E →
      ∃ t, PSs (cxOf CX0 P w K mg base N qual (defScope st) f cdv A outer s H E).nox (defBody st) t ∧ t { nx := fun _ H' => Q .non H', rt := Q } (start N vs) H) : FnOk P w K mg base CX0 (k + 1) f fd ps sp := by
  obtain ⟨oc, od, kV, doc, pm, an, cdv, ct, osl, rfl, lk, hcd⟩ := F.ex
  refine fn_of lk hcd S len fun A outer s H vs Q E hr hsp => ?_
  obtain ⟨t, h, q⟩ := hbody cdv A outer s H vs Q E hr hsp
  exact ⟨t, h.nox, q⟩
/-- how its arguments bind (no defaults): h is «fun _ _ _ _ _ _ us hl => match us, hl with | [_, _], _ => rfl», one _ a parameter -/
theorem Fun.binds {x qual : Str} {st : Stmt} {f : Addr} {fd : FuncData} {ps : List Str} (F : Fun K x qual st f fd)
    (h : ∀ (kV doc pm : Value) (an : Option Addr) (cdv ct : Value) (us : List Value), us.length = ps.length → bindArgs (PySem.W.fnOf x qual (defArgs st) (defBody st) (defScope st) .none kV doc pm an cdv ct) ⟨us, []⟩ = pure (ps.zip us)) : Binds K fd ps [] := by
  obtain ⟨oc, od, kV, doc, pm, an, cdv, ct, osl, rfl, lk, hcd⟩ := F.ex
  exact .all (h kV doc pm an cdv ct)
theorem fun_mk {x qual : Str} {st : Stmt} {f : Addr} {oc : Value} {od an : Option Addr} {osl : Array (Option Value)} {kV doc pm cdv ct : Value} (l : K.lookup f = some ⟨oc, od, .func (PySem.W.fnOf x qual (defArgs st) (defBody st) (defScope st) .none kV doc pm an cdv ct), osl⟩)
    (c : PySem.W.codeIn K cdv qual = true) (k : PySem.W.keepIn K (.ref f) = true) : Fun K x qual st f (PySem.W.fnOf x qual (defArgs st) (defBody st) (defScope st) .none kV doc pm an cdv ct) := ⟨⟨oc, od, kV, doc, pm, an, cdv, ct, osl, rfl, l, c⟩, k⟩
end
theorem hu_of {A : Around} {k : Nat} (hr : Room k A) : A.units + 1 < cLine := Nat.lt_of_le_of_lt (Nat.add_le_add_left (by decide : 1 ≤ 64) _) hr.units
/-! ### expressions in short: the name that stands in the i-th slot -/
section
variable {X : Cx}
end

/-! ### tests -/
theorem iteF {A B : Prop} (h : B) : if false = true then A else B := by
  rw [if_neg Bool.false_ne_true]
  exact h
theorem iteT {A B : Prop} (h : A) : if true = true then A else B := by
  rw [if_pos rfl]
  exact h
theorem ite2 {c A B : Prop} [Decidable c] (h1 : c → A) (h2 : ¬ c → B) : if c then A else B := by
  by_cases h : c
  · rw [if_pos h]
    exact h1 h
  · rw [if_neg h]
    exact h2 h
/-! ### heaps -/
/-- all that was tracked is as it was -/
def Same (H H' : Hp) : Prop := ∀ b o, H b = some o → H' b = some o
theorem Same.refl (H : Hp) : Same H H := fun _ _ h => h
theorem Same.trans {H H1 H2 : Hp} (a : Same H H1) (b : Same H1 H2) : Same H H2 := fun c o h => b c o (a c o h)
theorem Same.seq {K : PySem.W.Frag} {H H' : Hp} {a : Addr} {xs : List V} (e : Same H H') (h : SqL K H a xs) : SqL K H' a xs := by
  rcases h with (h | ⟨o, h⟩) | h
  · exact .inl (.inl (e _ _ h))
  · exact .inl (.inr ⟨o, e _ _ h⟩)
  · exact .inr h

end L2

set_option maxRecDepth 100000
set_option maxHeartbeats 4000000
/-! An exception under way: its class and its own dict are known all along. -/
namespace L2
open PySem

structure Flt (B : Heap) (l : List Env) (e : Addr) (cls : Value) (d : Option Addr) (fl : Value) (h : Heap) : Prop where
  stays : B.StaysIn h
  new : B.get? e = none
  frames : h.FunFrames B l
  tr : ∃ ox ws T oT ts, h.get? e = some ox ∧ ox.cls = cls ∧ ox.dict = d ∧ ox.data = .fields ws ∧ ws[1]? = some (.ref T) ∧
    B.get? T = none ∧ T ≠ e ∧ h.get? T = some oT ∧ oT.data = .fields ts ∧ ts[3]? = some fl

section
variable {M : Model} {A : Around} {E : Value → Shared → Prop} {s : Shared} {B : Heap} {env : Env} {outer l : List Env} {L e : Addr} {cls fl : Value} {d : Option Addr} {Q : Unit → Shared → Prop}

end
end L2

set_option linter.all false
set_option maxRecDepth 100000
set_option maxHeartbeats 4000000
/-! Exceptions of the text's own classes over the layer: raised, passed on, caught. -/
namespace L2
open PySem PySem.Spec PyProof.Rows

/-- how an exception lies behind a call: it flies; all that was there before and all that is tracked stands in B, which stays -/
def CX1 (P : Program) (w : World) : CXT := fun outer H s E e s' =>
  ∃ (a : Addr) (cls : Value) (d : Option Addr) (B : Heap) (H' : Hp), e = .ref a ∧ s'.os = s.os ∧ AllBare s'.gens ∧ Un (frs outer) [] H H' s.heap s'.heap ∧ HOk P w H' s'.heap ∧
    Flt B outer a cls d .none s'.heap ∧ H' a = none ∧
    (∀ b o, s.heap.get? b = some o → b ∉ frs outer → H b = none → B.get? b = some o) ∧
    (∀ b u, H' b = some u → ∃ o, B.get? b = some o) ∧
    (∀ b o, s.heap.get? b = some o → b ∈ frs outer ∨ ∃ o', B.get? b = some o') ∧ E cls d H'

section
variable {X : Cx} {pins : List (Addr × Obj)} {σ : St} {H H' : Hp} {s s1 : Shared} {B h' : Heap}

end

section
variable {P : Program} {w : World} {K : PySem.W.Frag} {mg : Str → Option Value} {base : Heap} {N : List Str} {qual : Str} {scope : Scope} {f : Addr} {cd : Value} {A : Around} {outer : List Env} {s₀ : Shared} {H₀ : Hp} {E : XK}

end

/-! ### a def whose exceptions leave it -/
end L2

set_option linter.all false
set_option maxRecDepth 100000
set_option maxHeartbeats 4000000
namespace L2
open PySem PySem.Spec PyProof.Rows

abbrev bmVE : List Value := [.type "ValueError", .type "Exception", .type "BaseException", .type "object"]

/-! ### raise C(e, ..) -/
def tRaise (C : Addr) (E : XK) (t : TA) : TS := fun _ σ H => t σ H fun vs H1 => vs.length ≤ sizeLine ∧ E (.ref C) none H1
section
variable {P : Program} {w : World} {K : PySem.W.Frag} {mg : Str → Option Value} {base : Heap} {N : List Str} {qual : Str} {scope : Scope} {f : Addr} {cd : Value} {A : Around} {outer : List Env} {s₀ : Shared} {H₀ : Hp} {E : XK}
end

/-! ### an exception that is caught: its object -/
def excO (a : Addr) (cls : Value) (d : Option Addr) : HO := .ext fun h => ∃ ox ws, h.get? a = some ox ∧ ox.cls = cls ∧ ox.dict = d ∧ ox.data = .fields ws
section
variable {X : Cx} {pins : List (Addr × Obj)} {σ : St} {H : Hp} {s : Shared}
end

/-! ### calls that may raise -/
/-- an exception has come to this frame -/
def XP (X : Cx) (pins : List (Addr × Obj)) (σ : St) (Ex : XK) (e : Value) (s' : Shared) : Prop := ∃ H s, Inv X pins σ H s ∧ CX1 X.prog X.w X.stack H s Ex e s'
abbrev TX := St → Hp → VK → XK → Prop
def PEX (X : Cx) (e : Expr) (t : TX) : Prop :=
  ∀ (pins : List (Addr × Obj)) (s : Shared) (σ : St) (H : Hp) (Q : VK) (Ex : XK), Inv X pins σ H s → t σ H Q Ex → wpAny (model X.prog X.w) X.A (eval e X.env) (EP X pins σ Q) (XP X pins σ Ex) s
def tCallX (sp : Sp) (dvs : List V) (t : TA) : TX := fun σ H Q Ex => t σ H fun vs H1 => sp (vs ++ dvs) H1 Q Ex
section
variable {X : Cx} {k : Nat} {f : Addr} {fd : FuncData} {ps : List Str} {sp : Sp} {dvs : List V} {ds : List Value} {x : Str} {p pos : Pos} {e : Expr} {es : List Expr} {t : TA}
end

/-! ### try: .. except S as n: .. -/
/-- the context of an except suite -/
abbrev Cx.caught (X : Cx) (a : Addr) : Cx := { X with A := X.A.mark (some (.ref a)), calm := false }
/-- the object of an own exception class, in the written part -/
def ExcC (K : PySem.W.Frag) (C : Addr) (bm : List Value) (nid : String) : Prop :=
  ∃ nm qn N bs hd sn sub ab col dd k0 k1 k2 k3 k5, K.lookup C = some (excClassObj nm qn C N bs bm hd sn sub ab col dd k0 k1 k2 k3 k5 nid)
def tTryAs (K : PySem.W.Frag) (i j : Nat) (S : Addr) (tx : TX) (ts : Addr → TS) : TS := fun D σ H =>
  tx σ H (fun v H1 => D.nx (σ.set i (some v)) H1) fun cls d H1 => ∃ C bm nid, cls = .ref C ∧ ExcC K C bm nid ∧ (Value.ref C :: bm).contains (.ref S) = true ∧
    ∀ a, H1 a = none → ts a { nx := fun σ' H' => D.nx (σ'.set j none) H', rt := D.rt, bk := fun σ' H' => D.bk (σ'.set j none) H', ct := fun σ' H' => D.ct (σ'.set j none) H' } (σ.set j (some (.ref a))) (upd H1 a (excO a cls d))

section
variable {X : Cx}
end
end L2

set_option linter.all false
set_option maxRecDepth 100000
set_option maxHeartbeats 4000000
/-! A list comprehension over the layer: one clause, no test, a plain name as its target. -/
namespace L2
open PySem PySem.Spec PyProof.Rows

/-- the context of a comprehension's block -/
def compCx (X : Cx) (sc : Scope) (N' : List Str) (cl : List (Str × Addr)) (s2 : Shared) (H2 : Hp) (C : Addr) (ex : List Addr) : Cx :=
  { X with N := N', s₀ := s2, H₀ := H2, env := compEnvC sc cl C X.env, outer := X.stack, ex := ex, fn := fun _ => false, pn := [], xe := fun _ _ => False }

/-- the names that the block takes from around it: each in its slot there, a cell in both -/
def Caps (X : Cx) (sc : Scope) (cl : List (Str × Addr)) : List Str → List Nat → Prop
  | [], [] => True
  | y :: ys, j :: js => X.N[j]? = some y ∧ X.env.kindOf y = some .cell ∧ cl.lookup y = X.env.cells.lookup y ∧ (relabel sc X.env).names.lookup y = some .cell ∧ Caps X sc cl ys js
  | _, _ => False
theorem Caps.get {X : Cx} {sc : Scope} {cl : List (Str × Addr)} : ∀ {ys : List Str} {js : List Nat} {i : Nat} {y : Str}, Caps X sc cl ys js → ys[i]? = some y →
    ∃ j, js[i]? = some j ∧ X.N[j]? = some y ∧ X.env.kindOf y = some .cell ∧ cl.lookup y = X.env.cells.lookup y ∧ (relabel sc X.env).names.lookup y = some .cell
  | [], [], i, y, _, e => by simp at e
  | _ :: _, j :: _, 0, y, h, e => by
    simp at e
    subst e
    exact ⟨j, rfl, h.1, h.2.1, h.2.2.1, h.2.2.2.1⟩
  | _ :: _, _ :: _, i + 1, y, h, e => by
    have q := Caps.get (i := i) (y := y) h.2.2.2.2 (by simpa using e)
    simpa using q
  | [], _ :: _, _, _, h, _ => False.elim h
  | _ :: _, [], _, _, h, _ => False.elim h
theorem Caps.len {X : Cx} {sc : Scope} {cl : List (Str × Addr)} : ∀ {ys : List Str} {js : List Nat}, Caps X sc cl ys js → ys.length = js.length
  | [], [], _ => rfl
  | _ :: _, _ :: _, h => by simp [Caps.len h.2.2.2.2]
  | [], _ :: _, h => False.elim h
  | _ :: _, [], h => False.elim h
def capt (σ : St) (js : List Nat) : St := js.map fun j => (σ[j]?).join

/-- what the block is worth: W holds between its turns -/
def Comped (J : It) (cap : St) (te : TE) (Q : VK) (H1 : Hp) : Prop := ∀ D, H1 D = none → ∃ W : Nat → Nat → List V → Hp → Prop, (∃ m, W 0 m [] (upd H1 D (.lst []))) ∧ ∀ i m ys H2, W i m ys H2 → H2 D = some (.lst ys) ∧
  ((J.stop i H2 ∧ Q (.ref D) H2) ∨ (J.go i H2 ∧ ∀ x H3, J.yld i H2 x H3 → te (some x :: cap) H3 fun y H4 => H4 D = some (.lst ys) ∧ ys.length < sizeLine ∧ ∃ m', m' < m ∧ W (i + 1) m' (ys ++ [y]) (upd H4 D (.lst (ys ++ [y])))))
def tComp (wi : TI) (js : List Nat) (te : TE) : TE := fun σ H Q => wi σ H fun J H1 => Comped J (capt σ js) te Q H1

section
variable {X : Cx} {x : Str} {px pos : Pos} {elt iter : Expr} {sc : Scope} {ys : List Str} {js : List Nat} {cl : List (Str × Addr)}

theorem inv_comp {pins : List (Addr × Obj)} {σ : St} {H : Hp} {s s4 : Shared} {fp : List Addr} {C : Addr} {H4 : Hp} {m : Str → Option Value} (I : Inv X pins σ H s) (hf : ∀ b ∈ fp, FpOk X pins H b)
    (hkind : sc.kind = .function) (hcap : Caps X sc cl ys js) (hin : ∀ y c, cl.lookup y = some c → X.env.cells.lookup y = some c) (hhas : ∀ y, ((relabel sc X.env).names.lookup y = some .cell ∨ (relabel sc X.env).names.lookup y = some .free) → ∃ c, cl.lookup y = some c)
    (hfl : ∀ b ∈ fp, b < s.heap.objs.size) (hC : s.heap.objs.size ≤ C) (hos : s4.os = s.os) (hb : AllBare s4.gens) (un : Un (frs X.stack) fp H H4 s.heap s4.heap) (kp : ∀ b o, s.heap.get? b = some o → s4.heap.get? b = some o) (hn : s4.heap.Ns C m) (hC4 : H4 C = none)
    (hok : HOk X.prog X.w H4 s4.heap) : Inv (compCx X sc (x :: ys) cl s H C fp) [] (none :: capt σ js) H4 s4 := by
  have frb : ∀ b ∈ fp, b ∉ frs X.stack := fun b hb z => by
    rcases List.mem_cons.mp (I.stkSub b z) with q | q
    · exact (hf b hb).2.1 q
    · exact (hf b hb).2.2.1 q
  refine ⟨⟨I.ok.mod, hkind, I.ok.glob, I.ok.blt, hC, fun y z c h1 h2 => I.ok.inj y z c (hin y c h1) (hin z c h2), hhas, (fun _ _ z => nomatch z), I.ok.hd, I.ok.frames, .inl rfl, fun b z => ⟨?_, fun y c e => ?_⟩, I.bs, Nat.le_trans I.ok.bsz I.sz, fun b o e z => ?_, frb, I.stack, I.stkFree⟩,
    hos, hb, un, ⟨m, hn, fun i y v e1 e2 e3 => ?_⟩, fun y c e => ?_, hC4, fun y c e => ?_, fun p hp => ?_, hok, ?_⟩
  · exact Nat.ne_of_lt (Nat.lt_of_lt_of_le (hfl b z) hC)
  · exact (hf b z).2.2.2.2.1 y c (hin y c e)
  · rcases (hf b z).2.2.2.1 with q | q
    · exact I.ok.noex b o e q
    · exact absurd (Nat.lt_of_lt_of_le (Heap.lt_size e) (Nat.le_trans I.ok.bsz q)) (Nat.lt_irrefl _)
  · cases i with
    | zero =>
      have z : (none : Option V) = some v := by simpa using e2
      cases z
    | succ i =>
      have e1' : ys[i]? = some y := by simpa [compCx] using e1
      have e2' : (capt σ js)[i]? = some (some v) := by simpa using e2
      obtain ⟨j, q1, q2, q3, q4, q5⟩ := hcap.get e1'
      unfold capt at e2'
      rw [List.getElem?_map, q1] at e2'
      have e2'' : (σ[j]?).join = some v := by simpa using e2'
      have e3' : σ[j]? = some (some v) := by
        cases z : σ[j]? with
        | none => rw [z] at e2''; cases e2''
        | some o =>
          cases o with
          | none => rw [z] at e2''; cases e2''
          | some w' => rw [z] at e2''; cases e2''; rfl
      obtain ⟨m0, _, hl⟩ := I.loc
      obtain ⟨u, r, l⟩ := hl j y v q2 e3' (.inr (.inl q3))
      refine ⟨u, r, .inr ⟨.inl q5, ?_⟩⟩
      rcases l with ⟨l1, _⟩ | ⟨_, c, l2, l3⟩
      · rw [q3] at l1; cases l1
      · obtain ⟨o, ho, hd⟩ := l3
        exact ⟨c, q4.trans l2, o, kp c o ho, hd⟩
  · obtain ⟨v, o, ho, hd⟩ := I.cell y c (hin y c e)
    exact ⟨v, o, kp c o ho, hd⟩
  · obtain ⟨v, o, ho, hd⟩ := I.cell y c (hin y c e)
    exact un.free c o ho (I.freeC y c (hin y c e)) fun z => (hf c z).2.2.2.2.1 y c (hin y c e) rfl
  · exact absurd (show p ∈ ([] : List (Addr × Obj)) from hp) (by simp)
  · show (none :: capt σ js).length = (x :: ys).length
    unfold capt
    rw [List.length_cons, List.length_cons, List.length_map, hcap.len]

end
end L2

set_option linter.all false
set_option maxRecDepth 100000
set_option maxHeartbeats 4000000
/-! Texts, their signs in a loop, all, int(text), isinstance, deep equality: more rules over the layer. -/
namespace L2
open PySem PySem.Spec PyProof.Rows

section
variable {X : Cx}
/-! ### texts -/
/-- x[lo:hi] of a text -/
def rSlS : V → Option Int → Option Int → Hp → VK → Prop := fun x lo hi H Q => ∃ z, x = .str z ∧ z.length ≤ sizeLine ∧ Q (.str (Txt.slice z lo hi)) H
def rZfill : V → List V → Hp → VK → Prop := fun x vs H Q => ∃ z k, x = .str z ∧ vs = [.int k] ∧ PadOk k = true ∧ Q (.str (Txt.zfill z k)) H
/-! ### the signs of a text -/
def Its (x : Str) : It := ⟨fun i _ => i < x.cps.size, fun i H v H' => H' = H ∧ ∃ c, x.cps[i]? = some c ∧ v = .str ⟨#[c]⟩, fun i _ => x.cps.size ≤ i⟩
def iStr (tl : TE) : TI := fun σ H R => tl σ H fun v H1 => ∃ x, v = .str x ∧ R (Its x) H1
/-! ### all(a list of bools) -/
end

/-! ### data: what a value is worth, whatever its places -/
mutual
inductive Den (K : PySem.W.Frag) (H : Hp) : V → PyData → Prop
  | non : Den K H .non .none
  | bl (b : Bool) : Den K H (.bl b) (.bool b)
  | int (i : Int) : Den K H (.int i) (.int i)
  | str (x : Str) : Den K H (.str x) (.str x)
  | lst {a : Addr} {xs : List V} {ds : List PyData} : SqL K H a xs → DenAll K H xs ds → Den K H (.ref a) (.list ds)
  | tup {a : Addr} {xs : List V} {ds : List PyData} : SqT K H a xs → DenAll K H xs ds → Den K H (.ref a) (.tuple ds)
inductive DenAll (K : PySem.W.Frag) (H : Hp) : List V → List PyData → Prop
  | nil : DenAll K H [] []
  | cons {x : V} {xs : List V} {d : PyData} {ds : List PyData} : Den K H x d → DenAll K H xs ds → DenAll K H (x :: xs) (d :: ds)
end
section
variable {X : Cx} {pins : List (Addr × Obj)} {σ : St} {H : Hp} {s : Shared}
end
section
variable {X : Cx}
def rEqD (K : PySem.W.Frag) : R2 := fun x y H Q => ∃ da db, Den K H x da ∧ Den K H y db ∧ da.canLay0 = true ∧ db.canLay0 = true ∧ min da.depth db.depth ≤ 60 ∧ Q (.bl (PyData.eqv da db)) H
def rNeD (K : PySem.W.Frag) : R2 := fun x y H Q => ∃ da db, Den K H x da ∧ Den K H y db ∧ da.canLay0 = true ∧ db.canLay0 = true ∧ min da.depth db.depth ≤ 60 ∧ Q (.bl (!PyData.eqv da db)) H
/-! ### isinstance -/
def valOf : V → Value
  | .ref a => .ref a
  | .ty n => .type n
  | _ => .none
end
end L2

set_option maxRecDepth 100000
set_option maxHeartbeats 4000000
/-! An attribute of an exception of an own class: through BaseException's own road. -/
namespace L2
open PySem PySem.W

section
variable {prog : Program} {w : World} {A : Around} {E : Value → Shared → Prop} {K : Frag} {x C : Addr} {ox : Obj} {od : Option Obj} {name : Str}

/-- where the road goes behind the look -/
def foundGoes (prog : Program) (w : World) (A : Around) (x C : Addr) (Q : Value → Shared → Prop) (s : Shared) : Builtin.ObjectAttr.Found → Prop
  | .value v => handedIn v = true ∧ Q v s
  | .bind g a => wpAny (model prog w) A (call g [a, .ref x, .ref C]) (fun v s' => handedIn v = true ∧ Q v s') (fun _ _ => False) s
  | .missing => False

end
end L2

set_option linter.all false
set_option maxRecDepth 100000
set_option maxHeartbeats 4000000
namespace L2
open PySem PySem.Spec PyProof.Rows

/-- what the written part says of a class whose exceptions are asked for their class -/
structure ExcK (K : PySem.W.Frag) (C : Addr) : Prop where
  hm : PySem.W.mroIn K C (.type "BaseException") = some true
  hmo : PySem.W.mroIn K C (.type "object") = some true
  hga : PySem.W.findIn K (.ref C) "__getattribute__" = some (some (.builtin "BaseException.__getattribute__"))
  hgn : PySem.W.findIn K (.ref C) "__getattr__" = some none
  hc : (PySem.W.clsIn K C).isSome = true
  ha : PySem.W.findIn K (.ref C) "__class__" = some (some (.builtin "object.__class__"))
  hn : PySem.W.specialIn K (.builtin "object.__class__") "__get__" = some (some (.builtin "getset_descriptor.__get__"))
  ht : PySem.W.takesIn K (.builtin "object.__class__") = some true

section
variable {X : Cx}
end
end L2

set_option linter.all false
set_option maxRecDepth 100000
set_option maxHeartbeats 4000000
namespace L2
open PySem PySem.Spec PyProof.Rows

theorem Same.new {H : Hp} {p : Addr} (h : H p = none) (o : HO) : Same H (upd H p o) := fun b u q => by rw [upd_ne (ne_of_none q h)]; exact q
end L2

namespace L2
open PySem PySem.Spec PyProof.Rows
def ClIn (env : Env) : List (Str × Addr) → Prop
  | [] => True
  | p :: r => env.cells.lookup p.1 = some p.2 ∧ ClIn env r
theorem ClIn.mem {env : Env} : ∀ {cl : List (Str × Addr)} {p : Str × Addr}, ClIn env cl → p ∈ cl → env.cells.lookup p.1 = some p.2
  | [], _, _, h => by cases h
  | q :: r, p, k, h => by
    rcases List.mem_cons.mp h with z | z
    · subst z; exact k.1
    · exact ClIn.mem k.2 z
end L2

set_option linter.all false
set_option maxRecDepth 100000
set_option maxHeartbeats 4000000
namespace L2
open PySem PySem.Spec PyProof.Rows

/-! ### a def of the text with its promise, by its name -/
def Def (P : Program) (w : World) (K : PySem.W.Frag) (mg : Str → Option Value) (base : Heap) (CX : CXT) (x : Str) (k : Nat) (ps : List Str) (sp : Sp) : Prop :=
  ∃ f fd, FnOk P w K mg base CX k f fd ps sp ∧ Binds K fd ps [] ∧ PySem.W.keepIn K (.ref f) = true ∧ mg x = some (.ref f)
section
variable {X : Cx} {CX : CXT} {j k : Nat} {ps : List Str} {sp : Sp} {E : XK} {x : Str} {p pos : Pos} {e : Expr} {es : List Expr} {t : TA}
theorem pe_callD (D : Def X.prog X.w X.K X.mg X.base CX x j ps sp) (hr : Room k X.A) (hx : Passes CX X E) (ha : PA X (e :: es) t) (hj : j ≤ k := by decide) (hg : Gl X x := by rfl)
    (hdb : (x == ("__debug__" : Str)) = false := by decide) (he : starEach (e :: es) X.env = (false, eval e X.env) :: starEach es X.env := by rfl) (hpl : (backTo pos (starEach es X.env)).any (·.1) = false := by rfl) :
    PE X (.Call (.Name x p) (e :: es) [] pos) (tCall sp [] E t) := by
  obtain ⟨f, fd, F, b, kk, m⟩ := D
  exact pe_call F (hr.mono hj) hg m kk b .nil hx ha hdb he hpl
/-! ### a cut: what holds behind a statement, said once -/
def tCut (t : TS) : TS := fun D σ H => ∃ P : St → Hp → Prop, t { D with nx := P } σ H ∧ ∀ σ' H', P σ' H' → D.nx σ' H'
theorem ps_cut {st : Stmt} {t : TS} (h : PS X st t) : PS X st (tCut t) := by
  rintro pins s σ H D I ⟨P, hp, hq⟩
  refine thn (h pins s σ H _ I hp) fun f s' q => ?_
  cases f with
  | next =>
    obtain ⟨σ', H', I', q⟩ := q
    exact ⟨σ', H', I', hq _ _ q⟩
  | brk => exact q
  | cont => exact q
  | ret v => exact q
def tCutE (t : TE) : TE := fun σ H Q => ∃ P : VK, t σ H P ∧ ∀ v H', P v H' → Q v H'
end
end L2

set_option linter.all false
set_option maxRecDepth 100000
set_option maxHeartbeats 4000000
namespace L2
open PySem PySem.Spec PyProof.Rows

/-- a def of the text as the written part has it -/
def FunIn (K : PySem.W.Frag) (x : Str) (st : Stmt) : Prop := ∃ f fd, PySem.W.nsIn K mainGlobals x = some (some (.ref f)) ∧ Fun K x x st f fd
theorem funIn_mk {K : PySem.W.Frag} {x : Str} {st : Stmt} {f : Addr} {oc : Value} {od an : Option Addr} {osl : Array (Option Value)} {kV doc pm cdv ct : Value} (a : PySem.W.nsIn K mainGlobals x = some (some (.ref f)))
    (l : K.lookup f = some ⟨oc, od, .func (PySem.W.fnOf x x (defArgs st) (defBody st) (defScope st) .none kV doc pm an cdv ct), osl⟩) (c : PySem.W.codeIn K cdv x = true) (k : PySem.W.keepIn K (.ref f) = true) : FunIn K x st :=
  ⟨f, _, a, fun_mk l c k⟩
theorem Def.of {P : Program} {w : World} {K : PySem.W.Frag} {mg : Str → Option Value} {base h : Heap} {CX : CXT} {x : Str} {k : Nat} {ps : List Str} {sp : Sp} {st : Stmt} (X : K.In h) (G : h.Ns mainGlobals mg) (FI : FunIn K x st)
    (ok : ∀ f fd, Fun K x x st f fd → FnOk P w K mg base CX k f fd ps sp)
    (hb : ∀ (kV doc pm : Value) (an : Option Addr) (cdv ct : Value) (us : List Value), us.length = ps.length → bindArgs (PySem.W.fnOf x x (defArgs st) (defBody st) (defScope st) .none kV doc pm an cdv ct) ⟨us, []⟩ = pure (ps.zip us)) :
    Def P w K mg base CX x k ps sp := by
  obtain ⟨f, fd, a, F⟩ := FI
  exact ⟨f, fd, ok f fd F, F.binds hb, F.kp, PySem.W.mg_of X G a⟩
end L2

set_option maxRecDepth 100000
set_option maxHeartbeats 4000000
/-! An attribute stored into an exception of an own class. -/
namespace L2
open PySem PySem.W Builtin Builtin.ObjectAttr

/-- own classes, then those of ValueError -/
def onlyVE : List Value → Bool
  | .ref _ :: r => onlyVE r
  | l => l == [.type "ValueError", .type "Exception", .type "BaseException", .type "object"]
section
variable {prog : Program} {w : World} {A : Around} {E : Value → Shared → Prop} {K : Frag} {x C : Addr} {ox : Obj} {od : Option Obj} {name : Str} {s : Shared} {cd : ClassData} {v : Value} {R : Result → Shared → Prop}
end
end L2

set_option maxRecDepth 100000
set_option maxHeartbeats 4000000
/-! C(..) of an own exception class with an own __init__. -/
namespace L2
open PySem PySem.W
section
variable {prog : Program} {w : World} {A : Around} {E : Value → Shared → Prop} {h : Heap} {g : Array GenState} {d : Drawn} {t : Nat} {os : OsState}
variable {nm q : Str} {C N fI : Addr} {bs bm bmB : List Value} {hdct : Bool} {sn : List Str} {sub : List Value} {ab : Bool} {col : Option Bool} {dd : Option Addr} {k0 k1 k2 k3 k5 : Option Value} {B Bn newId nid initId inN : String} {bmN : List Value} {K : Frag}

abbrev excObj (C t : Addr) : Obj := { cls := .ref C, data := .fields #[.ref t, .none, .none, .none, .bool false, .none] }
abbrev excObjD (C t : Addr) (dO : Option Addr) : Obj := { cls := .ref C, dict := dO, data := .fields #[.ref t, .none, .none, .none, .bool false, .none] }
abbrev excHeap (h : Heap) (C : Addr) (rest : List Value) : Heap := (h.push { cls := .type "tuple", data := .seq rest.toArray }).push (excObj C h.objs.size)
end
section
variable {prog : Program} {w : World} {A : Around} {E : Value → Shared → Prop} {s : Shared} {env : Env}
variable {nm q : Str} {C N fI : Addr} {bs bm bmB : List Value} {hdct : Bool} {sn : List Str} {sub : List Value} {ab : Bool} {col : Option Bool} {dd : Option Addr} {k0 k1 k2 k3 k5 : Option Value} {B Bn newId nid initId inN : String} {bmN : List Value} {K : Frag}

end
end L2

set_option linter.all false
set_option maxRecDepth 100000
set_option maxHeartbeats 4000000
/-! Exceptions with fields over the layer: made with an own __init__, raised, caught, read. -/
namespace L2
open PySem PySem.Spec PyProof.Rows

/-- a new exception of the class at C, its dict at d -/
def newO (a C : Addr) (d : Option Addr) : HO := .ext fun h => ∃ t, h.get? a = some (excObjD C t d)
/-- an exception's dict, with these attributes -/
def xdO (a : Addr) (fs : List (Str × V)) : HO := .ext fun h => ∃ mA, h.Ns1 a mA ∧ ∀ f, RelO (fs.lookup f) (mA f)
section
variable {P : Program} {w : World} {H : Hp} {h : Heap} {a C : Addr} {d : Option Addr} {fs : List (Str × V)}
end

/-- what the text says of a class whose exceptions bear attributes -/
structure XCls (K : PySem.W.Frag) (C : Addr) : Prop where
  cd : ∃ cd, PySem.W.clsIn K C = some cd ∧ onlyVE cd.mro = true ∧ cd.hasDict = true
  sa : PySem.W.findIn K (.ref C) "__setattr__" = some (some (.builtin "object.__setattr__"))
def XNo (K : PySem.W.Frag) (C : Addr) (f : Str) : Prop := PySem.W.findIn K (.ref C) f = some none
theorem get_push_ne {h : Heap} {o v : Obj} {b : Addr} (z : (h.push o).get? b = some v) (hb : b ≠ h.objs.size) : h.get? b = some v := by
  rw [← z]
  exact (Heap.get?_push_ne h b o hb).symm
def sX (K : PySem.W.Frag) (ta tv : TE) (f : Str) : TS := fun D σ H => tv σ H fun y H1 => ta σ H1 fun x H2 => ∃ a C, x = .ref a ∧ XCls K C ∧ XNo K C f ∧
  ((H2 a = some (newO a C none) ∧ ∀ dx, H2 dx = none → dx ≠ a → D.nx σ (upd (upd H2 dx (xdO dx [(f, y)])) a (newO a C (some dx)))) ∨
    (∃ dx fs, H2 a = some (newO a C (some dx)) ∧ H2 dx = some (xdO dx fs) ∧ fs.length < 1000 ∧ D.nx σ (upd H2 dx (xdO dx (putF f y fs)))))
section
variable {X : Cx} {o value : Expr} {f : Str} {pos pos' : Pos} {ta tv : TE}
end
end L2

set_option linter.all false
set_option maxRecDepth 100000
set_option maxHeartbeats 4000000
namespace L2
open PySem PySem.Spec PyProof.Rows

def del (H : Hp) (a : Addr) : Hp := fun b => if b = a then none else H b
section
variable {X : Cx} {pins : List (Addr × Obj)} {σ : St} {H H' : Hp} {s s1 : Shared} {B h' : Heap} {a C : Addr} {d : Option Addr}
end

section
variable {P : Program} {w : World} {K : PySem.W.Frag} {mg : Str → Option Value} {base : Heap} {N : List Str} {qual : Str} {scope : Scope} {f : Addr} {cd : Value} {A : Around} {outer : List Env} {s₀ : Shared} {H₀ : Hp} {E : XK}
/-- what the text says of a class that is raised and has an own __init__ at fI -/
structure XRaise (K : PySem.W.Frag) (C fI : Addr) : Prop where
  obj : ∃ nm qn NN bs bm hd sn sub ab col dd k0 k1 k2 k3 k5, K.lookup C = some (excClassObj nm qn C NN bs bm hd sn sub ab col dd k0 k1 k2 k3 k5 "ValueError.__new__") ∧ PySem.W.tailIn K bmVE bm = true
  init : PySem.W.findIn K (.ref C) "__init__" = some (some (.ref fI))
  fn : PySem.W.typeIn K (.ref fI) = some (.type "function")
def tRaiseI (C : Addr) (sp : Sp) (E : XK) (t : TA) : TS := fun _ σ H => t σ H fun vs H1 => vs.length ≤ sizeLine ∧ ∀ a, H1 a = none →
  sp (.ref a :: vs) (upd H1 a (newO a C none)) (fun v H2 => v = .non ∧ ∃ d, H2 a = some (newO a C d) ∧ E (.ref C) d (del H2 a)) E0
end

section
variable {X : Cx}
/-- the dict of an exception that is caught: it has none, or a tracked one -/
def XDict (H : Hp) (d : Option Addr) : Prop := d = none ∨ ∃ dx fs, d = some dx ∧ H dx = some (xdO dx fs)
/-- e.f of an exception that was caught -/
def tXFld (K : PySem.W.Frag) (ta : TE) (f : Str) : TE := fun σ H Q => ta σ H fun x H1 => ∃ a C dx fs v, x = .ref a ∧ H1 a = some (excO a (.ref C) (some dx)) ∧ H1 dx = some (xdO dx fs) ∧ ExcK K C ∧ XCls K C ∧ XNo K C f ∧ fs.lookup f = some v ∧ Q v H1
end
end L2

set_option Elab.async false
set_option linter.all false
set_option maxRecDepth 100000
namespace L2
open PySem PySem.Spec PyProof.Rows

/-! ### lists of pairs as tables -/
section
variable {κ : Type} [DecidableEq κ]
def valV (kvs : List (κ × V)) (k : κ) : Option V := (kvs.find? fun kv => decide (kv.1 = k)).map (·.2)
/-- in its place, or at the end -/
def putK (kvs : List (κ × V)) (k : κ) (v : V) : List (κ × V) :=
  if (kvs.any fun kv => decide (kv.1 = k)) = true then kvs.map (fun kv => if kv.1 = k then (kv.1, v) else kv) else kvs ++ [(k, v)]
def dropK (kvs : List (κ × V)) (k : κ) : List (κ × V) := kvs.filter fun kv => decide (kv.1 ≠ k)

theorem valV_pos {p : κ × V} {r : List (κ × V)} {k : κ} (e : p.1 = k) : valV (p :: r) k = some p.2 := by simp [valV, List.find?_cons, e]
theorem valV_neg {p : κ × V} {r : List (κ × V)} {k : κ} (e : ¬ p.1 = k) : valV (p :: r) k = valV r k := by simp [valV, List.find?_cons, e]
theorem valV_any (k : κ) : ∀ kvs : List (κ × V), (kvs.any fun kv => decide (kv.1 = k)) = (valV kvs k).isSome
  | [] => rfl
  | p :: r => by
    rw [List.any_cons]
    by_cases e : p.1 = k
    · simp only [valV_pos e, decide_eq_true e, Bool.true_or, Option.isSome_some]
    · rw [valV_neg e, decide_eq_false e, Bool.false_or]; exact valV_any k r
theorem valV_map (k j : κ) (y : V) : ∀ kvs : List (κ × V), valV (kvs.map fun kv => if kv.1 = k then (kv.1, y) else kv) j = (valV kvs j).map fun x => if j = k then y else x
  | [] => rfl
  | p :: r => by
    have ih := valV_map k j y r
    rw [List.map_cons]
    by_cases h : p.1 = k
    · rw [if_pos h]
      by_cases e : p.1 = j
      · rw [valV_pos (p := (p.1, y)) e, valV_pos e, Option.map_some, if_pos (e.symm.trans h)]
      · rw [valV_neg (p := (p.1, y)) e, valV_neg e, ih]
    · rw [if_neg h]
      by_cases e : p.1 = j
      · rw [valV_pos (p := p) e, valV_pos e, Option.map_some, if_neg (fun z => h (e.trans z))]
      · rw [valV_neg (p := p) e, valV_neg e, ih]
theorem valV_snoc (k j : κ) (y : V) : ∀ kvs : List (κ × V), valV kvs k = none → valV (kvs ++ [(k, y)]) j = if j = k then some y else valV kvs j
  | [], _ => by
    by_cases e : k = j
    · rw [if_pos e.symm]; exact valV_pos (p := (k, y)) e
    · rw [if_neg (fun z => e z.symm)]; exact valV_neg (p := (k, y)) e
  | p :: r, hn => by
    rw [List.cons_append]
    have hk : ¬ p.1 = k := fun z => by rw [valV_pos z] at hn; cases hn
    rw [valV_neg hk] at hn
    have ih := valV_snoc k j y r hn
    by_cases e : p.1 = j
    · rw [valV_pos e, valV_pos e, if_neg (fun z => hk (e.trans z))]
    · rw [valV_neg e, valV_neg e, ih]
theorem valV_put (kvs : List (κ × V)) (k j : κ) (y : V) : valV (putK kvs k y) j = if j = k then some y else valV kvs j := by
  unfold putK
  by_cases a : (kvs.any fun kv => decide (kv.1 = k)) = true
  · rw [if_pos a, valV_map]
    rw [valV_any] at a
    by_cases e : j = k
    · obtain ⟨x, hx⟩ := Option.isSome_iff_exists.mp a
      rw [if_pos e, e, hx, Option.map_some, if_pos rfl]
    · rw [if_neg e]
      cases valV kvs j with
      | none => rfl
      | some x => rw [Option.map_some, if_neg e]
  · rw [if_neg a]
    refine valV_snoc k j y kvs ?_
    rw [valV_any] at a
    cases q : valV kvs k with
    | none => rfl
    | some x => rw [q] at a; exact (a rfl).elim
theorem length_putK (kvs : List (κ × V)) (k : κ) (v : V) : (putK kvs k v).length ≤ kvs.length + 1 := by
  unfold putK
  split
  · rw [List.length_map]; omega
  · rw [List.length_append, List.length_cons, List.length_nil]; omega
theorem RelO.isSome_eq {o : Option V} {u : Option Value} (r : RelO o u) : o.isSome = u.isSome := by
  cases o with
  | none => cases u with
    | none => rfl
    | some _ => exact (show False from r).elim
  | some _ => cases u with
    | none => exact (show False from r).elim
    | some _ => rfl
theorem RelO.getD {o : Option V} {u : Option Value} {d : V} {d' : Value} (r : RelO o u) (rd : RelV d d') : RelV (o.getD d) (u.getD d') := by
  cases o with
  | none => cases u with
    | none => exact rd
    | some _ => exact (show False from r).elim
  | some _ => cases u with
    | none => exact (show False from r).elim
    | some _ => exact r

/-- raw tables of the same keys -/
theorem KV.val {kvs : List (κ × V)} {vs : List (κ × Value)} (r : KV kvs vs) (k : κ) : RelO (valV kvs k) (valueAt vs k) := by
  unfold KV at r
  induction r with
  | nil => exact True.intro
  | @cons p q ps qs h t ih =>
    obtain ⟨h1, h2⟩ := h
    by_cases e : p.1 = k
    · have e' : q.1 = k := h1.symm.trans e
      have b : valueAt (q :: qs) k = some q.2 := by simp [valueAt, List.find?_cons, e']
      rw [valV_pos e, b]; exact h2
    · have e' : ¬ q.1 = k := fun z => e (h1.trans z)
      have b : valueAt (q :: qs) k = valueAt qs k := by simp [valueAt, List.find?_cons, e']
      rw [valV_neg e, b]; exact ih
theorem KV.any {kvs : List (κ × V)} {vs : List (κ × Value)} (r : KV kvs vs) (k : κ) : (kvs.any fun kv => decide (kv.1 = k)) = vs.any fun kv => decide (kv.1 = k) := by
  unfold KV at r
  induction r with
  | nil => rfl
  | cons h t ih => rw [List.any_cons, List.any_cons, ih, h.1]
theorem KV.repl {kvs : List (κ × V)} {vs : List (κ × Value)} (r : KV kvs vs) (k : κ) {y : V} {u : Value} (ry : RelV y u) :
    KV (kvs.map fun kv => if kv.1 = k then (kv.1, y) else kv) (vs.map fun kv => if kv.1 = k then (kv.1, u) else kv) := by
  unfold KV at r ⊢
  induction r with
  | nil => exact .nil
  | @cons p q ps qs h t ih =>
    rw [List.map_cons, List.map_cons]
    refine .cons ?_ ih
    obtain ⟨h1, h2⟩ := h
    by_cases e : p.1 = k
    · rw [if_pos e, if_pos (h1.symm.trans e)]; exact ⟨h1, ry⟩
    · rw [if_neg e, if_neg (fun z => e (h1.trans z))]; exact ⟨h1, h2⟩
theorem KV.put {kvs : List (κ × V)} {vs : List (κ × Value)} (r : KV kvs vs) (k : κ) {y : V} {u : Value} (ry : RelV y u) : KV (putK kvs k y) (stored vs k u) := by
  unfold putK stored
  rw [r.any k]
  by_cases e : (vs.any fun kv => decide (kv.1 = k)) = true
  · rw [if_pos e, if_pos e]; exact r.repl k ry
  · rw [if_neg e, if_neg e]; exact Paired.snoc r ⟨rfl, ry⟩
theorem KV.length {kvs : List (κ × V)} {vs : List (κ × Value)} (r : KV kvs vs) : kvs.length = vs.length := Paired.length r
end


/-! ### a tracked dict, its keys ints and texts or tuples of these -/
theorem kV_is {P : Program} {w : World} {k : Key} {u : Value} (r : RelV (kV k) u) : (mixKind P w).is k u = true := by
  cases k with
  | inl i => obtain ⟨t, e⟩ := (show ∃ t, u = Value.int i t from r); subst e; exact mixKind_int P w i t
  | inr x => obtain ⟨t, e⟩ := (show ∃ t, u = Value.str x t from r); subst e; exact mixKind_str P w x t
theorem items_are {P : Program} {w : World} : ∀ {ks : List Key} {us : List Value}, Vals (ks.map kV) us → ItemsAre (mixKind P w) ks us
  | [], _, r => by rw [List.map_nil] at r; cases r; exact .nil
  | k :: ks, _, r => by
    rw [List.map_cons] at r
    cases r with
    | cons h t => exact .cons (kV_is h) (items_are t)

/-- raw entries of a dict with tuple keys -/
abbrev KT (H : Hp) : List (List Key × V) → List (List Key × Addr × Value) → Prop := Paired fun p q => p.1 = q.1 ∧ H q.2.1 = some (.tup (p.1.map kV)) ∧ RelV p.2 q.2.2
theorem KT.val {H : Hp} {kvs : List (List Key × V)} {xs : List (List Key × Addr × Value)} (r : KT H kvs xs) (k : List Key) : RelO (valV kvs k) ((atKey xs k).map (·.2)) := by
  induction r with
  | nil => exact True.intro
  | @cons p q ps qs h t ih =>
    obtain ⟨h1, _, h2⟩ := h
    by_cases e : p.1 = k
    · have e' : q.1 = k := h1.symm.trans e
      have b : atKey (q :: qs) k = some q.2 := by simp [atKey, List.find?_cons, e']
      rw [valV_pos e, b]; exact h2
    · have e' : ¬ q.1 = k := fun z => e (h1.trans z)
      have b : atKey (q :: qs) k = atKey qs k := by simp [atKey, List.find?_cons, e']
      rw [valV_neg e, b]; exact ih
theorem KT.repl {H : Hp} {kvs : List (List Key × V)} {xs : List (List Key × Addr × Value)} (r : KT H kvs xs) (k : List Key) {y : V} {u : Value} (ry : RelV y u) :
    KT H (kvs.map fun kv => if kv.1 = k then (kv.1, y) else kv) (xs.map (putAt k u)) := by
  induction r with
  | nil => exact .nil
  | @cons p q ps qs h t ih =>
    rw [List.map_cons, List.map_cons]
    refine .cons ?_ ih
    obtain ⟨h1, h2, h3⟩ := h
    unfold putAt
    by_cases e : p.1 = k
    · rw [if_pos e, if_pos (h1.symm.trans e)]; exact ⟨h1, h2, ry⟩
    · rw [if_neg e, if_neg (fun z => e (h1.trans z))]; exact ⟨h1, h2, h3⟩
theorem KT.put {H : Hp} {kvs : List (List Key × V)} {xs : List (List Key × Addr × Value)} (r : KT H kvs xs) (k : List Key) {b : Addr} {y : V} {u : Value} (hb : H b = some (.tup (k.map kV))) (ry : RelV y u) :
    KT H (putK kvs k y) (storedH xs k b u) := by
  have e : (kvs.any fun kv => decide (kv.1 = k)) = (atKey xs k).isSome := by
    rw [valV_any, (r.val k).isSome_eq, Option.isSome_map]
  unfold putK storedH
  rw [e]
  by_cases q : (atKey xs k).isSome = true
  · rw [if_pos q, if_pos q]; exact r.repl k ry
  · rw [if_neg q, if_neg q]; exact Paired.snoc r ⟨rfl, hb, ry⟩
theorem KT.keeps {H H' : Hp} {kvs : List (List Key × V)} {xs : List (List Key × Addr × Value)} (r : KT H kvs xs) (ht : ∀ b ys, H b = some (.tup ys) → H' b = some (.tup ys)) : KT H' kvs xs :=
  Paired.mapP r fun _ _ z => ⟨z.1, ht _ _ z.2.1, z.2.2⟩

section
variable {P : Program} {w : World} {H : Hp} {h : Heap} {a : Addr}
theorem rd_of {u : HO} (ok : HOk P w H h) (e : Rd H a u) : ObjOk P w H h a u := e.ok ok
theorem dk_rd {kvs : List (Key × V)} (ok : HOk P w H h) (e : Rd H a (.dK kvs)) : kvs.length ≤ sizeLine ∧ (a == sysModules) = false ∧ ∃ vs, KV kvs vs ∧ h.DictOf (mixKind P w) a vs :=
  show ObjOk P w H h a (.dK kvs) from rd_of ok e
theorem dk_of {kvs : List (Key × V)} (ok : HOk P w H h) (e : H a = some (.dK kvs)) : kvs.length ≤ sizeLine ∧ (a == sysModules) = false ∧ ∃ vs, KV kvs vs ∧ h.DictOf (mixKind P w) a vs := dk_rd ok (.inl e)
/-- a tracked tuple of ints and texts is a key -/
theorem key_of {ks : List Key} (ok : HOk P w H h) (e : H a = some (.tup (ks.map kV))) : (tupleKind (mixKind P w)).is h ks a := by
  obtain ⟨_, its, r, o, h1, h2, n, h3⟩ := (show ObjOk P w H h a (.tup (ks.map kV)) from ok a _ e)
  exact ⟨o, its.toArray, n, h1, h2, h3, by simpa using items_are r⟩
theorem dt_rd {kvs : List (List Key × V)} (ok : HOk P w H h) (e : Rd H a (.dT kvs)) : kvs.length ≤ sizeLine ∧ (a == sysModules) = false ∧
    ∃ xs, KT H kvs xs ∧ h.DictOfH (tupleKind (mixKind P w)) a xs := by
  obtain ⟨z, y, xs, r, o, es, ep, h1, h2, h3, h4, h5⟩ := (show ObjOk P w H h a (.dT kvs) from rd_of ok e)
  refine ⟨z, y, xs, r, o, es, ep, h1, h2, h3, h4, fun x hx => ?_, h5⟩
  have all : ∀ {l : List (List Key × V)} {m : List (List Key × Addr × Value)}, KT H l m → ∀ x ∈ m, (tupleKind (mixKind P w)).is h x.1 x.2.1 := by
    intro l m q
    induction q with
    | nil => intro x hx; exact nomatch hx
    | @cons p q ps qs hq t ih =>
      intro x hx
      rcases List.mem_cons.mp hx with e | hx
      · subst e
        exact key_of ok (by rw [← hq.1]; exact hq.2.1)
      · exact ih x hx
  exact all r x hx
theorem dt_of {kvs : List (List Key × V)} (ok : HOk P w H h) (e : H a = some (.dT kvs)) : kvs.length ≤ sizeLine ∧ (a == sysModules) = false ∧
    ∃ xs, KT H kvs xs ∧ h.DictOfH (tupleKind (mixKind P w)) a xs := dt_rd ok (.inl e)
end

/-- what the dict at a holds at the key y -/
def DGet (H : Hp) (a : Addr) (y : V) (r : Option V) : Prop :=
  (∃ kvs k, Rd H a (.dK kvs) ∧ y = kV k ∧ r = valV kvs k) ∨ ∃ kvs k b, Rd H a (.dT kvs) ∧ y = .ref b ∧ H b = some (.tup (k.map kV)) ∧ r = valV kvs k
/-- the heap behind a[y] = v -/
def DPut (H : Hp) (a : Addr) (y v : V) (H' : Hp) : Prop :=
  (∃ kvs k, H a = some (.dK kvs) ∧ y = kV k ∧ kvs.length < sizeLine ∧ H' = upd H a (.dK (putK kvs k v))) ∨
  ∃ kvs k b, H a = some (.dT kvs) ∧ y = .ref b ∧ H b = some (.tup (k.map kV)) ∧ kvs.length < sizeLine ∧ H' = upd H a (.dT (putK kvs k v))
section
variable {X : Cx} {pins : List (Addr × Obj)} {σ : St} {H : Hp} {s : Shared} {a : Addr} {y v : V} {u r : Value} {o : Option V} {A : Around} {E : Value → Shared → Prop}

theorem Inv.big (I : Inv X pins σ H s) : sysModules < s.heap.objs.size := by
  have h : mainGlobals < s.heap.objs.size := (I.mod.glob.keeps I.bk).lt
  exact Nat.lt_trans (by decide) h

/-- a dict's object is replaced -/
theorem d_write {h' : Heap} {t' : Nat} {ob : HO} (I : Inv X pins σ H s) (mu : Mut (H a)) (hs : Heap.SameBut a s.heap h') (he : ∃ q, h'.get? a = some q) (new : ObjOk X.prog X.w (upd H a ob) h' a ob) :
    Inv X pins σ (upd H a ob) { s with heap := h', toks := t' } :=
  I.write (x := a) (e := a) mu (.inl rfl) (fun b q hb z => (hs.2 b hb).trans z) he new
theorem dk_new {P : Program} {w : World} {H' : Hp} {h' : Heap} {kvs : List (Key × V)} {vs : List (Key × Value)} (z : kvs.length ≤ sizeLine) (hd : (a == sysModules) = false) (rel : KV kvs vs) (dd : h'.DictOf (mixKind P w) a vs) :
    ObjOk P w H' h' a (.dK kvs) := ⟨z, hd, vs, rel, dd⟩
/-- d[y] = v -/
theorem d_setItem {H' : Hp} {Q : Unit → Shared → Prop} (hu : A.units + 1 < cLine) (I : Inv X pins σ H s) (g : DPut H a y v H') (ry : RelV y u) (rv : RelV v r) (h : ∀ s', Inv X pins σ H' s' → Q () s') :
    wpAny (model X.prog X.w) A (setItem (.ref a) u r) Q E s := by
  rcases g with ⟨kvs, k, e, ey, l, eH⟩ | ⟨kvs, k, b, e, ey, eb, l, eH⟩
  · subst ey eH
    obtain ⟨z, hd, vs, rel, dd⟩ := dk_of I.hok e
    have hz : vs.length ≤ sizeLine := by rw [← rel.length]; exact z
    have hl : (putK kvs k v).length ≤ sizeLine := by have := length_putK kvs k v; omega
    refine wpAny_setItem_pairs (hsz := hz) (kV_is ry) dd fun h' dd' hs => h _ ?_
    have he : ∃ q, h'.get? a = some q := let ⟨q, _, _, hq, _⟩ := dd'; ⟨q, hq⟩
    exact d_write I (by rw [e]; exact True.intro) hs he (dk_new hl hd (rel.put k rv) dd')
  · subst ey eH
    cases (show u = Value.ref b from ry)
    obtain ⟨z, hd, xs, rel, dd⟩ := dt_of I.hok e
    have hz : xs.length ≤ sizeLine := by rw [← Paired.length rel]; exact z
    have hl : (putK kvs k v).length ≤ sizeLine := by have := length_putK kvs k v; omega
    refine wpAny_setItem_heap (hsz := hz) (tupleKind_room_in1 hu) (key_of I.hok eb) dd fun h' dd' hs => h _ ?_
    obtain ⟨q, es, ep, hq, h2, h3, h4, _, h5⟩ := dd'
    refine d_write I (by rw [e]; exact True.intro) hs ⟨q, hq⟩ ⟨hl, hd, _, (rel.put k eb rv).keeps fun c ys ec => ?_, q, es, ep, hq, h2, h3, h4, h5⟩
    rw [upd_ne (ne_of ec e (fun z => nomatch z))]
    exact ec
end

section
variable {X : Cx} {pins : List (Addr × Obj)} {σ : St} {H : Hp} {s : Shared} {a : Addr} {kvs : List (Key × V)} {k : Key} {u : Value} {A : Around} {E : Value → Shared → Prop}
end


/-! ### readings and rules -/
/-- the element of a subscription, not a slice -/
def NoSl (i : Expr) : Prop := ∀ ov iv, subscripted i false ov iv = operate [ov, iv] (getItem ov iv)
/-- d[y] -/
def tDGet (td ty : TE) : TE := fun σ H Q => td σ H fun x H1 => ty σ H1 fun y H2 => ∃ a v, x = .ref a ∧ DGet H2 a y (some v) ∧ Q v H2
/-- y in d, y not in d -/
def tDIn (ty td : TE) : TE := fun σ H Q => ty σ H fun y H1 => td σ H1 fun x H2 => ∃ a o, x = .ref a ∧ DGet H2 a y o ∧ Q (.bl o.isSome) H2
def tDNotIn (ty td : TE) : TE := fun σ H Q => ty σ H fun y H1 => td σ H1 fun x H2 => ∃ a o, x = .ref a ∧ DGet H2 a y o ∧ Q (.bl (!o.isSome)) H2
/-- d[y] = v -/
def sDPut (td ty tv : TE) : TS := fun D σ H => tv σ H fun v H1 => td σ H1 fun x H2 => ty σ H2 fun y H3 => ∃ a H4, x = .ref a ∧ DPut H3 a y v H4 ∧ D.nx σ H4
/-- d[y] op= v -/
def sDAug (td ty tv : TE) (rd : V → V → Hp → VK → Prop) : TS := fun D σ H => td σ H fun x H1 => ty σ H1 fun y H2 => ∃ a v, x = .ref a ∧ DGet H2 a y (some v) ∧
  tv σ H2 fun y2 H3 => rd v y2 H3 fun z H4 => ∃ H5, DPut H4 a y z H5 ∧ D.nx σ H5
/-- del d[y] -/
def sDDel (td ty : TE) : TS := fun D σ H => td σ H fun x H1 => ty σ H1 fun y H2 => ∃ a kvs k, x = .ref a ∧ H2 a = some (.dK kvs) ∧ y = kV k ∧ (valV kvs k).isSome = true ∧ D.nx σ (upd H2 a (.dK (dropK kvs k)))

section
variable {X : Cx} {o i e value : Expr} {pos pos' tpos : Pos} {td ty tv : TE}
theorem ps_dput (hu : X.A.units + 1 < cLine) (ho : PE X o td) (hi : PE X i ty) (hv : PE X value tv) (hs : swapsWith value (some (.Subscript o i pos')) pos.line X.env = pure false) :
    PS X (.Assign [.Subscript o i pos'] value pos) (sDPut td ty tv) := by
  intro pins s σ H D I h
  refine wpAny_Assign_Subscript (thn (hv pins s σ H _ I h) fun r s1 ⟨v, H1, I1, rv, q1⟩ => thn (ho pins s1 σ H1 _ I1 q1) fun u s2 ⟨x, H2, I2, rx, q2⟩ => thn (hi pins s2 σ H2 _ I2 q2) fun iv s3 ⟨y, H3, I3, ry, a, H4, ex, g, q3⟩ => ?_) hs
  subst ex
  obtain rfl : u = Value.ref a := rx
  exact d_setItem hu I3 g ry rv fun s4 I4 => ⟨σ, H4, I4, q3⟩
end


/-! ### displays -/
theorem dk_empty {P : Program} {w : World} {H : Hp} (h : Heap) (hb : sysModules < h.objs.size) : ObjOk P w H (h.push { cls := .type "dict", data := .dict #[] }) h.objs.size (.dK []) :=
  ⟨Nat.zero_le _, beq_eq_false_iff_ne.mpr (Ne.symm (Nat.ne_of_lt hb)), [], .nil, Heap.DictOf.new h⟩
/-- {}, to be a dict of the kind that is wanted -/
def tDNewK : TE := fun _ H Q => ∀ p, H p = none → Q (.ref p) (upd H p (.dK []))
def tDNewT : TE := fun _ H Q => ∀ p, H p = none → Q (.ref p) (upd H p (.dT []))
section
variable {X : Cx} {pos : Pos}
theorem pe_dnewK : PE X (.Dict [] [] pos) tDNewK := fun pins s σ H Q I h =>
  wpAny_Dict_empty ⟨.ref s.heap.objs.size, _, I.laid (a := s.heap.objs.size) (o := .dK []) (t' := s.toks) (fun _ _ q => Heap.get?_push_of_some _ q) (Nat.le_refl _) (dk_empty s.heap I.big), rfl, h _ (I.hok.fresh (Nat.le_refl _))⟩
end

/-- the pairs of a display, from the left -/
def tPairs : List (TE × TE) → St → Hp → (List (V × V) → Hp → Prop) → Prop
  | [], _, H, Q => Q [] H
  | (tk, tv) :: r, σ, H, Q => tk σ H fun x H1 => tv σ H1 fun y H2 => tPairs r σ H2 fun ps H3 => Q ((x, y) :: ps) H3
abbrev VV : List (V × V) → List (Value × Value) → Prop := Paired fun p q => RelV p.1 q.1 ∧ RelV p.2 q.2
def PPs (X : Cx) (pos : Pos) (keys : List (Option Expr)) (values : List Expr) (trs : List (TE × TE)) : Prop :=
  ∀ (pins : List (Addr × Obj)) (s : Shared) (σ : St) (H : Hp) (Q : List (V × V) → Hp → Prop), Inv X pins σ H s → tPairs trs σ H Q →
    wpAny (model X.prog X.w) X.A (evalPairs (pairTrees keys values X.env pos)) (fun vs s' => ∃ ps H', Inv X pins σ H' s' ∧ VV ps vs ∧ Q ps H') X.xe s
def mergeK (kvs more : List (Key × V)) : List (Key × V) := more.foldl (fun acc kv => putK acc kv.1 kv.2) kvs
/-- {k: v, ..} with keys ints and texts; the new dict stands empty while the pairs are made -/
def tDisp (trs : List (TE × TE)) : TE := fun σ H Q => ∀ p, H p = none → tPairs trs σ (upd H p (.dK [])) fun ps H2 => H2 p = some (.dK []) ∧ ∃ kvs : List (Key × V), ps = kvs.map (fun kv => (kV kv.1, kv.2)) ∧ kvs.length ≤ 15 ∧ Q (.ref p) (upd H2 p (.dK (mergeK [] kvs)))
/-! ### methods -/
/-- a method call o.m(e) of a built-in, with one argument: what must be seen of the text -/
structure M1 (X : Cx) (o : Expr) (m : Str) (apos : Pos) (e : Expr) (cpos : Pos) : Prop where
  base : attributeBase o m X.env (eval o X.env) = eval o X.env
  few : ((backTo cpos (starEach [e] X.env)).all (fun x => !x.1) && (backToKw cpos (keywordEach [] X.env)).all (fun x => x.1.isSome)
    && decide (([e] : List Expr).length + ([] : List Keyword).length + (if ([] : List Keyword).isEmpty then 0 else 1) < 30)) = true
  line : (apos.endLine == cpos.line) = true
  trees : backTo cpos (starEach [e] X.env) = [(false, eval e X.env)]
structure M2 (X : Cx) (o : Expr) (m : Str) (apos : Pos) (e f : Expr) (cpos : Pos) : Prop where
  base : attributeBase o m X.env (eval o X.env) = eval o X.env
  few : ((backTo cpos (starEach [e, f] X.env)).all (fun x => !x.1) && (backToKw cpos (keywordEach [] X.env)).all (fun x => x.1.isSome)
    && decide (([e, f] : List Expr).length + ([] : List Keyword).length + (if ([] : List Keyword).isEmpty then 0 else 1) < 30)) = true
  line : (apos.endLine == cpos.line) = true
  trees : backTo cpos (starEach [e, f] X.env) = [(false, eval e X.env), (false, eval f X.env)]

/-- a is a dict, whatever its keys -/
def IsD (H : Hp) (a : Addr) : Prop := (∃ kvs, Rd H a (.dK kvs)) ∨ ∃ kvs, Rd H a (.dT kvs)
theorem isD_at {X : Cx} {pins : List (Addr × Obj)} {σ : St} {H : Hp} {s : Shared} {a : Addr} (I : Inv X pins σ H s) (d : IsD H a) :
    s.TypeIs (.ref a) "dict" ∧ (∀ b, Value.ref a = .ref b → ∃ ob, s.heap.get? b = some ob ∧ ob.dict = none) ∧ (a == sysModules) = false := by
  rcases d with ⟨kvs, e⟩ | ⟨kvs, e⟩
  · obtain ⟨_, hd, vs, _, dd⟩ := dk_rd I.hok e
    refine ⟨dd.typeIs, fun b q => ?_, hd⟩
    cases q
    obtain ⟨ob, _, _, h1, h2, _⟩ := dd
    exact ⟨ob, h1, h2.2.1⟩
  · obtain ⟨_, hd, xs, _, dd⟩ := dt_rd I.hok e
    refine ⟨dd.typeIs, fun b q => ?_, hd⟩
    cases q
    obtain ⟨ob, _, _, h1, h2, _⟩ := dd
    exact ⟨ob, h1, h2.2.1⟩

section
variable {X : Cx} {pins : List (Addr × Obj)} {σ : St} {H : Hp} {s : Shared} {a : Addr} {y d : V} {u r : Value} {o : Option V} {A : Around} {E : Value → Shared → Prop}
/-- d.get(y, x) -/
theorem d_get2 {Q : Value → Shared → Prop} (hu : A.units + 1 < cLine) (I : Inv X pins σ H s) (g : DGet H a y o) (ry : RelV y u) (rd : RelV d r) (h : ∀ w' s', Inv X pins σ H s' → RelV (o.getD d) w' → Q w' s') :
    wpAny (model X.prog X.w) A (call (.builtin "dict.get") [.ref a, u, r]) Q E s := by
  rcases g with ⟨kvs, k, e, ey, l⟩ | ⟨kvs, k, b, e, ey, eb, l⟩
  · subst ey
    obtain ⟨z, hd, vs, rel, dd⟩ := dk_rd I.hok e
    refine call_meetsIn PySem.F.slot_dict_get dd.typeIs PySem.F.entry_dict_get (PySem.F.args_dict_get_3 _ _ _) (meets_dict_get_default (mixKind X.prog X.w) a (kV_is ry) hd r) ⟨_, dd.mapOf, h _ _ (I.tok _) ?_⟩
    rw [l]
    exact (rel.val k).getD rd
  · subst ey
    cases (show u = Value.ref b from ry)
    obtain ⟨z, hd, xs, rel, dd⟩ := dt_rd I.hok e
    refine call_meetsIn PySem.F.slot_dict_get dd.typeIs PySem.F.entry_dict_get (PySem.F.args_dict_get_3 _ _ _) (meetsH_dict_get_default (tupleKind (mixKind X.prog X.w)) a b hd r) ⟨tupleKind_room_in1 hu, k, xs, key_of I.hok eb, dd, h _ _ (I.tok _) ?_⟩
    rw [l]
    exact (rel.val k).getD rd
end

def tDGet1 (td ty : TE) : TE := fun σ H Q => td σ H fun x H1 => ∃ a, x = .ref a ∧ IsD H1 a ∧ ty σ H1 fun y H2 => ∃ o, DGet H2 a y o ∧ Q (o.getD .non) H2
def tDGet2 (td ty tx : TE) : TE := fun σ H Q => td σ H fun x H1 => ∃ a, x = .ref a ∧ IsD H1 a ∧ ty σ H1 fun y H2 => tx σ H2 fun z H3 => ∃ o, DGet H3 a y o ∧ Q (o.getD z) H3
/-- d.pop(k): there; d.pop(k, x): there or not -/
def tDPop1 (td ty : TE) : TE := fun σ H Q => td σ H fun x H1 => ∃ a, x = .ref a ∧ IsD H1 a ∧ ty σ H1 fun y H2 => ∃ kvs k v, H2 a = some (.dK kvs) ∧ y = kV k ∧ valV kvs k = some v ∧ Q v (upd H2 a (.dK (dropK kvs k)))
def tDPop2 (td ty tx : TE) : TE := fun σ H Q => td σ H fun x H1 => ∃ a, x = .ref a ∧ IsD H1 a ∧ ty σ H1 fun y H2 => tx σ H2 fun z H3 => ∃ kvs k, H3 a = some (.dK kvs) ∧ y = kV k ∧
  (∀ v, valV kvs k = some v → Q v (upd H3 a (.dK (dropK kvs k)))) ∧ (valV kvs k = none → Q z H3)
section
variable {X : Cx} {o e f : Expr} {apos cpos : Pos} {td ty tx : TE}
theorem pe_dget2 (hu : X.A.units + 1 < cLine) (ho : PE X o td) (he : PE X e ty) (hf : PE X f tx) (m : M2 X o "get" apos e f cpos) : PE X (.Call (.Attribute o "get" apos) [e, f] [] cpos) (tDGet2 td ty tx) := by
  intro pins s σ H Q I h
  refine wpAny_Call_method m.base m.few m.line PySem.F.plainAttrs_dict PySem.F.slot_dict_get PySem.F.type_dict_get (thn (ho pins s σ H _ I h) fun u s1 ⟨x, H1, I1, rx, a, ex, d, q1⟩ => ?_)
  subst ex
  obtain rfl : u = Value.ref a := rx
  obtain ⟨t1, t2, _⟩ := isD_at I1 d
  refine ⟨t1, t2, ?_⟩
  rw [m.trees]
  refine Calls.callWith_builtin rfl (Calls.evalArgs_plain (Calls.spliced_cons (thn (he pins s1 σ H1 _ I1 q1) fun iv s2 ⟨y, H2, I2, ry, q2⟩ =>
    Calls.spliced_cons (thn (hf pins s2 σ H2 _ I2 q2) fun fv s3 ⟨z, H3, I3, rz, ov, g, q3⟩ => Calls.spliced_nil ?_))))
  exact d_get2 hu I3 g ry rz fun w' s4 I4 rw' => ⟨_, H3, I4, rw', q3⟩
end

/-! ### dict(d): a copy -/
section
variable {X : Cx} {pins : List (Addr × Obj)} {σ : St} {H : Hp} {s : Shared} {a : Addr} {kvs : List (Key × V)} {A : Around} {E : Value → Shared → Prop}
end


section
variable {X : Cx} {pins : List (Addr × Obj)} {σ : St} {H : Hp} {s : Shared} {a : Addr} {y : V} {u : Value} {A : Around} {E : Value → Shared → Prop}
end
end L2

namespace L2
open PySem PySem.Spec PyProof.Rows
section
variable {X : Cx}
end
/-! ### a dict's pairs: keys that differ -/
section
variable {κ : Type} [DecidableEq κ]
end
end L2

set_option linter.all false
set_option maxRecDepth 100000
set_option maxHeartbeats 4000000
/-! for i, x in enumerate(a list); join. -/
namespace L2
open PySem PySem.Spec PyProof.Rows
section
variable {X : Cx} {pins : List (Addr × Obj)} {σ : St} {H : Hp} {s : Shared} {h' : Heap}
/-- untracked records of ours have turned -/
theorem Inv.turnedL {t' : Nat} {ch : List Addr} (I : Inv X pins σ H s) (k : ∀ b o, b ∉ ch → s.heap.get? b = some o → h'.get? b = some o) (hf : ∀ b ∈ ch, FpOk X pins H b) : Inv X pins σ H { s with heap := h', toks := t' } := by
  have nit : ∀ b u, H b = some u → b ∉ ch := fun b u e z => by rw [(hf b z).1] at e; cases e
  refine I.step (g' := s.gens) (d' := s.drawn) (ch := ch) (fun b hb => ⟨(hf b hb).2.2.2.1, (hf b hb).2.1, (hf b hb).2.2.2.2.1, (hf b hb).2.2.2.2.2⟩) (fun b o _ _ hc e _ => k b o hc e) (fun b o _ _ hc e _ => ⟨o.slots, k b o hc e⟩) (fun _ _ _ _ n => n)
    (fun b o hc e => ⟨o, k b o hc e⟩) (fun _ _ e => e) (fun _ _ _ e => e) (fun b ps e => ⟨#[], by rw [e]; simp⟩) (fun m hm => ?_) (fun b u e => ?_) I.bare
  · obtain ⟨o, es, ep, ho, r⟩ := hm
    exact ⟨o, es, ep, k _ o (fun z => (hf _ z).2.1 rfl) ho, r⟩
  · refine (I.hok b u e).stay (fun c v hc q => k c v ?_ q) (fun _ q => q) fun _ _ q => q
    rcases hc with z | z
    · rw [z]; exact nit b u e
    · exact nit c _ z
end

def Ite (K : PySem.W.Frag) (a : Addr) : It :=
  ⟨fun i H => ∃ xs x, SqL K H a xs ∧ xs[i]? = some x, fun i H x H' => ∃ p v, x = .ref p ∧ H p = none ∧ H' = upd H p (.tup [.int (i : Int), v]) ∧ ∀ xs, SqL K H a xs → xs[i]? = some v, fun i H => ∃ xs, SqL K H a xs ∧ xs.length ≤ i⟩
theorem turn_enum {P : Program} {w : World} {K : PySem.W.Frag} {elts : List Expr} {x1} {pos : Pos} (a e it : Addr) (hne : e ≠ it) :
    Turn P w K (.Tuple elts x1 pos) (Ite K a) [e, it] e (fun i h => ∃ old, IsEnum h e it (i : Int) old ∧ h.IsListIter it a i) where
  mem := by simp
  obj := fun i h st b hb => by
    obtain ⟨old, he, o, e1, c, d⟩ := st
    have hb' : b = e ∨ b = it := by simpa using hb
    rcases hb' with rfl | rfl
    · exact ⟨_, he, fun v z => by
        have z' : Data.fields _ = Data.cell v := z
        cases z'⟩
    · exact ⟨o, e1, fun v z => by rw [d] at z; cases z⟩
  keep := fun i h h' st k => by
    obtain ⟨old, he, hi⟩ := st
    exact ⟨old, k e (by simp) _ he, hi.at fun o q => k it (by simp) o q⟩
  item := by
    intro X hP hw hK hc i pins s σ H E I hf st hg
    subst hP hw hK
    obtain ⟨xs, x, hq, hx⟩ := hg
    obtain ⟨old, he, hit⟩ := st
    obtain ⟨its, rv, p, hz⟩ := I.list hq
    obtain ⟨u, hu, ru⟩ := rv.get hx
    refine wpAny_pyNext_enum_item he hit p.isList (x := u) (by simpa using hu) hne fun h1 eo hit1 ht hz1 hk1 => ?_
    refine ⟨_, rfl, wpAny_letOwnedTupleGo_enum (s := { s with heap := h1, toks := s.toks + 1 }) eo fun h2 he2 hs2 => ?_⟩
    have hs2' : Heap.SameBut e h1 h2 := hs2
    have nH : H s.heap.objs.size = none := I.hok.fresh (Nat.le_refl _)
    have eL : e < s.heap.objs.size := Heap.lt_size he
    obtain ⟨oi, hoi, ci, di⟩ := id hit
    have iL : it < s.heap.objs.size := Heap.lt_size hoi
    have ht2 : h2.get? s.heap.objs.size = some { cls := .type "tuple", data := .seq #[.int i s.toks, u] } := (hs2'.2 _ (Nat.ne_of_gt eL)).trans ht
    have pg : (s.heap.push { cls := .type "tuple", data := .seq #[.int i s.toks, u] }).get? s.heap.objs.size = some { cls := .type "tuple", data := .seq #[.int i s.toks, u] } := Heap.get?_push_size _ rfl
    have J1 := I.laid (a := s.heap.objs.size) (o := .tup [.int (i : Int), x]) (h' := s.heap.push { cls := .type "tuple", data := .seq #[.int i s.toks, u] }) (t' := s.toks) (fun b v z => Heap.get?_push_of_some _ z) (Nat.le_refl _)
      ⟨(by show 2 ≤ sizeLine; decide), [.int i s.toks, u], .cons ⟨_, rfl⟩ (.cons ru .nil), ⟨_, pg, rfl, _, rfl⟩⟩
    have fp' : ∀ b ∈ [e, it], FpOk X pins (upd H s.heap.objs.size (.tup [.int (i : Int), x])) b := fun b hb => by
      obtain ⟨f0, f1, f2, f3, f4, f5⟩ := hf b hb
      have hb' : b = e ∨ b = it := by simpa using hb
      refine ⟨?_, f1, f2, f3, f4, f5⟩
      rw [upd_ne (by rcases hb' with rfl | rfl; exact Nat.ne_of_lt eL; exact Nat.ne_of_lt iL)]
      exact f0
    have J2 := J1.turnedL (h' := h2) (t' := s.toks + 1) (ch := [e, it]) (fun b o hb z => by
      have n1 : b ≠ e := fun y => hb (by simp [y])
      have n2 : b ≠ it := fun y => hb (by simp [y])
      by_cases hp : b = s.heap.objs.size
      · subst hp
        have z' : s.heap.objs.size = s.heap.objs.size → (s.heap.push { cls := .type "tuple", data := .seq #[.int i s.toks, u] }).get? s.heap.objs.size = some o := fun _ => z
        rw [pg] at z'
        have := z' rfl
        cases this
        exact ht2
      · have z2 : s.heap.get? b = some o := get_push_ne z hp
        exact (hs2'.2 b n1).trans (hk1 b o n1 n2 z2)) fp'
    refine ⟨.ref s.heap.objs.size, _, J2, rfl, ⟨_, x, rfl, nH, rfl, fun ys hy => by rw [I.list_inj hy hq]; exact hx⟩, ⟨u, ?_, ?_⟩, fun b hb => (fp' b hb).1⟩
    · have e1 : ((i : Int) + 1) = ((i + 1 : Nat) : Int) := by omega
      rw [← e1]
      exact he2
    · exact hit1.at fun o q => (hs2'.2 it (Ne.symm hne)).trans q
  done := by
    intro X hP hw hK hc i pins s σ H E I hf st hg
    subst hP hw hK
    obtain ⟨xs, hq, hx⟩ := hg
    obtain ⟨old, he, hit⟩ := st
    obtain ⟨its, rv, p, hz⟩ := I.list hq
    have hl := rv.length
    refine wpAny_pyNext_enum_end (I.ok.hd hc) he hit p.isList (by simp; omega) fun h' eb => ⟨rfl, I.turnedL (t' := s.toks) (ch := [e, it]) (fun b o hb z => eb b o (fun y => hb (by simp [y])) z) hf⟩
  self := fun _ _ _ _ _ st h => by
    obtain ⟨old, he, _⟩ := st
    exact wpAny_pyIter_enum he h
def iEnum (K : PySem.W.Frag) (ta : TA) : TI := fun σ H R => ta σ H fun vs H1 => ∃ a, vs = [.ref a] ∧ (∃ xs, SqL K H1 a xs) ∧ R (Ite K a) H1
section
variable {X : Cx}
theorem pi_enum {elts : List Expr} {x1} {tpos p pos : Pos} {a : Expr} {ta : TA} (hg : Gl X "enumerate") (hm : X.mg "enumerate" = none) (hbt : bootBuiltins "enumerate" = some (.type "enumerate")) (ha : PA X [a] ta) (hs : starEach [a] X.env = [(false, eval a X.env)] := by rfl) :
    PI X (.Tuple elts x1 tpos) (.Call (.Name "enumerate" p) [a] [] pos) (iEnum X.K ta) := by
  intro pins s σ H R I h
  refine Call_ (ld_blt I hg hm hbt (PyProof.Rows.callWith_type1 (thn (ha pos pins s σ H _ I h) fun us s1 ⟨vs, H1, I1, r1, q1⟩ => ?_) hs rfl))
  obtain ⟨a, rfl, ⟨xs, hq⟩, q⟩ := q1
  obtain ⟨u, rfl, ru⟩ := vals1 r1
  cases ru
  obtain ⟨its, rv, pl, hz⟩ := I1.list hq
  refine call_enumerate_list pl.isList fun h' he hi hsz hk => ?_
  refine wpAny_pyIter_enum he ?_
  have I2 : Inv X pins σ H1 { s1 with heap := h' } := I1.kept (t' := s1.toks) hk
  refine ⟨s1.heap.objs.size + 1, [s1.heap.objs.size + 1, s1.heap.objs.size], _, _, H1, rfl, I2, turn_enum a _ _ (Nat.succ_ne_self _), ⟨_, he, hi⟩, fun b hb => ?_, q⟩
  have hb' : b = s1.heap.objs.size + 1 ∨ b = s1.heap.objs.size := by simpa using hb
  rcases hb' with rfl | rfl
  · exact I1.fpOk (Nat.le_succ _) (I1.hok.fresh (Nat.le_succ _))
  · exact I1.fpOk (Nat.le_refl _) (I1.hok.fresh (Nat.le_refl _))
theorem for_enum {K : PySem.W.Frag} {a : Addr} {xs : List V} {g : TG} {tb : TS} {D : Ends} {σ : St} {H : Hp} (Pv : Nat → St → Hp → Prop) (h0 : Pv 0 σ H) (hl : ∀ i σ H, i ≤ xs.length → Pv i σ H → SqL K H a xs)
    (hs : ∀ i x σ H p, xs[i]? = some x → Pv i σ H → H p = none → g (.ref p) σ (upd H p (.tup [.int (i : Int), x])) fun σ2 H2 => tb { D with nx := Pv (i + 1), ct := Pv (i + 1), bk := D.nx } σ2 H2) (hd : ∀ σ H, Pv xs.length σ H → D.nx σ H) :
    ∃ W : Nat → Nat → St → Hp → Prop, (∃ m, W 0 m σ H) ∧ ∀ i m σ H, W i m σ H →
      ((Ite K a).stop i H ∧ D.nx σ H) ∨ ((Ite K a).go i H ∧ ∃ N : St → Hp → Prop, (∀ σ' H', N σ' H' → ∃ m', m' < m ∧ W (i + 1) m' σ' H') ∧ ∀ x H', (Ite K a).yld i H x H' → g x σ H' fun σ2 H2 => tb { D with nx := N, ct := N, bk := D.nx } σ2 H2) := by
  refine ⟨fun i m σ H => m = xs.length - i ∧ i ≤ xs.length ∧ Pv i σ H, ⟨xs.length, by simp, Nat.zero_le _, h0⟩, ?_⟩
  rintro i m σ H ⟨rfl, hi, p⟩
  have q := hl i σ H hi p
  by_cases hlt : i < xs.length
  · refine .inr ⟨⟨xs, xs[i], q, by simp [hlt]⟩, Pv (i + 1), fun σ' H' p' => ⟨xs.length - (i + 1), by omega, rfl, hlt, p'⟩, fun x H' y => ?_⟩
    obtain ⟨pp, v, rfl, hn, rfl, y⟩ := y
    exact hs i v σ H pp (y xs q) p hn
  · have e : i = xs.length := by omega
    subst e
    exact .inl ⟨⟨xs, q, Nat.le_refl _⟩, hd σ H p⟩
end
end L2

set_option linter.all false
set_option maxRecDepth 100000
set_option maxHeartbeats 4000000
namespace L2
open PySem PySem.Spec PyProof.Rows
section
variable {X : Cx}
def rJoin (K : PySem.W.Frag) : V → List V → Hp → VK → Prop := fun x vs H Q => ∃ z p l, x = .str z ∧ vs = [.ref p] ∧ SqL K H p (l.map V.str) ∧ JoinOk z l = true ∧ Q (.str (Txt.join z l)) H
end
end L2

set_option linter.all false
set_option maxRecDepth 100000
namespace L2
open PySem PySem.Spec PyProof.Rows
def nostar : Expr → Bool
  | .Starred _ _ => false
  | _ => true
theorem star_plain {e : Expr} {es : List Expr} {env : Env} (h : nostar e = true) : starEach (e :: es) env = (false, eval e env) :: starEach es env := by
  cases e <;> first | rfl | cases h
theorem any_plain {env : Env} {pos : Pos} : ∀ {es : List Expr}, es.all nostar = true → (backTo pos (starEach es env)).any (·.1) = false
  | [], _ => rfl
  | e :: es, h => by
    rw [List.all_cons, Bool.and_eq_true] at h
    rw [star_plain h.1]
    show (false || (backTo pos (starEach es env)).any (·.1)) = false
    rw [any_plain h.2]
    rfl
section
variable {X : Cx}
/-- a name in its slot, a plain local: the kernel looks it up -/
theorem pw' (i : Nat) {x : Str} {pos : Pos} (hN : X.N[i]? = some x := by kernel_rfl) (hv : X.env.scope.names.lookup x = some .local := by kernel_rfl) (hd : (x == ("__debug__" : Str)) = false := by kernel_rfl)
    (hcd : (x == ("__classdict__" : Str)) = false := by kernel_rfl) : PE X (.Name x pos) (tVar i) := pe_var hN (.inl hv) hd hcd
/-- .. a cell -/
theorem pc' (i : Nat) {x : Str} {pos : Pos} (hN : X.N[i]? = some x := by kernel_rfl) (hv : X.env.scope.names.lookup x = some .cell := by kernel_rfl) (hd : (x == ("__debug__" : Str)) = false := by kernel_rfl)
    (hcd : (x == ("__classdict__" : Str)) = false := by kernel_rfl) : PE X (.Name x pos) (tVar i) := pe_var hN (.inr (.inl hv)) hd hcd
theorem ps_setL {i : Nat} {x : Str} {e : Expr} {te : TE} {pos pos' : Pos} (hN : X.N.Nodup) (he : PE X e te) (hi : X.N[i]? = some x := by kernel_rfl) (hx : X.env.scope.names.lookup x = some .local := by kernel_rfl)
    (hs : swapsWith e (some (.Name x pos')) pos.line X.env = pure false := by kernel_rfl) : PS X (.Assign [.Name x pos'] e pos) (tAsg te (gName i)) := ps_set (i := i) hN hi (.inl hx) he hs (.inr hx)
theorem pg_nameL {i : Nat} {x : Str} {pos : Pos} (hN : X.N.Nodup) (hi : X.N[i]? = some x := by kernel_rfl) (hx : X.env.scope.names.lookup x = some .local := by kernel_rfl) : PG X (.Name x pos) (gName i) := pg_name hN hi (.inl hx) (.inr hx)
theorem pa' {e : Expr} {es : List Expr} {te : TE} {t : TA} (ha : PE X e te) (hr : PA X es t) (hs : nostar e = true := by rfl) : PA X (e :: es) (tCons te t) := pa_cons ha hr (star_plain hs)
theorem pe_callE {CX : CXT} {j k : Nat} {ps : List Str} {sp : Sp} {E : XK} {x : Str} {p pos : Pos} {e : Expr} {es : List Expr} {t : TA} (D : Def X.prog X.w X.K X.mg X.base CX x j ps sp) (hr : Room k X.A) (hx : Passes CX X E) (ha : PA X (e :: es) t) (hj : j ≤ k := by decide) (hg : X.env.kindOf x = some .globalImplicit := by kernel_rfl)
    (hdb : (x == ("__debug__" : Str)) = false := by kernel_rfl) (he : nostar e = true := by rfl) (hpl : es.all nostar = true := by rfl) :
    PE X (.Call (.Name x p) (e :: es) [] pos) (tCall sp [] E t) := pe_callD D hr hx ha hj hg hdb (star_plain he) (any_plain hpl)
theorem pb' {id : String} {r : List V → Hp → VK → Prop} {x : Str} {p pos : Pos} {e : Expr} {es : List Expr} {t : TA} (hc : CallR X (.builtin id) r) (hm : X.mg x = none) (hv : bootBuiltins x = some (.builtin id)) (ha : PA X (e :: es) t) (hg : X.env.kindOf x = some .globalImplicit := by kernel_rfl) (hn : x ≠ "__name__" := by decide) (hdb : (x == ("__debug__" : Str)) = false := by kernel_rfl)
    (he : nostar e = true := by rfl) (hpl : es.all nostar = true := by rfl) : PE X (.Call (.Name x p) (e :: es) [] pos) (tCB r t) := pe_callB hc hg hm hv ha hn hdb (star_plain he) (any_plain hpl)
theorem pt' {T : String} {r : List V → Hp → VK → Prop} {x : Str} {p pos : Pos} {e : Expr} {es : List Expr} {t : TA} (hc : CallR X (.type T) r) (hm : X.mg x = none) (hv : bootBuiltins x = some (.type T)) (ha : PA X (e :: es) t) (hg : X.env.kindOf x = some .globalImplicit := by kernel_rfl) (hn : x ≠ "__name__" := by decide) (hdb : (x == ("__debug__" : Str)) = false := by kernel_rfl)
    (he : nostar e = true := by rfl) (hpl : es.all nostar = true := by rfl) : PE X (.Call (.Name x p) (e :: es) [] pos) (tCB r t) := pe_callTy hc hg hm hv ha hn hdb (star_plain he) (any_plain hpl)
end
end L2

set_option linter.all false
set_option maxRecDepth 100000
set_option maxHeartbeats 4000000
set_option autoImplicit true
set_option relaxedAutoImplicit true
/-! The layer's rules behind plain structures: nothing unfolds while a term of rules is elaborated. -/
namespace L2
open PySem PySem.Spec PyProof.Rows
structure QE (X : Cx) (e : Expr) (t : TE) : Prop where
  h : PE X e t
structure QT (X : Cx) (e : Expr) (t : TT) : Prop where
  h : PT X e t
structure QW (X : Cx) (e : Expr) (t : TT) : Prop where
  h : PW X e t
structure QA (X : Cx) (es : List Expr) (t : TA) : Prop where
  h : PA X es t
structure QS (X : Cx) (st : Stmt) (t : TS) : Prop where
  h : PS X st t
structure QSs (X : Cx) (st : List Stmt) (t : TS) : Prop where
  h : PSs X st t
structure QG (X : Cx) (e : Expr) (t : TG) : Prop where
  h : PG X e t
structure QGs (X : Cx) (es : List Expr) (t : TGs) : Prop where
  h : PGs X es t
structure QO (X : Cx) (e : Option Expr) (t : TO) : Prop where
  h : PO X e t
structure QI (X : Cx) (tg it : Expr) (t : TI) : Prop where
  h : PI X tg it t
structure QX (X : Cx) (e : Expr) (t : TX) : Prop where
  h : PEX X e t
section
variable {X : Cx}
theorem e_int {i j pos} : QE X (.Constant (.int i) j pos) (tC (.int i)) := ⟨pe_int⟩
theorem e_str {x j pos} : QE X (.Constant (.str x) j pos) (tC (.str x)) := ⟨pe_str⟩
theorem e_bl {b j pos} : QE X (.Constant (.bool b) j pos) (tC (.bl b)) := ⟨pe_bl⟩
theorem e_v (i : Nat) {x : Str} {pos : Pos} (hN : X.N[i]? = some x := by kernel_rfl) (hv : X.env.scope.names.lookup x = some .local := by kernel_rfl) (hd : (x == ("__debug__" : Str)) = false := by kernel_rfl) (hcd : (x == ("__classdict__" : Str)) = false := by kernel_rfl) : QE X (.Name x pos) (tVar i) := ⟨pw' i hN hv hd hcd⟩
theorem e_c (i : Nat) {x : Str} {pos : Pos} (hN : X.N[i]? = some x := by kernel_rfl) (hv : X.env.scope.names.lookup x = some .cell := by kernel_rfl) (hd : (x == ("__debug__" : Str)) = false := by kernel_rfl) (hcd : (x == ("__classdict__" : Str)) = false := by kernel_rfl) : QE X (.Name x pos) (tVar i) := ⟨pc' i hN hv hd hcd⟩
/-- within a comprehension: its own name, or one from around it -/
theorem e_n (i : Nat) {x : Str} {pos : Pos} (hN : X.N[i]? = some x := by rfl) (hv : Vis X.env.scope x := by first | exact Or.inl rfl | exact Or.inr (Or.inl rfl) | exact Or.inr (Or.inr rfl)) (hd : (x == ("__debug__" : Str)) = false := by kernel_rfl) (hcd : (x == ("__classdict__" : Str)) = false := by kernel_rfl) : QE X (.Name x pos) (tVar i) := ⟨pe_var hN hv hd hcd⟩
theorem e_op {op : Operator} {r : R2} {a b : Expr} {ta tb : TE} {pos : Pos} (ho : OpR X (binaryOp op) r) (ha : QE X a ta) (hb : QE X b tb) : QE X (.BinOp a op b pos) (tOp r ta tb) := ⟨pe_op ho ha.h hb.h⟩
theorem e_un {op : UnaryOp} {r : V → Hp → VK → Prop} {a : Expr} {ta : TE} {pos : Pos} (ho : UnR X (unaryOp op) r) (ha : QE X a ta) : QE X (.UnaryOp op a pos) (tUn r ta) := ⟨pe_un ho ha.h⟩
theorem e_cmp {op : CmpOp} {r : R2} {a b : Expr} {ta tb : TE} {pos : Pos} (ho : OpR X (compareOp op) r) (ha : QE X a ta) (hb : QE X b tb) (hm : behindInMarks op b = false := by first | exact nomark _ | with_unfolding_all rfl) : QE X (.Compare a [op] [b] pos) (tOp r ta tb) := ⟨pe_cmpR ho ha.h hb.h hm⟩
theorem t_cmp {op : CmpOp} {r : R2} {a b : Expr} {ta tb : TE} {pos : Pos} (ho : OpR X (compareOp op) r) (ha : QE X a ta) (hb : QE X b tb) (hm : behindInMarks op b = false := by first | exact nomark _ | with_unfolding_all rfl) : QT X (.Compare a [op] [b] pos) (tTest (tOp r ta tb)) := ⟨pt_cmpR ho ha.h hb.h hm⟩
theorem t_chain {op op' : CmpOp} {r r' : R2} {a b c : Expr} {ta tb tc : TE} {pos : Pos} (ho : OpR X (compareOp op) r) (ho' : OpR X (compareOp op') r') (ha : QE X a ta) (hb : QE X b tb) (hc : QE X c tc) (hm : lastMarks [op, op'] [b, c] = false := by with_unfolding_all rfl) :
    QT X (.Compare a [op, op'] [b, c] pos) (tTest (tChain r r' ta tb tc)) := ⟨pt_chain ho ho' ha.h hb.h hc.h hm⟩
theorem t_val {e : Expr} {t : TE} (h : QE X e t) (he : ∀ whole, isTrue e X.env whole = (do let v ← whole; standAt e.pos; holding [v] (truthy v)) := by intro _; rfl) : QT X e (tB t) := ⟨pt_val h.h he⟩
theorem t_w {e : Expr} {t : TT} (h : QW X e t) : QT X e t := ⟨PW.pt h.h⟩
theorem w_and1 {a : Expr} {t : TT} {pos} (h : QT X a t) : QW X (.BoolOp .And [a] pos) t := ⟨pw_and1 h.h⟩
theorem w_or1 {a : Expr} {t : TT} {pos} (h : QT X a t) : QW X (.BoolOp .Or [a] pos) t := ⟨pw_or1 h.h⟩
theorem w_and {a b : Expr} {rest : List Expr} {t u : TT} {pos} (ha : QT X a t) (hb : QW X (.BoolOp .And (b :: rest) pos) u) : QW X (.BoolOp .And (a :: b :: rest) pos) (tAnd t u) := ⟨pw_and ha.h hb.h⟩
theorem w_or {a b : Expr} {rest : List Expr} {t u : TT} {pos} (ha : QT X a t) (hb : QW X (.BoolOp .Or (b :: rest) pos) u) : QW X (.BoolOp .Or (a :: b :: rest) pos) (tOr t u) := ⟨pw_or ha.h hb.h⟩
theorem e_if {c a b : Expr} {t : TT} {ta tb : TE} {pos} (hc : QT X c t) (ha : QE X a ta) (hb : QE X b tb) : QE X (.IfExp c a b pos) (tIf t ta tb) := ⟨pe_ifExp hc.h ha.h hb.h⟩
theorem a_nil : QA X [] tNil := ⟨pa_nil⟩
theorem a_cons {e : Expr} {es : List Expr} {te : TE} {t : TA} (ha : QE X e te) (hr : QA X es t) (hs : nostar e = true := by rfl) : QA X (e :: es) (tCons te t) := ⟨pa' ha.h hr.h hs⟩
theorem e_lst {es : List Expr} {t : TA} {pos} (h : QA X es t) : QE X (.List es pos) (tLst t) := ⟨pe_lst h.h⟩
theorem e_tup {es : List Expr} {t : TA} {x1 pos} (h : QA X es t) : QE X (.Tuple es x1 pos) (tTup t) := ⟨pe_tup h.h⟩
theorem e_ix {r : R2} {a b : Expr} {ta tb : TE} {pos} (hr : IxR X r) (ha : QE X a ta) (hb : QE X b tb) (hs : PlainIx b := by exact fun _ _ => rfl) : QE X (.Subscript a b pos) (tOp r ta tb) := ⟨pe_ix hr ha.h hb.h hs⟩
theorem o_none : QO X none tNoPart := ⟨po_none⟩
theorem o_some {e : Expr} {t : TE} (h : QE X e t) : QO X (some e) (tPart t) := ⟨po_some h.h⟩
theorem e_sl {r : V → Option Int → Option Int → Hp → VK → Prop} {e : Expr} {lo hi : Option Expr} {te : TE} {tl th : TO} {p2 pos} (hr : SlR X r) (he : QE X e te) (hl : QO X lo tl) (hu : QO X hi th) : QE X (.Subscript e (.Slice lo hi none p2) pos) (tSl r te tl th) := ⟨pe_slice hr he.h hl.h hu.h⟩
theorem e_call {CX : CXT} {j k : Nat} {ps : List Str} {sp : Sp} {E : XK} {x : Str} {p pos : Pos} {e : Expr} {es : List Expr} {t : TA} (D : Def X.prog X.w X.K X.mg X.base CX x j ps sp) (hr : Room k X.A) (hx : Passes CX X E) (ha : QA X (e :: es) t) (hj : j ≤ k := by decide) (hg : X.env.kindOf x = some .globalImplicit := by kernel_rfl)
    (hdb : (x == ("__debug__" : Str)) = false := by kernel_rfl) (he : nostar e = true := by rfl) (hpl : es.all nostar = true := by rfl) : QE X (.Call (.Name x p) (e :: es) [] pos) (tCall sp [] E t) := ⟨pe_callE D hr hx ha.h hj hg hdb he hpl⟩
theorem e_b {id : String} {r : List V → Hp → VK → Prop} {x : Str} {p pos : Pos} {e : Expr} {es : List Expr} {t : TA} (hc : CallR X (.builtin id) r) (hm : X.mg x = none) (hv : bootBuiltins x = some (.builtin id)) (ha : QA X (e :: es) t) (hg : X.env.kindOf x = some .globalImplicit := by kernel_rfl) (hn : x ≠ "__name__" := by decide) (hdb : (x == ("__debug__" : Str)) = false := by kernel_rfl)
    (he : nostar e = true := by rfl) (hpl : es.all nostar = true := by rfl) : QE X (.Call (.Name x p) (e :: es) [] pos) (tCB r t) := ⟨pb' hc hm hv ha.h hg hn hdb he hpl⟩
theorem e_t {T : String} {r : List V → Hp → VK → Prop} {x : Str} {p pos : Pos} {e : Expr} {es : List Expr} {t : TA} (hc : CallR X (.type T) r) (hm : X.mg x = none) (hv : bootBuiltins x = some (.type T)) (ha : QA X (e :: es) t) (hg : X.env.kindOf x = some .globalImplicit := by kernel_rfl) (hn : x ≠ "__name__" := by decide) (hdb : (x == ("__debug__" : Str)) = false := by kernel_rfl)
    (he : nostar e = true := by rfl) (hpl : es.all nostar = true := by rfl) : QE X (.Call (.Name x p) (e :: es) [] pos) (tCB r t) := ⟨pt' hc hm hv ha.h hg hn hdb he hpl⟩
theorem e_append {o e : Expr} {to te : TE} {apos cpos : Pos} (ho : QE X o to) (ha : QE X e te) (hs : nostar e = true := by rfl) (hbase : attributeBase o "append" X.env (eval o X.env) = eval o X.env := by rfl) (hline : (apos.endLine == cpos.line) = true := by rfl) :
    QE X (.Call (.Attribute o "append" apos) [e] [] cpos) (tBM X.K "list" rAppend to (tCons te tNil)) := ⟨pe_bm PySem.F.plainAttrs_list PySem.F.slot_list_append PySem.F.type_list_append mt_append ho.h (pa' ha.h pa_nil hs) hbase (by rw [star_plain hs]; rfl) hline (star_plain hs)⟩
theorem e_dnew {pos} : QE X (.Dict [] [] pos) tDNewK := ⟨pe_dnewK⟩
/-! statements -/
theorem ss_nil : QSs X [] tNext := ⟨pss_nil⟩
theorem ss_cons {st : Stmt} {rest : List Stmt} {t u : TS} (h1 : QS X st t) (h2 : QSs X rest u) : QSs X (st :: rest) (tSeq t u) := ⟨pss_cons h1.h h2.h⟩
theorem ss_one {st : Stmt} {t : TS} (h1 : QS X st t) : QSs X [st] t := ⟨pss_one h1.h⟩
theorem s_set {i : Nat} {x : Str} {e : Expr} {te : TE} {pos pos' : Pos} (hN : X.N.Nodup) (he : QE X e te) (hi : X.N[i]? = some x := by kernel_rfl) (hx : X.env.scope.names.lookup x = some .local := by kernel_rfl)
    (hs : swapsWith e (some (.Name x pos')) pos.line X.env = pure false := by kernel_rfl) : QS X (.Assign [.Name x pos'] e pos) (tAsg te (gName i)) := ⟨ps_setL (i := i) hN he.h hi hx hs⟩
theorem s_asg {tg e : Expr} {te : TE} {g : TG} {pos} (he : QE X e te) (hg : QG X tg g) (hs : swapsWithSole [tg] e pos.line X.env = pure false := by rfl) (hw : swappedStores [tg] e X.env = pure none := by rfl)
    (h1 : (assignEach [tg] X.env).map (·.2) = [assign tg X.env] := by rfl) : QS X (.Assign [tg] e pos) (tAsg te g) := ⟨ps_asg he.h hg.h hs hw h1⟩
theorem s_if {c : Expr} {a b : List Stmt} {tc : TT} {t u : TS} {pos} (hc : QT X c tc) (ha : QSs X a t) (hb : QSs X b u) : QS X (.If c a b pos) (tIfS tc t u) := ⟨ps_if hc.h ha.h hb.h⟩
theorem s_for {tg iter : Expr} {body : List Stmt} {wi : TI} {g : TG} {tb : TS} {pos} (hp : PassesOwn (model X.prog X.w) X.A X.env X.xe) (hc : X.calm = true) (hi : QI X tg iter wi) (hg : QG X tg g) (hb : QSs X body tb)
    (hs : ∀ x, foldedSetIterable iter X.env x = pure x := by intro _; rfl) : QS X (.For tg iter body [] pos) (tFor wi g tb) := ⟨ps_for hp hc hi.h hg.h hb.h hs⟩
theorem s_ret {e : Expr} {t : TE} {pos} (h : QE X e t) : QS X (.Return (some e) pos) (tRet t) := ⟨ps_ret h.h⟩
theorem s_expr {e : Expr} {t : TE} {pos} (h : QE X e t) (hs : swapsWith e none pos.line X.env = pure false := by rfl) : QS X (.Expr e pos) (tDrop t) := ⟨ps_expr h.h hs⟩
theorem s_cut {st : Stmt} {t : TS} (h : QS X st t) : QS X st (tCut t) := ⟨ps_cut h.h⟩
theorem s_dput {o i value : Expr} {td ty tv : TE} {pos pos' : Pos} (hu : X.A.units + 1 < cLine) (ho : QE X o td) (hi : QE X i ty) (hv : QE X value tv) (hs : swapsWith value (some (.Subscript o i pos')) pos.line X.env = pure false := by rfl) : QS X (.Assign [.Subscript o i pos'] value pos) (sDPut td ty tv) := ⟨ps_dput hu ho.h hi.h hv.h hs⟩
theorem g_name {i : Nat} {x : Str} {pos : Pos} (hN : X.N.Nodup) (hi : X.N[i]? = some x := by kernel_rfl) (hx : X.env.scope.names.lookup x = some .local := by kernel_rfl) : QG X (.Name x pos) (gName i) := ⟨pg_nameL hN hi hx⟩
theorem gs_nil : QGs X [] gNil := ⟨pgs_nil⟩
theorem gs_cons {e : Expr} {es : List Expr} {t : TG} {u : TGs} (h1 : QG X e t) (h2 : QGs X es u) (hs : (assignEach (e :: es) X.env).map (·.2) = assign e X.env :: (assignEach es X.env).map (·.2) := by rfl) : QGs X (e :: es) (gCons t u) := ⟨pgs_cons h1.h h2.h hs⟩
theorem g_tup {es : List Expr} {k : Nat} {t : TGs} {n : Nat} {pos} (hc : X.calm = true) (h : QGs X es t) (hn : (assignEach es X.env).length = n := by rfl) (hst : (assignEach es X.env).findIdx? (·.1) = none := by rfl) : QG X (.Tuple es k pos) (gTup X.K n t) := ⟨pg_tup hc h.h hn hst⟩
theorem i_list {tg l : Expr} {t : TE} (h : QE X l t) : QI X tg l (iList X.K t) := ⟨pi_list h.h⟩
theorem i_rng1 {tg a : Expr} {t : TE} {p pos : Pos} (hm : X.mg "range" = none) (ha : QE X a t) (hg : X.env.kindOf "range" = some .globalImplicit := by kernel_rfl) (hs : nostar a = true := by rfl) : QI X tg (.Call (.Name "range" p) [a] [] pos) (iRng1 (tCons t tNil)) := ⟨pi_range1 hg hm (pa' ha.h pa_nil hs) ((star_plain hs).trans rfl)⟩
theorem i_enum {elts : List Expr} {x1} {tpos p pos : Pos} {a : Expr} {t : TE} (hm : X.mg "enumerate" = none) (ha : QE X a t) (hg : X.env.kindOf "enumerate" = some .globalImplicit := by kernel_rfl) (hs : nostar a = true := by rfl) : QI X (.Tuple elts x1 tpos) (.Call (.Name "enumerate" p) [a] [] pos) (iEnum X.K (tCons t tNil)) :=
  ⟨pi_enum hg hm (by decide +kernel) (pa' ha.h pa_nil hs) ((star_plain hs).trans rfl)⟩
end
section
variable {P : Program} {w : World} {K : PySem.W.Frag} {mg : Str → Option Value} {base : Heap} {N : List Str} {qual : Str} {scope : Scope} {f : Addr} {cd : Value} {A : Around} {outer : List Env} {s₀ : Shared} {H₀ : Hp} {E : XK}
end
end L2

set_option linter.all false
set_option maxRecDepth 100000
set_option maxHeartbeats 4000000
namespace L2
open PySem PySem.Spec PyProof.Rows
/-- a class of exceptions with an own __init__, as the written part has it -/
structure InitIn (K : PySem.W.Frag) (C : Addr) (qual : Str) (st : Stmt) : Prop where
  ex : ∃ fI fd, XRaise K C fI ∧ Fun K "__init__" qual st fI fd
  xc : XCls K C
  ek : ExcK K C
  ec : ∃ bm id, ExcC K C bm id
end L2

set_option linter.all false
set_option maxRecDepth 100000
set_option maxHeartbeats 1000000
namespace L2
open PySem PySem.Spec PyProof.Rows
section
variable {X : Cx} {pos : Pos}
/-- (a, b, ..) = a list of that length -/
def gTupL (K : PySem.W.Frag) (n : Nat) (t : TGs) : TG := fun v σ H Q => ∃ a xs, v = .ref a ∧ SqL K H a xs ∧ xs.length = n ∧ t xs σ H Q
end

def tTryE (K : PySem.W.Frag) (j : Nat) (S : Addr) (tx : TX) (ts : Addr → TS) : TS := fun D σ H =>
  tx σ H (fun v H1 => D.nx σ H1) fun cls d H1 => ∃ C bm nid, cls = .ref C ∧ ExcC K C bm nid ∧ (Value.ref C :: bm).contains (.ref S) = true ∧
    ∀ a, H1 a = none → ts a { nx := fun σ' H' => D.nx (σ'.set j none) H', rt := D.rt, bk := fun σ' H' => D.bk (σ'.set j none) H', ct := fun σ' H' => D.ct (σ'.set j none) H' } (σ.set j (some (.ref a))) (upd H1 a (excO a cls d))
section
variable {X : Cx}
end
end L2

set_option linter.all false
set_option maxRecDepth 100000
set_option maxHeartbeats 4000000
namespace G
open PySem L2
abbrev Fine (x : Str) : Prop := PyData.strOk x = true
end G

set_option maxRecDepth 100000
namespace K01
open PySem
/-! Texts of nine signs, cut and put together. -/
abbrev t9 (a b c d e f p g h : Nat) : Str := ⟨#[a, b, c, d, e, f, p, g, h]⟩
end K01

set_option maxRecDepth 100000
namespace K01
open PySem PySem.NumText
def greatS : Str := "ABCDEFGHIJKLMNOPQRSTUVWXYZ"
def figS : Str := "0123456789"
def gr (c : Nat) : Bool := decide (c ∈ greatS.cps.toList)
def dg (c : Nat) : Bool := decide (c ∈ figS.cps.toList)
/-- the edge number of a text -/
def keyOf (x : Str) : Option (Str × Int) := match x.cps.toList with
  | [a, b, c, d, e, f, p, g, h] => if (gr a && gr b && (dg c && dg d && dg e && dg f) && (p == 43) && (dg g && dg h) && decide (digitsVal [g, h] < 16)) = true then some (⟨#[a, b]⟩, ((digitsVal [c, d, e, f] : Nat) : Int) * 16 + ((digitsVal [g, h] : Nat) : Int)) else none
  | _ => none
def shown (a b : Nat) (n : Nat) : Str := t9 a b (48 + n / 16 / 1000) (48 + n / 16 / 100 % 10) (48 + n / 16 / 10 % 10) (48 + n / 16 % 10) 43 (48 + n % 16 / 10) (48 + n % 16 % 10)
end K01

set_option linter.all false
set_option maxRecDepth 100000
set_option maxHeartbeats 4000000
namespace G
open PySem L2
theorem at_list {α : Type} {xs : List α} {i : Int} (h0 : 0 ≤ i) (h : i < (xs.length : Int)) : ∃ v, atI xs i = some v ∧ v ∈ xs := by
  have hj : i.toNat < xs.length := by omega
  have e : i = ((i.toNat : Nat) : Int) := by omega
  have q := atI_nat (List.getElem?_eq_getElem hj)
  rw [← e] at q
  exact ⟨xs[i.toNat], q, List.getElem_mem hj⟩
section
variable {K : PySem.W.Frag}
end
/-- None, an int, a text that is not too long -/
inductive Scal : V → Prop
  | non : Scal .non
  | int (i : Int) : Scal (.int i)
  | str (x : Str) (h : x.length ≤ 1000) (ok : Fine x) : Scal (.str x)
def isStr : V → Bool
  | .str _ => true
  | _ => false
/-- what a scalar is worth -/
def datV : V → PyData
  | .int i => .int i
  | .str x => .str x
  | _ => .none
end G

set_option linter.all false
set_option maxRecDepth 100000
set_option maxHeartbeats 4000000
/-! list(range(..)) of two and three; a list's item stored. -/
namespace L2
open PySem PySem.Spec PyProof.Rows
/-- the whole numbers from i on, n of them, k apart -/
def rngV (i : Int) (n : Nat) (k : Int) : List V := (List.range n).map fun (m : Nat) => V.int (i + (m : Int) * k)
theorem rngV_len {i k : Int} {n : Nat} : (rngV i n k).length = n := by unfold rngV; rw [List.length_map, List.length_range]
theorem vals_rng {i k : Int} : ∀ (n : Nat) (us : List Value) (o : Nat), us.length = n → (∀ (j : Nat) v, us[j]? = some v → ∃ t, v = .int (i + ((o + j : Nat) : Int) * k) t) → Vals ((List.range' o n).map fun (m : Nat) => V.int (i + (m : Int) * k)) us
  | 0, [], _, _, _ => .nil
  | n + 1, u :: us, o, hl, h => by
    rw [List.range'_succ, List.map_cons]
    refine .cons ?_ (vals_rng n us (o + 1) (by simpa using hl) fun j v e => ?_)
    · obtain ⟨t, rfl⟩ := h 0 u rfl
      exact ⟨t, rfl⟩
    · obtain ⟨t, rfl⟩ := h (j + 1) v (by simpa using e)
      exact ⟨t, by rw [show o + 1 + j = o + (j + 1) by omega]⟩
section
variable {X : Cx}
theorem list_rng {pins : List (Addr × Obj)} {σ : St} {H : Hp} {s : Shared} {r : Addr} {a b c : Int} {t u v : Tok} {n : Nat} {Q : VK} {E : Value → Shared → Prop} (hc : X.calm = true) (I : Inv X pins σ H s) (hr : IsRange s.heap r a b c t u v)
    (hsmall : Builtin.Range.small a b c = true) (hn : Builtin.Range.rangeSize a b c = n) (hlen : n ≤ 2 ^ 24) (q : ∀ l, H l = none → Q (.ref l) (upd H l (.lst (rngV a n c)))) :
    wpAny (model X.prog X.w) X.A (call (.type "list") [.ref r]) (EP X pins σ Q) E s := by
  refine call_list_range (I.ok.hd hc) hr hsmall hn hlen fun h' tk acc' c' hk hS' hacc => ?_
  have rv : Vals (rngV a n c) acc'.toList := by
    unfold rngV
    rw [List.range_eq_range']
    refine vals_rng n acc'.toList 0 (by rw [Array.length_toList]; exact hacc.1) fun j v e => ?_
    obtain ⟨t, rfl⟩ := hacc.2 j v (by simpa using e)
    exact ⟨t, by rw [Nat.zero_add]⟩
  have zl := sizeLine_eq
  refine ⟨.ref s.heap.objs.size, _, I.laid (t' := tk) hk (Nat.le_refl _) (show ObjOk X.prog X.w _ h' _ (.lst (rngV a n c)) from ⟨by rw [rngV_len]; omega, acc'.toList, c', rv, by simpa using hS'⟩), rfl, q _ (I.hok.fresh (Nat.le_refl _))⟩
def Small62 (i : Int) : Prop := -(2 ^ 62) ≤ i ∧ i < 2 ^ 62
def tLRng3 (ta : TA) : TE := fun σ H Q => ta σ H fun vs H1 => ∃ i j k : Int, vs = [.int i, .int j, .int k] ∧ Small62 i ∧ Small62 j ∧ ∃ n : Nat, ((k = 1 ∧ n = (j - i).toNat) ∨ (k = -1 ∧ n = (i - j).toNat)) ∧ n ≤ 2 ^ 24 ∧ ∀ l, H1 l = none → Q (.ref l) (upd H1 l (.lst (rngV i n k)))
def tLRng2 (ta : TA) : TE := fun σ H Q => ta σ H fun vs H1 => ∃ i j : Int, vs = [.int i, .int j] ∧ Small62 i ∧ Small62 j ∧ (j - i).toNat ≤ 2 ^ 24 ∧ ∀ l, H1 l = none → Q (.ref l) (upd H1 l (.lst (rngV i (j - i).toNat 1)))
theorem pe_lrng3 {a b c : Expr} {ta : TA} {p p' pos pos' : Pos} (hc : X.calm = true) (hgl : X.env.kindOf "list" = some .globalImplicit) (hml : X.mg "list" = none) (hg : X.env.kindOf "range" = some .globalImplicit) (hm : X.mg "range" = none) (ha : PA X [a, b, c] ta)
    (h1 : nostar a = true) (h2 : nostar b = true) (h3 : nostar c = true) : PE X (.Call (.Name "list" p) [.Call (.Name "range" p') [a, b, c] [] pos'] [] pos) (tLRng3 ta) := by
  intro pins s σ H Q I h
  refine Call_ (ld_blt (u := .type "list") I hgl hml (by decide +kernel) (PyProof.Rows.callWith_type1 ?_ rfl rfl))
  show wpAny _ _ (spliced ((false, eval (.Call (.Name "range" p') [a, b, c] [] pos') X.env) :: backTo pos (starEach [] X.env))) _ _ s
  refine Calls.spliced_cons (Call_ (ld_blt I hg hm boot_range (PyProof.Rows.callWith_type1 (thn (ha pos' pins s σ H _ I h) fun us s1 ⟨vs, H1, I1, r1, q1⟩ => ?_) (star_plain h1) (any_plain (by simp [h2, h3])))))
  obtain ⟨i, j, k, e, si, sj, n, hk, hn, q⟩ := q1
  subst e
  cases r1 with
  | cons r rr =>
    cases rr with
    | cons r' rr =>
      cases rr with
      | cons r'' rr =>
        cases rr
        obtain ⟨t, rfl⟩ := r
        obtain ⟨t', rfl⟩ := r'
        obtain ⟨t'', rfl⟩ := r''
        refine call_range_3 (by omega) ?_ (Or.inl (PyProof.noPylong_small (by omega)))
        refine Calls.spliced_nil ?_
        have I2 : Inv X pins σ H1 { s1 with heap := s1.heap.push { cls := .type "range", data := .fields #[.int i t, .int j t', .int k t''] }, toks := s1.toks } := I1.kept fun b o e => Heap.get?_push_of_some _ e
        refine list_rng hc I2 (IsRange.new ..) ?_ ?_ hn q
        · rcases hk with ⟨rfl, _⟩ | ⟨rfl, _⟩
          · exact small_one si.1 si.2 sj.1 sj.2
          · exact PySem.W.small_down si.1 si.2 sj.1 sj.2
        · rcases hk with ⟨rfl, rfl⟩ | ⟨rfl, rfl⟩
          · exact PyProof.Rows.rangeSize_nat i j
          · exact PySem.W.rangeSize_downNat i j
theorem e_lrng3 {a b c : Expr} {t1 t2 t3 : TE} {p p' pos pos' : Pos} (hc : X.calm = true) (hml : X.mg "list" = none) (hm : X.mg "range" = none) (h1 : QE X a t1) (h2 : QE X b t2) (h3 : QE X c t3) (hgl : X.env.kindOf "list" = some .globalImplicit := by kernel_rfl) (hg : X.env.kindOf "range" = some .globalImplicit := by kernel_rfl)
    (s1 : nostar a = true := by rfl) (s2 : nostar b = true := by rfl) (s3 : nostar c = true := by rfl) : QE X (.Call (.Name "list" p) [.Call (.Name "range" p') [a, b, c] [] pos'] [] pos) (tLRng3 (tCons t1 (tCons t2 (tCons t3 tNil)))) := ⟨pe_lrng3 hc hgl hml hg hm (pa' h1.h (pa' h2.h (pa' h3.h pa_nil s3) s2) s1) s1 s2 s3⟩
theorem g_sub {o i : Expr} {to ti : TE} {pos : Pos} (ho : QE X o to) (hi : QE X i ti)
    (ha : ∀ v, assign (.Subscript o i pos) X.env v = (do
      let ov ← holding [v] (eval o X.env)
      let iv ← holding [v, ov] (eval i X.env)
      standAt pos
      holding [v, ov, iv] (setItem ov iv v)
      release [v, ov, iv] []) := by intro _; rfl) : QG X (.Subscript o i pos) (gSub to ti rSetL) := ⟨pg_sub ho.h hi.h set_list ha⟩
theorem ixN_nat {n j : Nat} (h : j < n) : ixN n (j : Int) = some j := by
  unfold ixN
  simp [h]
theorem ixN_last {n : Nat} (h : 0 < n) : ixN n (-1) = some (n - 1) := by
  unfold ixN
  simp
  omega
end
section
variable {X : Cx} {K : PySem.W.Frag}
/-! rules whose reading names the frozen heap: within a comprehension it is to be named from around it -/
theorem ix_listK (hK : X.K = K) : IxR X (rIxL K) := by subst hK; exact ix_list
end
/-- a term of rules in its place (the plain judgement is never looked into) -/
theorem useQ {X : Cx} {b : List Stmt} {t : TS} {D : Ends} {σ : St} {H : Hp} (h : QSs X b t) (r : t D σ H) : ∃ t, PSs X b t ∧ t D σ H := ⟨t, h.h, r⟩
end L2

set_option linter.all false
set_option maxRecDepth 100000
/-! Clips and strips as numbers: what is taken to which strip. -/
namespace KS
open PySem
structure Clip where
  reel : Str
  a : Int
  b : Int
  f : Int
def Clip.way (c : Clip) : Int := if c.b < c.a then -1 else 1
def Clip.cnt (c : Clip) : Nat := (c.b - c.a).natAbs + 1
def Clip.nums (c : Clip) : List Int := (List.range c.cnt).map fun (m : Nat) => c.a + (m : Int) * c.way
theorem Clip.nums_len (c : Clip) : c.nums.length = c.cnt := by
  unfold Clip.nums
  rw [List.length_map, List.length_range]

/-- a moment: the frame that is seen, the fade that begins with it -/
structure Mo where
  reel : Str
  n : Int
  f : Int
theorem Clip.nums_eq (c : Clip) : c.nums = c.a :: ((List.range (c.cnt - 1)).map fun (m : Nat) => c.a + ((m + 1 : Nat) : Int) * c.way) := by
  unfold Clip.nums
  have e : c.cnt = c.cnt - 1 + 1 := by unfold Clip.cnt; omega
  rw [e, List.range_succ_eq_map, List.map_cons, List.map_map]
  simp
def Clip.ms (c : Clip) : List Mo := match c.nums with
  | [] => []
  | x :: r => ⟨c.reel, x, c.f⟩ :: r.map fun n => ⟨c.reel, n, 0⟩
def moments (cs : List Clip) : List Mo := cs.flatMap Clip.ms
/-- the frame can be the strip's next one -/
def goes (s : Clip) (n : Int) : Prop := if s.a = s.b then (n - s.b).natAbs = 1 else n = s.b + s.way
instance (s : Clip) (n : Int) : Decidable (goes s n) := by unfold goes; exact inferInstance
def can (s : Clip) (m : Mo) : Prop := s.reel = m.reel ∧ goes s m.n
instance (s : Clip) (m : Mo) : Decidable (can s m) := by unfold can; exact inferInstance
/-- the strips so far, the last one first, and one frame more -/
def stepR : List Clip → Mo → List Clip
  | [], m => [⟨m.reel, m.n, m.n, m.f⟩]
  | s :: r, m => if m.f ≤ 0 ∧ can s m then ⟨s.reel, s.a, m.n, s.f⟩ :: r else ⟨m.reel, m.n, m.n, m.f⟩ :: s :: r
theorem stepR_cons (s : Clip) (r : List Clip) (m : Mo) : stepR (s :: r) m = if m.f ≤ 0 ∧ can s m then ⟨s.reel, s.a, m.n, s.f⟩ :: r else ⟨m.reel, m.n, m.n, m.f⟩ :: s :: r := rfl
def stripsR (ms : List Mo) : List Clip := ms.foldl stepR []
def strips (cs : List Clip) : List Clip := (stripsR (moments cs)).reverse
theorem cnt_one {s : Clip} (h : s.a = s.b) : s.cnt = 1 := by unfold Clip.cnt; omega
theorem cnt_two {s : Clip} (h : s.a ≠ s.b) : 2 ≤ s.cnt := by unfold Clip.cnt; omega
/-- the last number -/
theorem nums_last (s : Clip) : s.a + ((s.cnt - 1 : Nat) : Int) * s.way = s.b := by
  unfold Clip.cnt Clip.way
  split <;> omega
/-- one frame more -/
theorem nums_ext {s : Clip} {n : Int} (h : goes s n) : (⟨s.reel, s.a, n, s.f⟩ : Clip).nums = s.nums ++ [n] := by
  unfold goes at h
  have key : (⟨s.reel, s.a, n, s.f⟩ : Clip).cnt = s.cnt + 1 ∧ ((⟨s.reel, s.a, n, s.f⟩ : Clip).way = s.way ∨ s.cnt = 1) ∧ s.a + (s.cnt : Int) * (⟨s.reel, s.a, n, s.f⟩ : Clip).way = n := by
    unfold Clip.cnt Clip.way at *
    simp only at *
    split at h
    · refine ⟨by omega, by omega, ?_⟩
      split <;> omega
    · split at h <;> (refine ⟨by omega, .inl (by split <;> omega), ?_⟩; split <;> omega)
  obtain ⟨k1, k2, k3⟩ := key
  unfold Clip.nums
  rw [k1, List.range_succ, List.map_append, List.map_cons, List.map_nil]
  have k3' : (⟨s.reel, s.a, n, s.f⟩ : Clip).a + (s.cnt : Int) * (⟨s.reel, s.a, n, s.f⟩ : Clip).way = n := k3
  rw [k3']
  congr 1
  rcases k2 with e | e
  · rw [e]
  · rw [e]
    simp
theorem ms_ext {s : Clip} {m : Mo} (h : can s m) (hf : m.f = 0) : (⟨s.reel, s.a, m.n, s.f⟩ : Clip).ms = s.ms ++ [m] := by
  have e := nums_ext h.2
  unfold Clip.ms
  rw [e]
  cases hn : s.nums with
  | nil => rw [Clip.nums_eq] at hn; cases hn
  | cons x r =>
    show _ :: List.map _ (r ++ [m.n]) = (_ :: List.map _ r) ++ [m]
    rw [List.map_append, List.cons_append]
    have : m = ⟨s.reel, m.n, 0⟩ := by
      obtain ⟨mr, mn, mf⟩ := m
      have hf : mf = 0 := hf
      have hr : s.reel = mr := h.1
      rw [hf, hr]
    exact congrArg (fun y => (⟨s.reel, x, s.f⟩ : Mo) :: (List.map (fun n => (⟨s.reel, n, 0⟩ : Mo)) r ++ [y])) this.symm
theorem ms_one (m : Mo) : (⟨m.reel, m.n, m.n, m.f⟩ : Clip).ms = [m] := by
  have e : (⟨m.reel, m.n, m.n, m.f⟩ : Clip).nums = [m.n] := by
    rw [Clip.nums_eq, cnt_one rfl]
    rfl
  unfold Clip.ms
  rw [e]
  rfl
theorem moments_app (a b : List Clip) : moments (a ++ b) = moments a ++ moments b := by unfold moments; rw [List.flatMap_append]
/-- the strips show the frames -/
theorem show_step {r : List Clip} {m : Mo} (hf : 0 ≤ m.f) : moments (stepR r m).reverse = moments r.reverse ++ [m] := by
  cases r with
  | nil =>
    show moments [⟨m.reel, m.n, m.n, m.f⟩] = [m]
    unfold moments
    rw [List.flatMap_cons, List.flatMap_nil, ms_one, List.append_nil]
  | cons s r =>
    rw [stepR_cons]
    split
    · rename_i h
      rw [List.reverse_cons, List.reverse_cons, moments_app, moments_app, List.append_assoc]
      congr 1
      unfold moments
      rw [List.flatMap_cons, List.flatMap_cons, List.flatMap_nil, List.append_nil, List.append_nil]
      exact ms_ext h.2 (by omega)
    · rw [List.reverse_cons, moments_app]
      congr 1
      unfold moments
      rw [List.flatMap_cons, List.flatMap_nil, ms_one, List.append_nil]
theorem show_fold : ∀ (ms : List Mo) (r : List Clip), (∀ m ∈ ms, 0 ≤ m.f) → moments (ms.foldl stepR r).reverse = moments r.reverse ++ ms
  | [], r, _ => by rw [List.append_nil]; rfl
  | m :: ms, r, h => by
    rw [List.foldl_cons, show_fold ms _ fun x hx => h x (List.mem_cons_of_mem _ hx), show_step (h m (List.mem_cons_self ..)), List.append_assoc]
    rfl
theorem ms_f {c : Clip} (h : 0 ≤ c.f) : ∀ m ∈ c.ms, 0 ≤ m.f := by
  intro m hm
  unfold Clip.ms at hm
  cases hn : c.nums with
  | nil => rw [hn] at hm; cases hm
  | cons x r =>
    rw [hn] at hm
    rcases List.mem_cons.mp hm with rfl | hm
    · exact h
    · obtain ⟨y, _, rfl⟩ := List.mem_map.mp hm
      exact Int.le_refl 0
theorem moments_f {cs : List Clip} (h : ∀ c ∈ cs, 0 ≤ c.f) : ∀ m ∈ moments cs, 0 ≤ m.f := by
  intro m hm
  unfold moments at hm
  obtain ⟨c, hc, hm⟩ := List.mem_flatMap.mp hm
  exact ms_f (h c hc) m hm
theorem strips_show {cs : List Clip} (h : ∀ c ∈ cs, 0 ≤ c.f) : moments (strips cs) = moments cs := by
  unfold strips stripsR
  rw [show_fold _ _ (moments_f h)]
  rfl
/-- no strip of FADE 0 but the first begins with a frame that the one ahead of it could have; the last one first -/
def Apart : List Clip → Prop
  | [] => True
  | [_] => True
  | s :: t :: r => (s.f ≤ 0 → t.reel = s.reel → ¬ goes t s.a) ∧ Apart (t :: r)
/-! ### sizes -/
structure MOk (m : Mo) : Prop where
  rl : m.reel.length ≤ 100
  rf : PyData.strOk m.reel = true
  n0 : 0 ≤ m.n
  n1 : m.n ≤ 1000000
  f0 : 0 ≤ m.f
  f1 : m.f ≤ 1000000
structure SOk (c : Clip) : Prop where
  rl : c.reel.length ≤ 100
  rf : PyData.strOk c.reel = true
  a0 : 0 ≤ c.a
  a1 : c.a ≤ 1000000
  b0 : 0 ≤ c.b
  b1 : c.b ≤ 1000000
  f0 : 0 ≤ c.f
  f1 : c.f ≤ 1000000
theorem len_step (r : List Clip) (m : Mo) : (stepR r m).length ≤ r.length + 1 := by
  cases r with
  | nil => exact Nat.le_refl _
  | cons t r =>
    rw [stepR_cons]
    split
    · exact Nat.le_succ _
    · exact Nat.le_refl _
theorem len_fold : ∀ (ms : List Mo) (r : List Clip), (ms.foldl stepR r).length ≤ r.length + ms.length
  | [], r => Nat.le_refl _
  | m :: ms, r => by
    have h1 := len_fold ms (stepR r m)
    have h2 := len_step r m
    rw [List.foldl_cons, List.length_cons]
    omega
theorem ms_len (c : Clip) : c.ms.length = c.cnt := by
  have h := c.nums_len
  unfold Clip.ms
  cases hn : c.nums with
  | nil => rw [Clip.nums_eq] at hn; cases hn
  | cons x r =>
    rw [hn] at h
    rw [← h]
    simp
theorem moments_len {m : Nat} : ∀ (cs : List Clip), (∀ c ∈ cs, c.cnt ≤ m) → (moments cs).length ≤ m * cs.length
  | [], _ => Nat.zero_le _
  | c :: cs, h => by
    have h1 := moments_len cs fun x hx => h x (List.mem_cons_of_mem _ hx)
    have h2 := h c (List.mem_cons_self ..)
    unfold moments at h1 ⊢
    rw [List.flatMap_cons, List.length_append, ms_len, List.length_cons, Nat.mul_succ]
    omega
theorem moments_cons (c : Clip) (cs : List Clip) : moments (c :: cs) = c.ms ++ moments cs := by unfold moments; rw [List.flatMap_cons]
theorem moments_one (c : Clip) : moments [c] = c.ms := by rw [moments_cons]; exact List.append_nil _
/-- a clip's moments: with a fade, and without -/
theorem ms_zero {c : Clip} (h : c.f = 0) : c.ms = c.nums.map fun n => ⟨c.reel, n, 0⟩ := by
  unfold Clip.ms
  cases hn : c.nums with
  | nil => rfl
  | cons x r => rw [h]; rfl
theorem ms_head (c : Clip) : c.ms = ⟨c.reel, c.a, c.f⟩ :: (c.nums.drop 1).map fun n => ⟨c.reel, n, 0⟩ := by
  unfold Clip.ms
  rw [Clip.nums_eq]
  rfl
theorem stepR_new {r : List Clip} {m : Mo} (h : 0 < m.f) : stepR r m = ⟨m.reel, m.n, m.n, m.f⟩ :: r := by
  cases r with
  | nil => rfl
  | cons s r => rw [stepR_cons, if_neg (by omega)]
/-! ### by places -/
theorem nums_get0 (c : Clip) : c.nums[0]? = some c.a := by rw [Clip.nums_eq]; rfl
theorem nums_get {c : Clip} {k : Nat} (h : k < c.cnt) : c.nums[k]? = some (c.a + (k : Int) * c.way) := by
  unfold Clip.nums
  rw [List.getElem?_map, List.getElem?_range h]
  rfl
theorem nums_end (c : Clip) : ∃ l, c.nums = l ++ [c.b] := by
  have e : c.cnt = c.cnt - 1 + 1 := by unfold Clip.cnt; omega
  have h := nums_last c
  refine ⟨(List.range (c.cnt - 1)).map fun (m : Nat) => c.a + (m : Int) * c.way, ?_⟩
  unfold Clip.nums
  rw [e, List.range_succ, List.map_append, ← h]
  rfl
end KS

set_option linter.all false
set_option maxRecDepth 100000
set_option maxHeartbeats 1000000
/-! Clips and strips, tuples (REEL, FIRST, LAST, FADE), in the heap. -/
namespace KS
open PySem L2 G
def Clip.vs (c : Clip) : List V := [.str c.reel, .int c.a, .int c.b, .int c.f]
theorem Clip.numsV (c : Clip) : c.nums.map V.int = rngV c.a c.cnt c.way := by
  unfold Clip.nums rngV
  rw [List.map_map]
  rfl
def Clip.d (c : Clip) : PyData := .tuple [.str c.reel, .int c.a, .int c.b, .int c.f]
/-- numbers of no great size -/
structure Sm (c : Clip) : Prop where
  a0 : 0 ≤ c.a
  a1 : c.a ≤ 1000000
  b0 : 0 ≤ c.b
  b1 : c.b ≤ 1000000
structure COk (m n : Nat) (c : Clip) : Prop where
  rl : c.reel.length ≤ 100
  rf : Fine c.reel
  a0 : 0 ≤ c.a
  a1 : c.a ≤ n
  b0 : 0 ≤ c.b
  b1 : c.b ≤ n
  f0 : 0 ≤ c.f
  f1 : c.f ≤ c.cnt
  d : c.cnt ≤ m
theorem COk.sm {m n : Nat} {c : Clip} (h : COk m n c) (hn : n ≤ 1000000) : Sm c := ⟨h.a0, by have := h.a1; omega, h.b0, by have := h.b1; omega⟩
theorem Sm.cnt {c : Clip} (h : Sm c) : c.cnt ≤ 1000001 := by
  obtain ⟨h1, h2, h3, h4⟩ := h
  unfold Clip.cnt
  omega
theorem Clip.way_cnt (c : Clip) : (c.way = 1 ∧ c.cnt = (c.b + c.way - c.a).toNat) ∨ (c.way = -1 ∧ c.cnt = (c.a - (c.b + c.way)).toNat) := by
  unfold Clip.way Clip.cnt
  by_cases h : c.b < c.a
  · right
    rw [if_pos h]
    exact ⟨rfl, by omega⟩
  · left
    rw [if_neg h]
    exact ⟨rfl, by omega⟩
def CL (m n : Nat) (H : Hp) (p : Addr) (ps : List (Addr × Clip)) : Prop := H p = some (.lst (ps.map fun x => V.ref x.1)) ∧ ∀ x ∈ ps, H x.1 = some (.tup x.2.vs) ∧ COk m n x.2
theorem get_int {ns : List Int} {j : Nat} (h : j < ns.length) : (ns.map V.int)[j]? = some (.int ns[j]) := by rw [List.getElem?_map, List.getElem?_eq_getElem h]; rfl
/-- a part of a list of ints is one -/
theorem cut_ints (ns : List Int) (lo hi : Option Int) : ∃ ms : List Int, cutV (ns.map V.int) lo hi = ms.map V.int ∧ ms.length ≤ ns.length := by
  unfold cutV
  refine ⟨_, by rw [← List.map_drop, ← List.map_take], ?_⟩
  rw [List.length_take, List.length_drop]
  omega
theorem cut_drop {α : Type} (f : α → V) (ns : List α) (k : Nat) : cutV (ns.map f) (some (k : Int)) none = (ns.drop k).map f := by
  unfold cutV
  rw [HT.sIx_nat, HT.sIx_none, List.length_map, ← List.map_drop, ← List.map_take]
  congr 1
  by_cases h : k ≤ ns.length
  · rw [Nat.min_eq_left h, List.take_of_length_le (by rw [List.length_drop]; omega)]
  · rw [Nat.min_eq_right (by omega), Nat.sub_self, List.take_zero, List.drop_eq_nil_of_le (by omega)]
/-- all but what lies at p -/
def Bt (p : Addr) (H H' : Hp) : Prop := ∀ b o, b ≠ p → H b = some o → H' b = some o
theorem Bt.refl (p : Addr) (H : Hp) : Bt p H H := fun _ _ _ h => h
theorem Bt.trans {p : Addr} {H H' H'' : Hp} (a : Bt p H H') (b : Bt p H' H'') : Bt p H H'' := fun c o hc h => b c o hc (a c o hc h)
theorem Bt.of {p : Addr} {H H' : Hp} (s : Same H H') : Bt p H H' := fun b o _ h => s b o h
theorem Bt.upd {p : Addr} {H : Hp} {o : HO} : Bt p H (upd H p o) := fun b u hb h => by rw [upd_ne hb]; exact h
theorem Bt.same {p : Addr} {H H1 H' : Hp} (s : Same H H1) (b : Bt p H1 H') (hp : H p = none) : Same H H' := fun c o h => b c o (ne_of_none h hp) (s c o h)
/-- a list of strips, the last one first -/
def SL (H : Hp) (p : Addr) (rs : List (Addr × Clip)) : Prop := H p = some (.lst (rs.reverse.map fun x => V.ref x.1)) ∧ ∀ x ∈ rs, H x.1 = some (.tup x.2.vs)
theorem SL.nil {H : Hp} {p : Addr} (h : H p = some (.lst [])) : SL H p [] := ⟨h, fun x hx => nomatch hx⟩
theorem SL.same {H H' : Hp} {p : Addr} {rs : List (Addr × Clip)} (h : SL H p rs) (s : Same H H') : SL H' p rs := ⟨s _ _ h.1, fun x hx => s _ _ (h.2 x hx)⟩
theorem SL.ne {H : Hp} {p a : Addr} {rs : List (Addr × Clip)} {xs : List V} (h : SL H p rs) (e : H a = some (.tup xs)) : a ≠ p := ne_of e h.1 (by intro z; cases z)
theorem SL.push {H : Hp} {p pt : Addr} {rs : List (Addr × Clip)} {c : Clip} (h : SL H p rs) (ht : H pt = some (.tup c.vs)) : SL (upd H p (.lst ((rs.reverse.map fun x => V.ref x.1) ++ [.ref pt]))) p ((pt, c) :: rs) := by
  refine ⟨by rw [upd_same, List.reverse_cons, List.map_append]; rfl, fun x hx => ?_⟩
  rcases List.mem_cons.mp hx with rfl | z
  · show upd H p _ pt = _
    rw [upd_ne (h.ne ht)]
    exact ht
  · rw [upd_ne (h.ne (h.2 x z))]
    exact h.2 x z
theorem SL.put {H : Hp} {p pt : Addr} {x0 : Addr × Clip} {rs : List (Addr × Clip)} {c : Clip} (h : SL H p (x0 :: rs)) (ht : H pt = some (.tup c.vs)) : SL (upd H p (.lst ((rs.reverse.map fun x => V.ref x.1) ++ [.ref pt]))) p ((pt, c) :: rs) := by
  refine ⟨by rw [upd_same, List.reverse_cons, List.map_append]; rfl, fun x hx => ?_⟩
  rcases List.mem_cons.mp hx with rfl | z
  · show upd H p _ pt = _
    rw [upd_ne (h.ne ht)]
    exact ht
  · have h2 := h.2 x (List.mem_cons_of_mem _ z)
    rw [upd_ne (h.ne h2)]
    exact h2
theorem SL.last {H : Hp} {p : Addr} {x : Addr × Clip} {rs : List (Addr × Clip)} : atI ((x :: rs).reverse.map fun x => V.ref x.1) (-1) = some (V.ref x.1) := by
  rw [List.reverse_cons, List.map_append]
  exact atI_last _ _
theorem iteN {c : Bool} {A B : Prop} (h : c = false) (b : B) : if c = true then A else B := by rw [h]; exact iteF b
theorem iteY {c : Bool} {A B : Prop} (h : c = true) (a : A) : if c = true then A else B := by rw [h]; exact iteT a
theorem snoc_cases {α : Type} : ∀ l : List α, l = [] ∨ ∃ L b, l = L ++ [b]
  | [] => .inl rfl
  | a :: r => .inr (by
    rcases snoc_cases r with rfl | ⟨L, b, rfl⟩
    · exact ⟨[], a, rfl⟩
    · exact ⟨a :: L, b, rfl⟩)
end KS

set_option linter.all false
set_option maxRecDepth 100000
set_option maxHeartbeats 4000000
/-! name = [.. for ..]: the store is exchanged with the letting go of the block's own names. -/
namespace L2
open PySem PySem.Spec PyProof.Rows
/-- a place that this block does not see is written -/
theorem Inv.but {X : Cx} {pins : List (Addr × Obj)} {σ : St} {H : Hp} {s : Shared} {C : Addr} {h' : Heap} (I : Inv X pins σ H s) (sb : Heap.SameBut C s.heap h') (f : FpOk X pins H C) (hx : X.s₀.heap.get? C = none := by assumption) : Inv X pins σ H { s with heap := h' } := by
  obtain ⟨f0, f1, f2, f3, f4, f5⟩ := f
  have ne0 : ∀ b o, X.s₀.heap.get? b = some o → b ≠ C := fun b o e z => by rw [z, hx] at e; cases e
  have cellS : ∀ {c v}, c ≠ C → s.heap.IsCell c v → h'.IsCell c v := fun hc ⟨o, ho, hd⟩ => ⟨o, (sb.2 _ hc).trans ho, hd⟩
  refine ⟨I.ok, I.os, I.bare, ⟨fun b o e n hb he => (sb.2 b (ne0 b o e)).trans (I.base.keep b o e n hb he), fun b o e n hb he => ?_, I.base.free, fun b o e he => ?_, I.base.tups, I.base.frzs, I.base.tbls⟩, ?_, fun x c e => ?_, I.free, I.freeC, fun p hp => ?_, fun b u e => ?_, I.len⟩
  · obtain ⟨sl, q⟩ := I.base.slot b o e n hb he
    exact ⟨sl, (sb.2 b (ne0 b o e)).trans q⟩
  · obtain ⟨o', q⟩ := I.base.there b o e he
    exact ⟨o', (sb.2 b (ne0 b o e)).trans q⟩
  · obtain ⟨m, hm, hl⟩ := I.loc
    refine ⟨m, hm.sameBut sb (Ne.symm f1), fun i x v e1 e2 e3 => ?_⟩
    obtain ⟨u, r, l⟩ := hl i x v e1 e2 e3
    refine ⟨u, r, ?_⟩
    rcases l with l | ⟨l1, c, l2, l3⟩
    · exact .inl l
    · exact .inr ⟨l1, c, l2, cellS (f4 _ _ l2) l3⟩
  · obtain ⟨v, q⟩ := I.cell x c e
    exact ⟨v, cellS (f4 _ _ e) q⟩
  · obtain ⟨q1, q2⟩ := I.pin p hp
    exact ⟨(sb.2 _ (f5 p hp)).trans q1, q2⟩
  · refine (I.hok b u e).stay (fun c v hc z => (sb.2 c ?_).trans z) (fun _ z => z) fun _ _ z => z
    rintro rfl
    rcases hc with hc | hc
    · rw [← hc, f0] at e; cases e
    · rw [f0] at hc; cases hc
section
variable {X : Cx} {x : Str} {px pos : Pos} {elt iter : Expr} {sc : Scope} {ys : List Str} {js : List Nat} {cl : List (Str × Addr)}
end
end L2
namespace L2
open PySem PySem.Spec PyProof.Rows
/-! a list of texts, written out -/
def strC : Expr → Option Str
  | .Constant (.str x) _ _ => some x
  | _ => none
end L2

set_option linter.all false
set_option maxRecDepth 100000
set_option maxHeartbeats 4000000
namespace PySem
namespace F
end F
section
variable {prog : Program} {w : World} {A : Around} {E : Value → Shared → Prop} {s : Shared}
def revTObj (l : Addr) (i : Int) : Obj := { cls := .type "reversed", data := .fields #[.ref l, rawInt i] }
def Heap.IsRevT (h : Heap) (a l : Addr) (i : Int) : Prop := ∃ o, h.get? a = some o ∧ o.cls = .type "reversed" ∧ o.data = .fields #[.ref l, rawInt i]
open PyProof.Rows in
open PyProof.Rows in
end
end PySem

set_option linter.all false
set_option maxRecDepth 100000
set_option maxHeartbeats 4000000
namespace PySem
section
variable {prog : Program} {w : World} {A : Around} {E : Value → Shared → Prop} {s : Shared}
open PyProof.Rows in
end
end PySem

set_option linter.all false
set_option maxRecDepth 100000
set_option maxHeartbeats 4000000
/-! d[k], extend, any(..), for x in reversed(a tuple). -/
namespace L2
open PySem PySem.Spec PyProof.Rows
section
variable {X : Cx}
end
/-! t + u, t[a:b], whatever they are -/
theorem cat_tupG {prog : Program} {w : World} {A : Around} {E : Value → Shared → Prop} {s : Shared} {t b : Addr} {vs ws : List Value} {Q : Value → Shared → Prop} (ht : IsTup s.heap t vs.toArray) (hb : IsTup s.heap b ws.toArray) (h0 : vs = [] → Q (.ref b) s)
    (h1 : vs ≠ [] → ws = [] → Q (.ref t) s) (h2 : vs ≠ [] → ws ≠ [] → Q (.ref s.heap.objs.size) { s with heap := s.heap.push { cls := .type "tuple", data := .seq (vs ++ ws).toArray } })
    (hsz : vs.length + ws.length ≤ sizeLine) : wpAny (model prog w) A (binaryOp .Add (.ref t) (.ref b)) Q E s := by
  by_cases hv : vs = []
  · obtain ⟨⟨cls, dd, data, sl⟩, ho, hc, n, hd⟩ := id ht
    obtain ⟨⟨cls2, dd2, data2, sl2⟩, ho2, hc2, n2, hd2⟩ := id hb
    simp only at hc hd hc2 hd2
    subst hc hd hc2 hd2
    exact concat_meets ⟨_, ho, rfl⟩ ⟨_, ho2, rfl⟩ noFill_tuple_add seq_tuple_add PySem.F.slot_tuple_add PySem.F.entry_tuple_add (PySem.F.args_tuple_add_2 _ _)
      (tuple_addW0 t b vs.toArray ws.toArray n n2 dd dd2 sl sl2 (by simp [hv])) ⟨ho, ho2, h0 hv⟩
  · exact HT.cat_tup ht hb hv (h1 hv) (h2 hv) hsz
def rCatG : R2 := fun x y H Q => ∃ a b xs ys, x = .ref a ∧ y = .ref b ∧ H a = some (.tup xs) ∧ H b = some (.tup ys) ∧ xs.length + ys.length ≤ sizeLine ∧ ∀ p H', Same H H' → H' p = some (.tup (xs ++ ys)) → Q (.ref p) H'
section
variable {X : Cx}
theorem op_catG : OpR X (binaryOp .Add) rCatG := by
  intro pins s σ H x y v u Q I rx ry h
  obtain ⟨a, b, xs, ys, rfl, rfl, ha, hb, hz, q⟩ := h
  cases rx
  cases ry
  obtain ⟨its, r1, p1, _⟩ := I.tuple (SqT.of (K := X.K) ha)
  obtain ⟨its2, r2, p2, _⟩ := I.tuple (SqT.of (K := X.K) hb)
  refine cat_tupG p1 p2 (fun z => ⟨.ref b, H, I, rfl, q b H (Same.refl _) ?_⟩) (fun _ z => ⟨.ref a, H, I, rfl, q a H (Same.refl _) ?_⟩) (fun _ z => ?_) (by rw [← r1.length, ← r2.length]; exact hz)
  · rw [r1.nil_iff.mp z]
    exact hb
  · rw [r2.nil_iff.mp z, List.append_nil]
    exact ha
  · have fr : H s.heap.objs.size = none := I.hok.fresh (Nat.le_refl _)
    refine ⟨.ref s.heap.objs.size, _, I.laid (t' := s.toks) (o := .tup (xs ++ ys)) (fun b ob q => Heap.get?_push_of_some _ q) (Nat.le_refl _) ?_, rfl, q _ _ (Same.new fr _) upd_same⟩
    exact ⟨by rw [List.length_append]; exact hz, _, r1.append r2, IsTup.new _ _⟩
theorem getItem_tuple_whole {prog : Program} {w : World} {A : Around} {E : Value → Shared → Prop} {s : Shared} {t sl : Addr} {items : Array Value} {vl vu : Value} {lo hi : Option Int} {Q : Value → Shared → Prop} (ht : IsTup s.heap t items) (hs : s.heap.IsSliceOf sl vl vu .none) (pl : IsPart vl lo) (pu : IsPart vu hi)
    (hw : HT.sIx items.size 0 lo = 0 ∧ HT.sIx items.size items.size hi = items.size) (h : Q (.ref t) s) : wpAny (model prog w) A (getItem (.ref t) (.ref sl)) Q E s := by
  obtain ⟨os, hos, hcs, hds⟩ := id hs
  have hTs : s.TypeIs (.ref sl) "slice" := ⟨os, hos, hcs⟩
  unfold getItem
  try with_reducible refine wpAny_holding ?_
  first | refine wpAny_bind (wpAny_pure ?_) | skip
  refine wpAny_bind (wpAny_sequenceKey ht.typeIs (by decide) ?_)
  refine wpAny_bind (wpAny_callSpecial?_slot (name := Str.ofString "__getitem__") ht.typeIs PyProof.Rows.slot_tuple_getitem
    (wpAny_call_entry PyProof.Rows.slot_tuple_getitem ht.typeIs entry_tuple_getitem ?_ (args_tuple_getitem _ _)))
  show wpAny _ _ (Builtin.Tuple.tupleItemsOf (.ref t) >>= _) _ _ s
  refine wpAny_bind (tupleItemsOf_ ht ?_)
  refine wpAny_bind (wpAny_typeOf hTs ?_)
  rw [if_pos (by decide)]
  refine wpAny_bind (HT.sliceApplied_gen hs pl pu ?_)
  have hyes : (((HT.sIx items.size 0 lo : Nat) : Int) == 0 && (1 : Int) == 1 && (HT.sIx items.size items.size hi - HT.sIx items.size 0 lo) == items.size) = true := by
    rw [hw.1, hw.2]
    simp
  show wpAny _ _ (if (((HT.sIx items.size 0 lo : Nat) : Int) == 0 && (1 : Int) == 1 && (HT.sIx items.size items.size hi - HT.sIx items.size 0 lo) == items.size) = true then _ else _) _ _ s
  rw [if_pos hyes]
  refine wpAny_bind (m := Builtin.Tuple.tupleIsExact _) ?_
  show wpAny _ _ (typeOf (.ref t) >>= _) _ _ s
  refine wpAny_bind (wpAny_typeOf ht.typeIs (wpAny_pure ?_))
  rw [if_pos (by decide)]
  refine wpAny_bind (wpAny_rule ?_)
  exact wpAny_pure ⟨_, rfl, wpAny_pure h⟩
def rSlG : V → Option Int → Option Int → Hp → VK → Prop := fun x lo hi H Q => ∃ a xs, x = .ref a ∧ H a = some (.tup xs) ∧ ∀ p H', Same H H' → H' p = some (.tup (cutV xs lo hi)) → Q (.ref p) H'
theorem sl_tupG : SlR X rSlG := by
  intro pins s σ H x v vl vu lo hi sl Q I rx hs pl pu h
  obtain ⟨a, xs, rfl, hx, q⟩ := h
  cases rx
  obtain ⟨its, r, ht, hz⟩ := I.tuple (SqT.of (K := X.K) hx)
  have hlen : its.toArray.size = xs.length := by rw [List.size_toArray]; exact r.length.symm
  refine ⟨"tuple", _, PyProof.Rows.slot_tuple_getitem.lookup, ht.typeIs, ?_⟩
  by_cases hw : HT.sIx xs.length 0 lo = 0 ∧ HT.sIx xs.length xs.length hi = xs.length
  · refine getItem_tuple_whole ht hs pl pu (by rw [hlen]; exact hw) ⟨.ref a, H, I, rfl, q a H (Same.refl _) ?_⟩
    unfold cutV
    rw [hw.1, hw.2, List.drop_zero, Nat.sub_zero, List.take_length]
    exact hx
  · refine HT.getItem_tuple_cut ht hs pl pu (by rw [hlen]; exact hw) ?_ (by rw [hlen]; exact hz)
    rw [hlen]
    have fr : H s.heap.objs.size = none := I.hok.fresh (Nat.le_refl _)
    refine ⟨.ref s.heap.objs.size, _, I.laid (t' := s.toks) (o := .tup (cutV xs lo hi)) (fun b ob q => Heap.get?_push_of_some _ q) (Nat.le_refl _) ?_, rfl, q _ _ (Same.new fr _) upd_same⟩
    exact ⟨Nat.le_trans (cutV_length xs lo hi) hz, _, (r.drop (HT.sIx xs.length 0 lo)).take (HT.sIx xs.length xs.length hi - HT.sIx xs.length 0 lo), IsTup.new _ _⟩
end
/-- a tuple from its end on -/
def Itv (K : PySem.W.Frag) (a : Addr) (xs : List V) : It :=
  ⟨fun i H => SqT K H a xs ∧ i < xs.length, fun i H x H' => H' = H ∧ xs.reverse[i]? = some x, fun i H => SqT K H a xs ∧ xs.length ≤ i⟩
def iRevT (K : PySem.W.Frag) (ta : TA) : TI := fun σ H R => ta σ H fun vs H1 => ∃ a xs, vs = [.ref a] ∧ SqT K H1 a xs ∧ R (Itv K a xs) H1
section
variable {X : Cx}
end
end L2

set_option linter.all false
set_option maxRecDepth 100000
set_option maxHeartbeats 1000000
/-! Lists of items, as trees: a part bears its list with it. What they play; turned about. -/
namespace IT
open PySem
inductive It where
  | clip (r : Str) (f l : Int)
  | times (m : Int) (xs : List It)
  | back (xs : List It)
  | part (n : Str) (xs : List It)
  | fade (m : Int)
structure Cl where
  r : Str
  f : Int
  l : Int
  d : Int
def isF : It → Bool
  | .fade _ => true
  | _ => false
/-- the first clip's fade -/
def setF (m : Int) : List Cl → List Cl
  | [] => []
  | c :: r => ⟨c.r, c.f, c.l, m⟩ :: r
def revA : Int → List Cl → List Cl
  | _, [] => []
  | a, c :: r => ⟨c.r, c.l, c.f, a⟩ :: revA c.d r
def rev (cs : List Cl) : List Cl := revA 0 cs.reverse
def rep (n : Nat) (A : List Cl) : List Cl := (List.replicate n A).flatten
def step (x : It) (more : List Cl) (s : List Cl × Int) : List Cl × Int :=
  match x with
  | .fade m => (s.1, m)
  | _ => match more with
    | [] => s
    | c :: r => (s.1 ++ setF s.2 (c :: r), 0)
mutual
def flI : It → List Cl
  | .clip r f l => [⟨r, f, l, 0⟩]
  | .times m xs => rep m.toNat (run xs ([], 0)).1
  | .back xs => rev (run xs ([], 0)).1
  | .part _ xs => (run xs ([], 0)).1
  | .fade _ => []
def run : List It → List Cl × Int → List Cl × Int
  | [], s => s
  | x :: r, s => run r (step x (flI x) s)
end
def flL (xs : List It) : List Cl := (run xs ([], 0)).1
mutual
inductive WI : It → Prop
  | clip {r f l} : WI (.clip r f l)
  | times {m xs} : 1 ≤ m → m ≤ 20 → WL xs → WI (.times m xs)
  | back {xs} : WL xs → WI (.back xs)
  | part {n xs} : WL xs → WI (.part n xs)
inductive WL : List It → Prop
  | one {x} : WI x → WL [x]
  | cons {x r} : WI x → WL r → WL (x :: r)
  | fade {x m r} : WI x → WL r → WL (x :: .fade m :: r)
end
/-! the algebra of fades -/
/-- begins without a fade -/
def H0 (A : List Cl) : Prop := A ≠ [] ∧ setF 0 A = A
/-! what a good list plays -/
/-! turned about -/
def inp (xs : List It) : List It := if (xs.take 1 ++ xs.drop (xs.length - 1)).any isF then [.times 1 xs] else xs
mutual
def tI : It → List It
  | .clip r f l => [.clip r l f]
  | .times m xs => [.times m (tL xs)]
  | .part n xs => [.back [.part n xs]]
  | .back xs => inp (sL xs)
  | .fade m => [.fade m]
def tL : List It → List It
  | [] => []
  | x :: r => tL r ++ tI x
def sI : It → List It
  | .clip r f l => [.clip r f l]
  | .times m xs => [.times m (sL xs)]
  | .part n xs => [.part n xs]
  | .back xs => inp (tL xs)
  | .fade m => [.fade m]
def sL : List It → List It
  | [] => []
  | x :: r => sI x ++ sL r
end
end IT

set_option linter.all false
set_option maxRecDepth 100000
set_option maxHeartbeats 1000000
namespace IT
open PySem
/-! an item as data -/
mutual
def dI : It → PyData
  | .clip r f l => .tuple [.str "clip", .str r, .int f, .int l]
  | .times m xs => .tuple [.str "times", .int m, .tuple (dL xs)]
  | .back xs => .tuple [.str "back", .tuple (dL xs)]
  | .part n _ => .tuple [.str "part", .str n]
  | .fade m => .tuple [.str "fade", .int m]
def dL : List It → List PyData
  | [] => []
  | x :: r => dI x :: dL r
end
/-! good names (T), parts as told (G) -/
mutual
def okI (T : Str → Prop) (G : Str → List It → Prop) : It → Prop
  | .clip r _ _ => T r
  | .times _ xs => okL T G xs
  | .back xs => okL T G xs
  | .part n xs => G n xs
  | .fade _ => True
def okL (T : Str → Prop) (G : Str → List It → Prop) : List It → Prop
  | [] => True
  | x :: r => okI T G x ∧ okL T G r
end
section
variable {T : Str → Prop} {G : Str → List It → Prop}
end
/-! how deep -/
mutual
def dpI : It → Nat
  | .clip _ _ _ => 0
  | .times _ xs => dpL xs + 1
  | .back xs => dpL xs + 1
  | .part _ xs => dpL xs + 1
  | .fade _ => 0
def dpL : List It → Nat
  | [] => 0
  | x :: r => max (dpI x) (dpL r)
end
/-! how many items -/
mutual
def wI : It → Nat
  | .clip _ _ _ => 1
  | .times _ xs => wL xs + 1
  | .back xs => wL xs + 1
  | .part _ _ => 1
  | .fade _ => 1
def wL : List It → Nat
  | [] => 0
  | x :: r => wI x + wL r
end
/-! no back but around one part -/
mutual
def plI : It → Prop
  | .clip _ _ _ => True
  | .times _ xs => plL xs ∧ xs ≠ []
  | .back xs => ∃ n ys, xs = [.part n ys]
  | .part _ _ => True
  | .fade _ => True
def plL : List It → Prop
  | [] => True
  | x :: r => plI x ∧ plL r
end
/-! counted -/
mutual
def cnI : It → Int
  | .clip _ _ _ => 1
  | .times m xs => m * cnL xs
  | .back xs => cnL xs
  | .part _ xs => cnL xs
  | .fade _ => 0
def cnL : List It → Int
  | [] => 0
  | x :: r => cnI x + cnL r
end
mutual
def frI : It → Int
  | .clip _ f l => (if l - f < 0 then -(l - f) else l - f) + 1
  | .times m xs => m * frL xs
  | .back xs => frL xs
  | .part _ xs => frL xs
  | .fade _ => 0
def frL : List It → Int
  | [] => 0
  | x :: r => frI x + frL r
end
end IT

set_option linter.all false
set_option maxRecDepth 100000
set_option maxHeartbeats 1000000
namespace IT
open PySem
/-! names -/
def NM (T : Str → Prop) (cs : List Cl) : Prop := ∀ c ∈ cs, T c.r
section
variable {T : Str → Prop} {G : Str → List It → Prop}
end
/-! turned about, place by place -/
end IT

set_option linter.all false
set_option maxRecDepth 100000
set_option maxHeartbeats 1000000
/-! Trees of tuples in the heap. -/
namespace DT
open PySem L2 G
mutual
inductive Td (H : Hp) : V → PyData → Prop
  | int (i : Int) : Td H (.int i) (.int i)
  | str (x : Str) : Td H (.str x) (.str x)
  | tup {a : Addr} {vs : List V} {ds : List PyData} : H a = some (.tup vs) → Tds H vs ds → Td H (.ref a) (.tuple ds)
inductive Tds (H : Hp) : List V → List PyData → Prop
  | nil : Tds H [] []
  | cons {v : V} {vs : List V} {d : PyData} {ds : List PyData} : Td H v d → Tds H vs ds → Tds H (v :: vs) (d :: ds)
end
/-- tuples stay -/
def TK (H H' : Hp) : Prop := ∀ a xs, H a = some (.tup xs) → H' a = some (.tup xs)
open IT
/-- the items' kinds -/
def kd : IT.It → Str
  | .clip _ _ _ => "clip"
  | .times _ _ => "times"
  | .back _ => "back"
  | .part _ _ => "part"
  | .fade _ => "fade"
theorem iteN {c : Bool} {A B : Prop} (h : c = false) (b : B) : if c = true then A else B := by rw [h]; exact iteF b
theorem iteY {c : Bool} {A B : Prop} (h : c = true) (a : A) : if c = true then A else B := by rw [h]; exact iteT a
/-- a list of items -/
def IL (H : Hp) (l : Addr) (xs : List IT.It) : Prop := ∃ vs, H l = some (.lst vs) ∧ Tds H vs (dL xs)
/-! clips -/
def dC (c : Cl) : PyData := .tuple [.str c.r, .int c.f, .int c.l, .int c.d]
/-- a list of clips -/
def CL (H : Hp) (l : Addr) (cs : List Cl) : Prop := ∃ vs, H l = some (.lst vs) ∧ Tds H vs (cs.map dC)
/-- the clips' names are good texts -/
def CF (cs : List Cl) : Prop := ∀ c ∈ cs, Fine c.r
end DT

set_option linter.all false
set_option maxRecDepth 100000
set_option maxHeartbeats 4000000
/-! Texts: split, partition, startswith, endswith, f-strings; pop; the truth of a list. -/
namespace L2
open PySem PySem.Spec PyProof.Rows PySem.Builtin PySem.Builtin.Str
section
variable {X : Cx}
def rSplit : V → List V → Hp → VK → Prop := fun x vs H Q => ∃ z y, x = .str z ∧ vs = [.str y] ∧ (y.length == 0) = false ∧ z.length + 2 ≤ sizeLine ∧ ∀ p, H p = none → Q (.ref p) (upd H p (.lst ((Txt.split z y).map V.str)))
def rPart : V → List V → Hp → VK → Prop := fun x vs H Q => ∃ z y, x = .str z ∧ vs = [.str y] ∧ (y.length == 0) = false ∧ z.length ≤ sizeLine ∧ ∀ p, H p = none → Q (.ref p) (upd H p (.tup [.str (Txt.partition z y).1, .str (Txt.partition z y).2.1, .str (Txt.partition z y).2.2]))
def rStarts : V → List V → Hp → VK → Prop := fun x vs H Q => ∃ z y, x = .str z ∧ vs = [.str y] ∧ Q (.bl (Txt.startswith z y)) H
def rEnds : V → List V → Hp → VK → Prop := fun x vs H Q => ∃ z y, x = .str z ∧ vs = [.str y] ∧ Q (.bl (Txt.endswith z y)) H
def rCount : V → List V → Hp → VK → Prop := fun x vs H Q => ∃ z y, x = .str z ∧ vs = [.str y] ∧ Q (.int (Txt.count z y)) H
/-- a list's truth (a name's, a call's) -/
theorem t_tru {a : Expr} {ta : TE} (ha : QE X a ta) (he : ∀ whole, isTrue a X.env whole = (do let v ← whole; standAt a.pos; holding [v] (truthy v)) := by intro _; rfl) : QT X a (fun σ H Q => ta σ H fun x H' => ∃ k, TruV X.K x H' k ∧ Q k H') := ⟨pt_truth ha.h he⟩
/-! f-strings -/
def tF (te : TE) : TE := fun σ H Q => te σ H fun v H1 => (∃ x, v = .str x ∧ x.length ≤ sizeLine ∧ Q (.str x) H1) ∨ ∃ i, v = .int i ∧ i.natAbs.log2 < 1920 ∧ Q (.str (toString i)) H1
abbrev TJ := Str → St → Hp → VK → Prop
structure QJ (X : Cx) (es : List Expr) (t : TJ) : Prop where
  h : ∀ (out : Str) (pins : List (Addr × Obj)) (s : Shared) (σ : St) (H : Hp) (Q : VK), Inv X pins σ H s → t out σ H Q → wpAny (model X.prog X.w) X.A (joinParts out (evalEach es X.env)) (EP X pins σ Q) X.xe s
end
end L2

set_option linter.all false
set_option maxRecDepth 100000
set_option maxHeartbeats 4000000
/-! A list comprehension whose target is a tuple of names. -/
namespace L2
open PySem PySem.Spec PyProof.Rows
def CompedT (J : It) (n : Nat) (cap : St) (g : TG) (te : TE) (Q : VK) (H1 : Hp) : Prop := ∀ D, H1 D = none → ∃ W : Nat → Nat → List V → Hp → Prop, (∃ m, W 0 m [] (upd H1 D (.lst []))) ∧ ∀ i m ys H2, W i m ys H2 → H2 D = some (.lst ys) ∧
  ((J.stop i H2 ∧ Q (.ref D) H2) ∨ (J.go i H2 ∧ ∀ x H3 (xo : St), xo.length = n → J.yld i H2 x H3 → g x (xo ++ cap) H3 fun σ6 H6 => (∃ xo' : St, xo'.length = n ∧ σ6 = xo' ++ cap) ∧ te σ6 H6 fun y H4 => H4 D = some (.lst ys) ∧ ys.length < sizeLine ∧ ∃ m', m' < m ∧ W (i + 1) m' (ys ++ [y]) (upd H4 D (.lst (ys ++ [y])))))
def tCompT (wi : TI) (n : Nat) (js : List Nat) (g : TG) (te : TE) : TE := fun σ H Q => wi σ H fun J H1 => CompedT J n (capt σ js) g te Q H1
section
variable {X : Cx} {pos : Pos} {elt iter : Expr} {sc : Scope} {xs ys : List Str} {js : List Nat} {cl : List (Str × Addr)}

end
end L2

set_option linter.all false
set_option maxRecDepth 100000
set_option maxHeartbeats 4000000
/-! sum of a list of whole numbers. -/
namespace L2
open PySem PySem.Spec PyProof.Rows
section
variable {X : Cx}
end
end L2

set_option linter.all false
set_option maxRecDepth 100000
set_option maxHeartbeats 4000000
/-! list.sort(key = f) and sorted(.., key = f) under any promise that outlives writes to the two lists made there. -/
namespace L2
open PySem PySem.Spec PyProof.Rows
section
variable {prog : Program} {w : World} {A : Around} {E : Value → Shared → Prop} {s : Shared} {a kS : Addr} {vs : List Value} {kz : List Int} {keys : Array Value} {e e1 : Nat} {P : PySem.Fin → Shared → Prop} {Ψ : Shared → Prop}
/-- Ψ outlives a write at c -/
def Outlives (Ψ : Shared → Prop) (c : Addr) : Prop := ∀ (s : Shared) (h' : Heap), Ψ s → Heap.SameBut c s.heap h' → Ψ { s with heap := h' }
theorem sk_tail {st : SortSt} (I : Ψ s) (ok : Outlives Ψ kS) (oa : Outlives Ψ a) (nk : s.heap.get? kS = some (seqObj "list" keys e)) (na : s.heap.get? a = some (seqObj "list" #[] e1)) (hka : kS ≠ a)
    (hk : IntsAre keys.toList kz) (hlen : kz.length = vs.length) (h64 : vs.length < 64) (hp : (arrOf st).Perm (keys.zip vs.toArray)) (hs : SortedTo (arrOf st) (arrOf st).size) (hfl : failedOf st = none)
    (h : ∀ s' out c, Ψ s' → s'.heap.get? a = some (seqObj "list" out c) → KskOut false kz vs out.toList → P (.done (.ret .none)) s') :
    wpAny (model prog w) A (ksk_tail a false e1 (.ref kS) st) P E s := by
  have hsz : keys.size = vs.length := by
    have h1 := hk.length
    rw [Array.length_toList] at h1
    omega
  have hsz2 : (arrOf st).size = vs.length := by rw [hp.size_eq, Array.size_zip, hsz, List.size_toArray, Nat.min_self]
  have hout : (if false then ((arrOf st).map (·.2)).reverse else (arrOf st).map (·.2)).size = vs.length := by
    simp only [Bool.false_eq_true, if_false, Array.size_map]; exact hsz2
  have s1 := Heap.SameBut.update s.heap kS (Obj.mapSeq fun _ => (#[] : Array Value))
  have na1 : (s.heap.update kS (Obj.mapSeq fun _ => (#[] : Array Value))).get? a = some (seqObj "list" #[] e1) := (s1.2 a hka.symm).trans na
  have s2 := Heap.SameBut.update (s.heap.update kS (Obj.mapSeq fun _ => (#[] : Array Value))) a (Obj.mapSeq fun _ => if false then ((arrOf st).map (·.2)).reverse else (arrOf st).map (·.2))
  obtain ⟨c2, hc2⟩ : ∃ c2, ((s.heap.update kS (Obj.mapSeq fun _ => (#[] : Array Value))).update a (Obj.mapSeq fun _ => if false then ((arrOf st).map (·.2)).reverse else (arrOf st).map (·.2))).get? a = some (seqObj "list" (if false then ((arrOf st).map (·.2)).reverse else (arrOf st).map (·.2)) c2) :=
    ⟨_, get?_update_seq na1 fun _ => if false then ((arrOf st).map (·.2)).reverse else (arrOf st).map (·.2)⟩
  unfold ksk_tail
  try dsimp only
  refine wpAny_bind (listUpdate_at nk rfl ?_ (by rw [hsz, sizeLine_eq]; omega) (Nat.zero_le _))
  refine wpAny_bind (wpAny_letGo ?_)
  refine wpAny_bind (seqEpoch_at na1 rfl ?_)
  refine wpAny_bind (listUpdate_at na1 rfl ?_ (Nat.zero_le _) (Nat.le_trans (Nat.le_of_eq hout) (by rw [sizeLine_eq]; omega)))
  rw [hfl]
  simp only [bne_self_eq_false, Bool.false_eq_true, if_false]
  have I1 := ok s _ I s1
  have I2 := oa _ _ I1 s2
  exact wpAny_pure (h _ _ c2 I2 hc2 (ksk_out (b := false) hk hp hs))
theorem sk_end (I : Ψ s) (ok : Outlives Ψ kS) (oa : Outlives Ψ a) (nk : s.heap.get? kS = some (seqObj "list" keys e)) (na : s.heap.get? a = some (seqObj "list" #[] e1)) (hka : kS ≠ a)
    (hk : IntsAre keys.toList kz) (hlen : kz.length = vs.length) (h64 : vs.length < 64)
    (h : ∀ s' out c, Ψ s' → s'.heap.get? a = some (seqObj "list" out c) → KskOut false kz vs out.toList → P (.done (.ret .none)) s') :
    wpAny (model prog w) A (ksk_end a false vs.toArray e1 (.ref kS) keys) P E s := by
  have hsz : keys.size = vs.length := by
    have h1 := hk.length
    rw [Array.length_toList] at h1
    omega
  have hzs : (keys.zip vs.toArray).size = vs.length := by rw [Array.size_zip, hsz, List.size_toArray, Nat.min_self]
  unfold ksk_end
  try dsimp only
  simp only [Bool.false_eq_true, if_false]
  by_cases h2 : vs.toArray.size < 2
  · rw [if_pos h2, if_pos h2]
    refine wpAny_bind (wpAny_pure ?_)
    rw [StateT.run_pure]
    refine wpAny_bind (wpAny_pure ?_)
    try dsimp only
    refine sk_tail (st := SortSt.mk' general' (keys.zip vs.toArray) #[] 7 none) I ok oa nk na hka hk hlen h64 (Array.Perm.refl _) ?_ rfl h
    intro i j hij hj
    have hj2 : j < (keys.zip vs.toArray).size := hj
    rw [hzs] at hj2
    rw [List.size_toArray] at h2
    have : i = j := by omega
    subst this
    exact Int.le_refl _
  · rw [if_neg h2, if_neg h2]
    rw [List.size_toArray] at h2
    rw [ksk_kind hk (by rw [hsz]; omega)]
    refine wpAny_bind (wpAny_pure ?_)
    refine wpAny_bind (wpAny_mono (wpS_sortRuns (a₀ := keys.zip vs.toArray) (st := SortSt.mk' oneType' (keys.zip vs.toArray) #[] 7 none)
      (Q := fun _ st' => (arrOf st').Perm (keys.zip vs.toArray) ∧ failedOf st' = none ∧ SortedTo (arrOf st') (keys.zip vs.toArray).size)
      (ksk_intKeys hk) ⟨Array.Perm.refl _, rfl, rfl, rfl⟩ (by rw [hzs]; omega) (by rw [hzs]; exact h64) fun st' a1 a2 a3 => ⟨a1, a2, a3⟩) ?_ fun _ _ e => e)
    rintro ⟨⟨⟩, st'⟩ s' ⟨rfl, hp, hf, hs⟩
    try dsimp only
    exact sk_tail I ok oa nk na hka hk hlen h64 hp (by rw [hp.size_eq]; exact hs) hf h
end
end L2

set_option linter.all false
set_option maxRecDepth 100000
set_option maxHeartbeats 4000000
/-! The head of a law whose program makes lambdas: the maker's code table is tracked from the start. -/
namespace L2
open PySem PySem.Spec PyProof.Rows
theorem law_callT {P : Program} {w : World} {K : PySem.W.Frag} {mg mb : Str → Option Value} {CX : CXT} {k : Nat} {fa a c T : Addr} {fd : FuncData} {x : Str} {sp : Sp} {s₁ : Shared} {vs : List Value} {ns : List Int}
    (KX : K.In s₁.heap) (hns : s₁.heap.Ns mainGlobals mg) (hb : s₁.heap.Ns builtinsNs mb) (hbb : ∀ x : Str, x ≠ "__name__" → mb x = bootBuiltins x) (hlim : s₁.heap.NoLimit) (hg : s₁.gens = #[])
    (ha : s₁.heap.get? a = some { cls := .type "list", data := .seq vs.toArray }) (hi : IntsAre vs ns) (hl : ns.length ≤ sizeLine) (hr : Room k callerA)
    (hP : s₁.heap.get? T = some (PySem.W.tabObj #[])) (hKP : K.lookup T = none) (hC : PySem.W.CodeHd s₁.heap c T) (hB : s₁.heap.BuiltinsAt mg T)
    (F : ∀ base : Heap, K.In base → base.Ns mainGlobals mg → base.BuiltinsAt mg T → FnOk P w K mg base CX k fa fd [x] sp) (hbind : ∀ (s : Shared) (u : Value), BindsTo s fd ⟨[u], []⟩ [(x, u)])
    (hsp : ∀ H : Hp, SqL K H a (ns.map V.int) → H T = some (.tbl #[]) → sp [.ref a] H (fun v _ => v = .bl true) fun _ _ _ => False)
    (hCX : ∀ H e s', CX [] H s₁ (fun _ _ _ => False) e s' → False) :
    codeAny (model P w) callerA (.call (.ref fa) ⟨[.ref a], []⟩) (fun r s' => r = .ok (.ret (.bool true)) ∧ OldK s₁.heap s'.heap ∧ s'.os = s₁.os ∧ AllBare s'.gens) s₁ := by
  have rv := vals_ints hi
  have lenV := hi.length
  have haT : a ≠ T := fun q => by rw [q, hP] at ha; cases ha
  have core : ∀ H : Hp, SqL K H a (ns.map V.int) → HOk P w H s₁.heap → H T = some (.tbl #[]) → (∀ b, H b ≠ none → b = a ∨ b = T) → (∀ u, H a = some u → ∃ ob xs, u = .frz ob (.lst xs)) → (H a ≠ none → K.lookup a = none) →
      codeAny (model P w) callerA (.call (.ref fa) ⟨[.ref a], []⟩) (fun r s' => r = .ok (.ret (.bool true)) ∧ OldK s₁.heap s'.heap ∧ s'.os = s₁.os ∧ AllBare s'.gens) s₁ := by
    intro H hS hok hT hA hF hK
    have base_of : ∀ {b : Addr} {o : Obj}, s₁.heap.get? b = some o → H b = none → (hidT s₁.heap H).get? b = some o := fun e n => hidT_get e n
    have noA : ∀ {b : Addr} {o : Obj}, s₁.heap.get? b = some o → (∀ vs n, o.data ≠ .seq vs n) → (∀ vs, o.data ≠ .fields vs) → H b = none := fun {b o} e d1 d2 => by
      cases q : H b with
      | none => rfl
      | some u =>
        rcases hA b (by rw [q]; simp) with e' | e'
        · subst e'
          rw [ha] at e; cases e
          exact absurd rfl (d1 _ _)
        · subst e'
          rw [hP] at e; cases e
          exact absurd rfl (d2 _)
    have nsK : ∀ {b : Addr} {m : Str → Option Value}, s₁.heap.Ns b m → (hidT s₁.heap H).Ns b m := fun {b m} ⟨o, es, ep, e, d, r⟩ => ⟨o, es, ep, base_of e (noA e (fun _ _ z => by rw [d] at z; cases z) fun _ z => by rw [d] at z; cases z), d, r⟩
    have hKb : K.In (hidT s₁.heap H) := fun b o e => base_of (KX b o e) (by
      cases q : H b with
      | none => rfl
      | some u =>
        rcases hA b (by rw [q]; simp) with e' | e'
        · subst e'
          rw [hK (by rw [q]; simp)] at e; cases e
        · subst e'
          rw [hKP] at e; cases e)
    have hBb : (hidT s₁.heap H).BuiltinsAt mg T := by
      obtain ⟨bm, o, b1, b2, b3, b4, b5, b6, b7, b8⟩ := hB
      exact ⟨bm, o, b1, b2, b3, b4, base_of b5 (noA b5 (fun _ _ z => by rw [b8] at z; cases z) fun _ z => by rw [b8] at z; cases z), b6, b7, b8⟩
    have hM : Mod K mg (hidT s₁.heap H) := ⟨hKb, nsK hns, ⟨mb, nsK hb, hbb⟩, let ⟨mc, h1, h2⟩ := hlim; ⟨mc, nsK h1, h2⟩⟩
    have e0 : Env0 P w K mg (hidT s₁.heap H) callerA [] s₁ H := ⟨rfl, hM, fun b o e => of_hidT e, Nat.le_of_eq (hidT_size _ _), trivial, fun b hb => absurd (show b ∈ ([] : List Addr) from hb) (by simp), hok, .of_eq hg⟩
    refine codeAny_mono ((F _ hKb (nsK hns) hBb).run callerA [] s₁ H ⟨[.ref a], []⟩ [.ref a] [.ref a] _ _ hr e0 (hbind s₁ (.ref a)) (.cons rfl .nil) (hsp H hS hT)) fun r s' h => ?_
    cases r with
    | error e => exact (hCX H e s' h).elim
    | ok fl =>
      cases fl with
      | next => exact False.elim h
      | brk => exact False.elim h
      | cont => exact False.elim h
      | ret u =>
        obtain ⟨v, H', os, bare, un, hok', r', q⟩ := h
        have q' : v = .bl true := q
        subst q'
        obtain rfl : u = Value.bool true := r'
        obtain ⟨more, hT'⟩ := un.tbls T #[] hT
        have gT : s'.heap.get? T = some (PySem.W.tabObj (#[] ++ more)) := hok' T _ hT'
        have all : ∀ b o, s₁.heap.get? b = some o → b ≠ T → s'.heap.get? b = some o := fun b o e hb => by
          cases q : H b with
          | none => exact un.keep b o e q (by intro z; exact absurd (show b ∈ ([] : List Addr) from z) (by simp)) (by simp)
          | some u =>
            rcases hA b (by rw [q]; simp) with e' | e'
            · subst e'
              obtain ⟨ob, xs, rfl⟩ := hF u q
              have z2 := un.frzs b ob _ q
              obtain ⟨e1, _⟩ := hok b _ q
              obtain ⟨e2, _⟩ := hok' b _ z2
              rw [e] at e1; cases e1
              exact e2
            · exact absurd e' hb
        refine ⟨rfl, ⟨fun b o e => ?_, fun b o e => ?_⟩, os, bare⟩
        · by_cases hb : b = T
          · subst hb
            rw [hP] at e
            cases e
            obtain ⟨o, vs', file, tf, flags, tg, inF, text, tt, c1, c2, c3, c4, _⟩ := hC
            exact .inr (.inl ⟨⟨c, o, vs', c1, c2, c3, c4⟩, rfl, #[], more, rfl, gT⟩)
          · exact .inl (all b o e hb)
        · by_cases hb : b = T
          · subst hb; exact ⟨_, gT⟩
          · exact ⟨o, all b o e hb⟩
  have hTa : T ≠ a := haT.symm
  cases hk : K.lookup a with
  | some o =>
    have e := KX a o hk
    rw [ha] at e
    cases e
    refine core (fun b => if b = T then some (.tbl #[]) else none) (.inr ⟨_, vs.toArray, _, hk, rfl, rfl, rfl, by rw [List.size_toArray, lenV]; exact hl, by simpa using rv⟩) (fun b u z => ?_) (if_pos rfl) (fun b z => ?_) (fun u z => ?_) fun z => ?_
    · by_cases hb : b = T
      · have z' := (if_pos hb).symm.trans z
        cases z'
        subst hb
        exact hP
      · have z' := (if_neg hb).symm.trans z
        cases z'
    · by_cases hb : b = T
      · exact .inr hb
      · exact absurd (if_neg hb) z
    · have z' := (if_neg haT).symm.trans z
      cases z'
    · exact absurd (if_neg haT) z
  | none =>
    refine core (fun b => if b = T then some (.tbl #[]) else if b = a then some (.frz { cls := .type "list", data := .seq vs.toArray } (.lst (ns.map V.int))) else none)
      (.inl (.inr ⟨{ cls := .type "list", data := .seq vs.toArray }, (if_neg haT).trans (if_pos rfl)⟩)) (fun b u z => ?_) (if_pos rfl) (fun b z => ?_) (fun u z => ?_) fun _ => hk
    · by_cases hb : b = T
      · have z' := (if_pos hb).symm.trans z
        cases z'
        subst hb
        exact hP
      · have z' := (if_neg hb).symm.trans z
        by_cases hb2 : b = a
        · have z2 := (if_pos hb2).symm.trans z'
          cases z2
          subst hb2
          exact ⟨ha, by rw [List.length_map]; exact hl, vs, _, rv, ha⟩
        · have z2 := (if_neg hb2).symm.trans z'
          cases z2
    · by_cases hb : b = T
      · exact .inr hb
      · by_cases hb2 : b = a
        · exact .inl hb2
        · exact absurd ((if_neg hb).trans (if_neg hb2)) z
    · have z' := ((if_neg haT).trans (if_pos rfl)).symm.trans z
      cases z'
      exact ⟨_, _, rfl⟩
/-- the goal that k_head leaves for a law whose program makes lambdas in one def: c its code, T its table -/
theorem walk_ofT {l : PySem.W.OpenLaw} {n k : Nat} {c T : Addr} {q : Program} {loose : List Str} {XP : (Str → Option Value) → Heap → Prop} {YP : World → Heap → Prop} {d : DefRec} {K : Params → PySem.W.Frag} {CX : CXT} {sp : PySem.W.Frag → Sp} {x : Str}
    (hn : l.most = some n) (hn2 : n ≤ sizeLine) (hdf : d.params.defaults = []) (hr : Room k callerA)
    (hY : ∀ (w : World) (h : Heap), YP w h → (K w.params).In h ∧ h.get? T = some (PySem.W.tabObj #[])) (hKP : ∀ w : World, (K w.params).lookup T = none) (hC : ∀ w : World, PySem.W.codeHdIn (K w.params) c T = true)
    (F : ∀ (w : World) (mg : Str → Option Value) (fa : Addr) (h : Heap), (K w.params).In h → h.Ns mainGlobals mg → mg d.name = some (.ref fa) →
      ∃ fd : FuncData, (∀ (s : Shared) (u : Value), BindsTo s fd ⟨[u], []⟩ [(x, u)]) ∧
        ∀ base : Heap, (K w.params).In base → base.Ns mainGlobals mg → base.BuiltinsAt mg T → FnOk l.prog w (K w.params) mg base CX k fa fd [x] (sp (K w.params)))
    (hsp : ∀ (K : PySem.W.Frag) (H : Hp) (a : Addr) (ns : List Int), ns.length ≤ n → SqL K H a (ns.map V.int) → H T = some (.tbl #[]) → sp K [.ref a] H (fun v _ => v = .bl true) fun _ _ _ => False)
    (hCX : ∀ (H : Hp) (s : Shared) (e : Value) (s' : Shared), CX [] H s (fun _ _ _ => False) e s' → False) :
    PySem.W.WalkO q loose XP YP l.row.toRowW d [] (fun f vs => PySem.call f vs) := by
  refine Att.attach_call hn hdf fun w s₀ s₁ mg mb fa o pm cd doc a vs ns G Y ho hd hcd hmg hobj hints hlen hg => ?_
  obtain ⟨KX, hP⟩ := hY w _ Y
  obtain ⟨fd, hb, hF⟩ := F w mg fa _ KX G.T.g hmg
  have hB : s₁.heap.BuiltinsAt mg T := by
    obtain ⟨bm, ob, b1, b2, b3, b4, b5, b6⟩ := G.T.bmain
    refine ⟨bm, ob, b1, b2, fun z => ?_, fun z => ?_, b3, b4, b5, b6⟩
    · obtain ⟨o', es, ep, e, hd', _⟩ := G.T.g
      rw [z, e] at b3; cases b3; rw [hd'] at b6; cases b6
    · rw [z, hP] at b3; cases b3; cases b4
  exact law_callT KX G.T.g G.T.b G.T.builtins G.T.nolimit hg hobj hints (Nat.le_trans hlen hn2) hr hP (hKP w) (PySem.W.codeHd_of_K KX (hC w)) hB hF hb (fun H hS hT => hsp (K w.params) H a ns hlen hS hT) fun H e s' => hCX H s₁ e s'
end L2

set_option linter.all false
set_option maxRecDepth 100000
set_option maxHeartbeats 4000000
/-! A lambda of one parameter, called from built-in code under the frame that made it. -/
namespace L2
open PySem PySem.Spec PyProof.Rows
open PySem.W (envX kla_obj kla_fn)
/-- the context of a lambda's body -/
def lamCx (X : Cx) (A : Around) (qual : Str) (sc : Scope) (N' : List Str) (cl : List (Str × Addr)) (s : Shared) (H : Hp) (f : Addr) (cd : Value) : Cx :=
  { X with A := A.deeper (envX qual sc s.heap.objs.size f cd cl), N := N', s₀ := s, H₀ := H, env := envX qual sc s.heap.objs.size f cd cl, outer := X.stack, stack := envX qual sc s.heap.objs.size f cd cl :: X.stack, ex := [], fn := fun _ => false, calm := true, pn := [], xe := fun _ _ => False }
/-- the names that it takes from around it -/
def LCaps (X : Cx) (sc : Scope) (cl : List (Str × Addr)) : List Str → List Nat → Prop
  | [], [] => True
  | y :: ys, j :: js => X.N[j]? = some y ∧ X.env.kindOf y = some .cell ∧ cl.lookup y = X.env.cells.lookup y ∧ sc.names.lookup y = some .free ∧ LCaps X sc cl ys js
  | _, _ => False
theorem LCaps.get {X : Cx} {sc : Scope} {cl : List (Str × Addr)} : ∀ {ys : List Str} {js : List Nat} {i : Nat} {y : Str}, LCaps X sc cl ys js → ys[i]? = some y →
    ∃ j, js[i]? = some j ∧ X.N[j]? = some y ∧ X.env.kindOf y = some .cell ∧ cl.lookup y = X.env.cells.lookup y ∧ sc.names.lookup y = some .free
  | [], [], i, y, _, e => by simp at e
  | _ :: _, j :: _, 0, y, h, e => by
    simp at e
    subst e
    exact ⟨j, rfl, h.1, h.2.1, h.2.2.1, h.2.2.2.1⟩
  | _ :: _, _ :: _, i + 1, y, h, e => by
    have q := LCaps.get (i := i) (y := y) h.2.2.2.2 (by simpa using e)
    simpa using q
  | [], _ :: _, _, _, h, _ => False.elim h
  | _ :: _, [], _, _, h, _ => False.elim h
theorem LCaps.len {X : Cx} {sc : Scope} {cl : List (Str × Addr)} : ∀ {ys : List Str} {js : List Nat}, LCaps X sc cl ys js → ys.length = js.length
  | [], [], _ => rfl
  | _ :: _, _ :: _, h => by simp [LCaps.len h.2.2.2.2]
  | [], _ :: _, h => False.elim h
  | _ :: _, [], h => False.elim h
section
variable {X : Cx} {A : Around} {qual x : Str} {sc : Scope} {ys : List Str} {js : List Nat} {cl : List (Str × Addr)} {f : Addr} {cd : Value}
theorem inv_lam {pins : List (Addr × Obj)} {σ : St} {H : Hp} {s : Shared} {h₁ : Heap} {m : Str → Option Value} {v : V} {u : Value} {tk : Nat} (I : Inv X pins σ H s) (hh : A.handled = none) (hf : A.frames = some X.stack)
    (hkind : sc.kind = .function) (hx : sc.names.lookup x = some .local) (hcap : LCaps X sc cl ys js) (hin : ∀ y c, cl.lookup y = some c → X.env.cells.lookup y = some c) (hhas : ∀ y, (sc.names.lookup y = some .cell ∨ sc.names.lookup y = some .free) → ∃ c, cl.lookup y = some c)
    (kp : ∀ b o, s.heap.get? b = some o → h₁.get? b = some o) (hn : h₁.Ns s.heap.objs.size m) (hm : m x = some u) (r : RelV v u) :
    Inv (lamCx X A qual sc (x :: ys) cl s H f cd) [] (some v :: capt σ js) H { s with heap := h₁, toks := tk } := by
  have noA : ∀ b : Addr, b ∉ (lamCx X A qual sc (x :: ys) cl s H f cd).ex := fun b z => absurd (show b ∈ ([] : List Addr) from z) (by simp)
  refine ⟨⟨I.ok.mod, hkind, rfl, rfl, Nat.le_refl _, fun y z c h1 h2 => I.ok.inj y z c (hin y c h1) (hin z c h2), hhas, (fun _ _ z => nomatch z), fun _ => hh, Around.frames_deeper hf, .inr ⟨rfl, rfl⟩, fun b z => absurd z (noA b), I.bs, Nat.le_trans I.ok.bsz I.sz, fun b _ _ => noA b, fun b z => absurd z (noA b), I.stack, I.stkFree⟩,
    rfl, I.bare, Un.kept kp, ⟨m, hn, fun i y v' e1 e2 e3 => ?_⟩, fun y c e => ?_, I.hok.fresh (Nat.le_refl _), fun y c e => I.freeC y c (hin y c e), fun p hp => ?_, I.hok.kept kp, ?_⟩
  · cases i with
    | zero =>
      have z : some v = some v' := by simpa using e2
      cases z
      have z : x = y := by simpa [lamCx] using e1
      subst z
      exact ⟨u, r, .inl ⟨hx, hm⟩⟩
    | succ i =>
      have e1' : ys[i]? = some y := by simpa [lamCx] using e1
      have e2' : (capt σ js)[i]? = some (some v') := by simpa using e2
      obtain ⟨j, q1, q2, q3, q4, q5⟩ := hcap.get e1'
      unfold capt at e2'
      rw [List.getElem?_map, q1] at e2'
      have e2'' : (σ[j]?).join = some v' := by simpa using e2'
      have e3' : σ[j]? = some (some v') := by
        cases z : σ[j]? with
        | none => rw [z] at e2''; cases e2''
        | some o =>
          cases o with
          | none => rw [z] at e2''; cases e2''
          | some w' => rw [z] at e2''; cases e2''; rfl
      obtain ⟨m0, _, hl⟩ := I.loc
      obtain ⟨u', r', l⟩ := hl j y v' q2 e3' (.inr (.inl q3))
      refine ⟨u', r', .inr ⟨.inr q5, ?_⟩⟩
      rcases l with ⟨l1, _⟩ | ⟨_, c, l2, l3⟩
      · rw [q3] at l1; cases l1
      · obtain ⟨o, ho, hd⟩ := l3
        exact ⟨c, q4.trans l2, o, kp c o ho, hd⟩
  · obtain ⟨v', o, ho, hd⟩ := I.cell y c (hin y c e)
    exact ⟨v', o, kp c o ho, hd⟩
  · exact absurd (show p ∈ ([] : List (Addr × Obj)) from hp) (by simp)
  · show (some v :: capt σ js).length = (x :: ys).length
    unfold capt
    rw [List.length_cons, List.length_cons, List.length_map, hcap.len]
/-- the lambda is called -/
theorem lam_call {name : Str} {params : Arguments} {body : Expr} {pm ctv : Value} {c' : Addr} {te : TE} {pins : List (Addr × Obj)} {σ : St} {H : Hp} {s : Shared} {v : V} {u : Value} {Q : VK} {k : Nat} (I : Inv X pins σ H s) (hr : Room (k + 1) A) (hf : A.frames = some X.stack)
    (ho : s.heap.get? f = some (kla_obj name qual params body sc cl pm c' ctv)) (hcd : s.heap.CodeRec (.ref c') qual)
    (hbind : bindArgs (kla_fn name qual params body sc cl pm (.ref c') ctv) ⟨[u], []⟩ = pure [(x, u)])
    (hco : sc.isCoroutine = false) (hgen : sc.isGenerator = false) (hkind : sc.kind = .function) (hcell : ∀ y ∈ sc.names, y.2 ≠ .cell)
    (hx : sc.names.lookup x = some .local) (hcap : LCaps X sc cl ys js) (hin : ∀ y c, cl.lookup y = some c → X.env.cells.lookup y = some c) (hhas : ∀ y, (sc.names.lookup y = some .cell ∨ sc.names.lookup y = some .free) → ∃ c, cl.lookup y = some c)
    (he : Room k (lamCx X A qual sc (x :: ys) cl s H f (.ref c')).A → PE (lamCx X A qual sc (x :: ys) cl s H f (.ref c')) body te) (r : RelV v u) (h : te (some v :: capt σ js) H Q) :
    wpAny (model X.prog X.w) A (call (.ref f) [u]) (EP X pins σ Q) (fun _ _ => False) s := by
  refine wpAny_call ?_
  refine PySem.W.kla_callFunE hr.depth ho rfl hco hgen rfl hcd ?_
  rw [hbind]
  refine wpAny_pure (wpAny_newFunctionEnv hcell (fun y hy => ?_) (fun h₁ hns hsb => ?_) hkind)
  · rcases List.mem_cons.mp hy with rfl | hy
    · exact hx
    · cases hy
  have kp : ∀ b o, s.heap.get? b = some o → h₁.get? b = some o := fun b o e => hsb.extBut b o (Nat.ne_of_lt (Heap.lt_size e)) (Heap.get?_push_of_some _ e)
  refine ⟨I.nolimit.keeps kp, ?_⟩
  show codeAny _ _ (.expr body (envX qual sc s.heap.objs.size f (.ref c') cl)) _ _
  have J := inv_lam (qual := qual) (f := f) (cd := .ref c') (tk := s.toks + [(x, u)].length) I hr.hd hf hkind hx hcap hin hhas kp hns (by simp) r
  refine PySem.W.kla_codeExpr (wpAny_mono (he (hr.deeper _) [] _ _ _ _ J h) (fun u' s' hs => ?_) fun _ _ z => False.elim z)
  obtain ⟨v', H', J', r', q⟩ := hs
  exact I.after (u := u') ⟨v', H', J'.os, J'.bare, J'.base, J'.hok, r', q⟩
end
end L2

set_option linter.all false
set_option maxRecDepth 100000
set_option maxHeartbeats 4000000
/-! A lambda made; a range's numbers collected; an untracked object tracked. -/
namespace L2
open PySem PySem.Spec PyProof.Rows
open PySem.W (envX kla_obj kla_fn)
section
variable {prog : Program} {w : World} {A : Around} {E : Value → Shared → Prop} {s : Shared}
theorem collect_rng {r : Addr} {a b c : Int} {t u v : Tok} {n : Nat} {Q : List Value → Shared → Prop} (hh : A.handled = none) (hr : IsRange s.heap r a b c t u v) (hsmall : Builtin.Range.small a b c = true) (hn : Builtin.Range.rangeSize a b c = n) (hlen : n ≤ 2 ^ 24)
    (h : ∀ h' tk (acc : Array Value), (∀ b o, s.heap.get? b = some o → h'.get? b = some o) → ItemsOf (fun i v => ∃ t, v = .int (a + i * c) t) acc n → Q acc.toList { s with heap := h', toks := tk }) :
    wpAny (model prog w) A (collect (.ref r)) Q E s := by
  unfold collect
  refine wpAny_bind (wpAny_runValue (codeAny_builtin PySem.F.entry_proto_collect ?_))
  rw [Around.under_plainId PySem.F.plain_proto_collect _]
  show wpAny _ A.in1 (newList [] >>= fun l => again (.builtin "list.__iadd__" ⟨[l, .ref r], []⟩)) _ _ s
  refine wpAny_bind (wpAny_newObj_type ?_)
  refine wpAny_pure ⟨plainId_quiet PySem.F.plain_list_iadd _, codeAny_builtin PySem.F.entry_list_iadd ?_⟩
  rw [Around.under_plainId PySem.F.plain_list_iadd _]
  show wpAny _ A.in1 (Builtin.List.listExtendWith (.ref s.heap.objs.size) (.ref r) (.ref s.heap.objs.size)) _ _ _
  have hS : (s.heap.push { cls := .type "list", data := .seq ([] : List Value).toArray }).get? s.heap.objs.size = some { cls := .type "list", data := .seq #[] 0 } := Heap.get?_push_size _ rfl
  refine wpAny_extend_range (R := fun r s' => match r with
      | .ok (.ret v) => wpAny (model prog w) A (match v with
        | .ref a => (do
          let o ← load a
          match o.data with
          | .seq xs _ => pure xs.toList
          | _ => unsupported "internal:collect")
        | _ => unsupported "internal:collect") Q E s'
      | .ok _ => False
      | .error e => E e s') (s := { s with heap := s.heap.push { cls := .type "list", data := .seq ([] : List Value).toArray } }) hh (Heap.get?_push_of_some _ hr) hsmall hn hlen s.heap.objs.size (.ref s.heap.objs.size) 0 hS fun h' tk acc' c' hk hS' hacc => ?_
  show wpAny (model prog w) A (do
      let o ← load s.heap.objs.size
      match o.data with
      | .seq xs _ => pure xs.toList
      | _ => unsupported "internal:collect") Q E { s with heap := h', toks := tk }
  refine wpAny_bind (wpAny_load hS' ?_)
  exact wpAny_pure (h h' tk acc' (fun b o e => hk b o (Nat.ne_of_lt (Heap.lt_size e)) (Heap.get?_push_of_some _ e)) hacc)
end
/-- a code record -/
def cod (c' : Addr) (qual : Str) : HO := .ext fun h => h.CodeRec (.ref c') qual
/-- a code table that has the lambda's code, or not yet -/
def TabIn (T : Addr) (pos : Pos) (qual : Str) (H : Hp) (c' : Addr) : Prop := ∃ ps, H T = some (.tbl ps) ∧ TriplesOk ps.toList ∧ codeAmong pos ps.toList = some (.ref c') ∧ H c' = some (cod c' qual)
def TabOk (T : Addr) (pos : Pos) (qual : Str) (H : Hp) : Prop := (∃ ps, H T = some (.tbl ps) ∧ TriplesOk ps.toList ∧ codeAmong pos ps.toList = none) ∨ ∃ c', TabIn T pos qual H c'
theorem TabOk.new {T : Addr} {pos : Pos} {qual : Str} {H : Hp} (h : H T = some (.tbl #[])) : TabOk T pos qual H := .inl ⟨#[], h, trivial, rfl⟩
theorem cod_ok {P : Program} {w : World} {H : Hp} {h : Heap} {c' : Addr} {qual : Str} (x : h.CodeRec (.ref c') qual) : ObjOk P w H h c' (cod c' qual) := by
  refine ⟨x, ?_, fun h1 h2 y k => ?_⟩
  · obtain ⟨c, oc, vs, tq, e, ho, _⟩ := x
    cases e
    exact ⟨oc, ho⟩
  · obtain ⟨c, oc, vs, tq, e, ho, r⟩ := y
    cases e
    exact ⟨c', oc, vs, tq, rfl, k oc ho, r⟩
section
variable {X : Cx} {pins : List (Addr × Obj)} {σ : St} {H : Hp} {s : Shared}
theorem Inv.trackU {a : Addr} {o : HO} (I : Inv X pins σ H s) (f : FpOk X pins H a) (hx : X.s₀.heap.get? a = none) (new : ObjOk X.prog X.w (upd H a o) s.heap a o) : Inv X pins σ (upd H a o) s := by
  obtain ⟨f0, f1, f2, f3, f4, f5⟩ := f
  have ne0 : ∀ b o, X.s₀.heap.get? b = some o → b ≠ a := fun b o e z => by rw [z, hx] at e; cases e
  have neH : ∀ b u, H b = some u → b ≠ a := fun b u e z => by rw [z, f0] at e; cases e
  refine ⟨I.ok, I.os, I.bare, ⟨I.base.keep, I.base.slot, fun b o e n he => ?_, I.base.there, fun b xs e => ?_, fun b o u e => ?_, fun b ps e => ?_⟩, I.loc, I.cell, ?_, fun x c e => ?_, fun p hp => ?_, fun b u e => ?_, I.len⟩
  · rw [upd_ne (ne0 b o e)]; exact I.base.free b o e n he
  · have := I.base.tups b xs e
    rw [upd_ne (neH _ _ this)]; exact this
  · have := I.base.frzs b o u e
    rw [upd_ne (neH _ _ this)]; exact this
  · obtain ⟨more, q⟩ := I.base.tbls b ps e
    exact ⟨more, by rw [upd_ne (neH _ _ q)]; exact q⟩
  · rw [upd_ne (Ne.symm f1)]; exact I.free
  · rw [upd_ne (f4 x c e)]; exact I.freeC x c e
  · obtain ⟨q1, q2, q3⟩ := I.pin p hp
    exact ⟨q1, by rw [upd_ne (f5 p hp)]; exact q2, q3⟩
  · by_cases hb : b = a
    · subst hb
      rw [upd_same] at e
      cases e
      exact new
    · rw [upd_ne hb] at e
      exact (I.hok b u e).stay (fun c v _ q => q) (fun c q => by rw [upd_ne (neH _ _ q)]; exact q) fun c xs q => by rw [upd_ne (neH _ _ q)]; exact q
/-- the table grows -/
theorem Inv.grow {T c' : Addr} {ps more : Array Value} {h' : Heap} {t' : Nat} {qual : Str} (I : Inv X pins σ H s) (hT : H T = some (.tbl ps)) (hx : Heap.ExtBut T s.heap h') (hc : s.heap.objs.size ≤ c') (hrec : h'.CodeRec (.ref c') qual) (hP : h'.get? T = some (PySem.W.tabObj (ps ++ more))) :
    Inv X pins σ (upd (upd H T (.tbl (ps ++ more))) c' (cod c' qual)) { s with heap := h', toks := t' } := by
  have nc : H c' = none := I.hok.fresh hc
  have hTc : T ≠ c' := fun z => by rw [z, nc] at hT; cases hT
  have neT : ∀ b, H b = none → b ≠ T := fun b n z => by rw [z, hT] at n; cases n
  have up : ∀ b, b ≠ T → b ≠ c' → upd (upd H T (.tbl (ps ++ more))) c' (cod c' qual) b = H b := fun b h1 h2 => by rw [upd_ne h2, upd_ne h1]
  have neH : ∀ b u, H b = some u → b ≠ c' := fun b u e z => by rw [z, nc] at e; cases e
  have nes : ∀ b o, s.heap.get? b = some o → b ≠ c' := fun b o e => Nat.ne_of_lt (Nat.lt_of_lt_of_le (Heap.lt_size e) hc)
  refine I.un ⟨fun b o e n _ _ => hx b o (neT b n) e, fun b o e n _ _ => ⟨o.slots, hx b o (neT b n) e⟩, fun b o e n _ => ?_, fun b o e _ => ?_, fun b xs e => ?_, fun b o u e => ?_, fun b qs e => ?_⟩ fun b u e => ?_
  · rw [up b (neT b n) (nes b o e)]; exact n
  · by_cases hb : b = T
    · rw [hb]; exact ⟨_, hP⟩
    · exact ⟨o, hx b o hb e⟩
  · have : b ≠ T := fun z => by rw [z, hT] at e; cases e
    rw [up b this (neH _ _ e)]; exact e
  · have : b ≠ T := fun z => by rw [z, hT] at e; cases e
    rw [up b this (neH _ _ e)]; exact e
  · by_cases hb : b = T
    · subst hb
      rw [hT] at e
      cases e
      exact ⟨more, by rw [upd_ne hTc, upd_same]⟩
    · exact ⟨#[], by rw [up b hb (neH _ _ e), e]; simp⟩
  · by_cases hb : b = c'
    · subst hb
      rw [upd_same] at e
      cases e
      exact cod_ok hrec
    · by_cases hb2 : b = T
      · subst hb2
        rw [upd_ne hTc, upd_same] at e
        cases e
        exact hP
      · rw [up b hb2 hb] at e
        refine (I.hok b u e).stay (fun c v hc' q => hx c v ?_ q) (fun c q => ?_) fun c xs q => ?_
        · rintro rfl
          rcases hc' with z | z
          · exact hb2 z.symm
          · rw [hT] at z; cases z
        · have : c ≠ T := fun z => by rw [z, hT] at q; cases q
          rw [up c this (neH _ _ q)]; exact q
        · have : c ≠ T := fun z => by rw [z, hT] at q; cases q
          rw [up c this (neH _ _ q)]; exact q
theorem Inv.add {a : Addr} {o : Obj} (I : Inv X pins σ H s) (f : FpOk X pins H a) (e : s.heap.get? a = some o) (hd : ∀ v, o.data ≠ .cell v) : Inv X ((a, o) :: pins) σ H s :=
  I.pins_of fun p hp => by
    rcases List.mem_cons.mp hp with rfl | hp
    · exact ⟨e, f.1, f.2.1, f.2.2.1, hd⟩
    · exact I.pin p (List.mem_append_right _ hp)
theorem Inv.sub {p : Addr × Obj} (I : Inv X (p :: pins) σ H s) : Inv X pins σ H s := I.pins_of fun q hq => I.pin q (List.mem_append_right _ (List.mem_cons_of_mem _ hq))
theorem Inv.hd {p : Addr × Obj} (I : Inv X (p :: pins) σ H s) : s.heap.get? p.1 = some p.2 ∧ H p.1 = none := let ⟨a, b, _⟩ := I.pin p (List.mem_append_right _ (List.mem_cons_self ..)); ⟨a, b⟩
/-- the lambda is made -/
theorem lam_make {c T : Addr} {params : Arguments} {body : Expr} {sc : Scope} {cl : List (Str × Addr)} {pos : Pos} {Q : Value → Shared → Prop} {E : Value → Shared → Prop} {A : Around} {M : Model} (I : Inv X pins σ H s) (hcode : X.env.code = .ref c) (C : PySem.W.CodeHd X.base c T) (hB : X.base.BuiltinsAt X.mg T)
    (hcl : closureFor sc X.env = pure cl) (hdef : defaultsOf params X.env = ([], [])) (hT : TabOk T pos (X.env.qual ++ "<lambda>") H)
    (h : ∀ f c' ctv H' s', Inv X ((f, kla_obj "<lambda>" (X.env.qual ++ "<lambda>") params body sc cl ((X.mg "__name__").getD .none) c' ctv) :: pins) σ H' s' → TabIn T pos (X.env.qual ++ "<lambda>") H' c' → (∀ b o, b ≠ T → H b = some o → H' b = some o) → Q (.ref f) s') :
    wpAny M A (eval (.Lambda params body sc pos) X.env) Q E s := by
  refine PySem.W.kla_eval hdef ?_
  have hg := I.mod.glob.keeps I.bk
  have hBs : s.heap.BuiltinsAt X.mg T := by
    obtain ⟨bm, o, b1, b2, b3, b4, b5, r⟩ := hB
    exact ⟨bm, o, b1, b2, b3, b4, I.bk _ _ b5, r⟩
  rcases hT with ⟨ps, hT, ht, hnf⟩ | ⟨c', ps, hT, ht, hf, hc'⟩
  · have hP : s.heap.get? T = some (PySem.W.tabObj ps) := I.hok T _ hT
    have hgP : mainGlobals ≠ T := fun q => by
      obtain ⟨o, es, ep, e, hd, _⟩ := hg
      rw [q, hP] at e; cases e; cases hd
    refine PySem.W.kla_makeFunction (mg := X.mg) hcl I.ok.glob hg hcode (C.keeps I.bk) hP ht hnf hgP hBs fun c' ctv h' tk hx hge hlt hrec htb => ?_
    have I1 := I.grow (t' := tk) hT hx hge hrec htb
    have hle : s.heap.objs.size ≤ h'.objs.size := Nat.le_of_lt (Nat.lt_of_le_of_lt hge hlt)
    have I2 : Inv X pins σ _ { s with heap := h'.push (kla_obj "<lambda>" (X.env.qual ++ "<lambda>") params body sc cl ((X.mg "__name__").getD .none) c' ctv), toks := tk } := I1.kept (t' := tk) fun b u e => Heap.get?_push_of_some _ e
    have nf := I1.hok.fresh (Nat.le_refl h'.objs.size)
    have hcT : T ≠ c' := fun z => by rw [← z] at hge; exact absurd (Heap.lt_size hP) (Nat.not_lt.mpr hge)
    refine h h'.objs.size c' ctv _ _ (I2.add (I1.fpOk (Nat.le_refl _) nf) (Heap.get?_push_size _ rfl) fun v z => by cases z) ⟨_, by rw [upd_ne hcT, upd_same], ?_, ?_, upd_same⟩ fun b o hb e => ?_
    · have e1 : (ps ++ #[rawInt pos.line, rawInt pos.col, Value.ref c']).toList = ps.toList ++ [rawInt pos.line, rawInt pos.col, Value.ref c'] := by simp
      rw [e1]
      exact TriplesOk_snoc _ _ _ _ ht
    · have e1 : (ps ++ #[rawInt pos.line, rawInt pos.col, Value.ref c']).toList = ps.toList ++ [rawInt pos.line, rawInt pos.col, Value.ref c'] := by simp
      rw [e1]
      exact codeAmong_snoc _ ht hnf
    · have : b ≠ c' := fun z => by rw [z, I.hok.fresh hge] at e; cases e
      rw [upd_ne this, upd_ne hb]; exact e
  · have hP : s.heap.get? T = some (PySem.W.tabObj ps) := I.hok T _ hT
    refine PySem.W.kla_makeFunctionHit (mg := X.mg) hcl I.ok.glob hg hcode (C.keeps I.bk) hP ht hf hBs fun ctv h' tk hk hsz => ?_
    have I1 : Inv X pins σ H { s with heap := h', toks := tk } := I.kept hk
    have I2 : Inv X pins σ H { s with heap := h'.push (kla_obj "<lambda>" (X.env.qual ++ "<lambda>") params body sc cl ((X.mg "__name__").getD .none) c' ctv), toks := tk } := I1.kept (t' := tk) fun b u e => Heap.get?_push_of_some _ e
    exact h h'.objs.size c' ctv _ _ (I2.add (I1.fpOk (Nat.le_refl _) (I1.hok.fresh (Nat.le_refl _))) (Heap.get?_push_size _ rfl) fun v z => by cases z) ⟨ps, hT, ht, hf, hc'⟩ fun b o _ e => e
end
end L2

set_option linter.all false
set_option maxRecDepth 100000
set_option maxHeartbeats 4000000
/-! sorted(range(n), key = lambda k: ..) -/
namespace L2
open PySem PySem.Spec PyProof.Rows
open PySem.W (envX kla_obj kla_fn)
section
variable {prog : Program} {w : World} {A : Around} {E : Value → Shared → Prop} {s : Shared} {a kS : Addr} {vs : List Value} {kz : List Int} {keys : Array Value} {e e1 : Nat} {P : PySem.Fin → Shared → Prop} {Ψ : Shared → Prop}
theorem sk_rest2 {f : Value} (I : Ψ s) (ok : Outlives Ψ kS) (oa : Outlives Ψ a) (nk : s.heap.get? kS = some (seqObj "list" #[] 0)) (na : s.heap.get? a = some (seqObj "list" #[] e1)) (hka : kS ≠ a) (hlen : kz.length = vs.length) (h64 : vs.length < 64)
    (turn : ∀ (i : Nat) (v : Value) (k : Int), vs[i]? = some v → kz[i]? = some k → ∀ (s : Shared) kA e, Ψ s → s.heap.get? kS = some (seqObj "list" kA e) → s.heap.get? a = some (seqObj "list" #[] e1) →
      wpAny (model prog w) A (call f [v]) (fun u s' => (∃ t', u = .int k t') ∧ Ψ s' ∧ s'.heap.get? kS = some (seqObj "list" kA e) ∧ s'.heap.get? a = some (seqObj "list" #[] e1)) (fun _ _ => False) s)
    (h : ∀ s' out c, Ψ s' → s'.heap.get? a = some (seqObj "list" out c) → KskOut false kz vs out.toList → P (.done (.ret .none)) s') :
    wpAny (model prog w) A (ksk_rest a f false vs.toArray e1 (.ref kS)) P E s := by
  unfold ksk_rest
  refine wpAny_bind (wpAny_rule ?_)
  first
    | rw [List.forIn_toArray]
    | (rw [← Array.forIn_toList]; simp only [List.toList_toArray])
    | rw [← Array.forIn_toList]
  refine wpAny_bind (ksk_fold (fun i s' => ∃ kA e, Ψ s' ∧ s'.heap.get? kS = some (seqObj "list" kA e) ∧ s'.heap.get? a = some (seqObj "list" #[] e1) ∧ IntsAre kA.toList (kz.take i)) vs 0 s ⟨#[], 0, I, nk, na, by simpa using IntsAre.nil⟩ ?step ?done)
  case step =>
    rintro j x s' hx ⟨kA, e, I', nk', na', hk⟩
    simp only [Nat.zero_add] at hk ⊢
    have hj : j < vs.length := (List.getElem?_eq_some_iff.mp hx).1
    obtain ⟨k, hkj⟩ : ∃ k, kz[j]? = some k := ⟨_, List.getElem?_eq_getElem (by omega)⟩
    have hz : kA.size ≤ vs.length := by
      have h1 := hk.length
      rw [Array.length_toList, List.length_take] at h1
      omega
    refine wpAny_bind (wpAny_attempt (wpAny_mono (turn j x k hx hkj s' _ _ I' nk' na') (fun v s'' he => ?_) fun _ _ hF => hF.elim))
    obtain ⟨⟨t2, rfl⟩, I2, nk2, na2⟩ := he
    try dsimp only
    have s1 := Heap.SameBut.update s''.heap kS (Obj.mapSeq (·.push (.int k t2)))
    obtain ⟨c2, hc2⟩ : ∃ c2, (s''.heap.update kS (Obj.mapSeq (·.push (.int k t2)))).get? kS = some (seqObj "list" (kA.push (.int k t2)) c2) := ⟨_, get?_update_seq nk2 (·.push (.int k t2))⟩
    have ek : kz.take (j + 1) = kz.take j ++ [k] := by rw [List.take_add_one, hkj]; simp
    have ea : (kA.push (Value.int k t2)).toList = kA.toList ++ [Value.int k t2] := by simp
    refine wpAny_bind (listUpdate_at nk2 rfl ?_ (by rw [sizeLine_eq]; omega) (Nat.le_trans (Nat.le_of_eq (Array.size_push ..)) (by rw [sizeLine_eq]; omega)))
    exact wpAny_pure ⟨rfl, kA.push (.int k t2), c2, ok _ _ I2 s1, hc2, (s1.2 a hka.symm).trans na2, by rw [ea, ek]; exact ksk_snoc hk⟩
  case done =>
    rintro s' ⟨kA, e, I', nk', na', hk⟩
    have hk' : IntsAre kA.toList kz := by
      have e3 : kz.take (0 + vs.length) = kz := List.take_of_length_le (by omega)
      rw [e3] at hk
      exact hk
    try dsimp only
    refine wpAny_bind (listItems_at nk' rfl ?_)
    exact sk_end I' ok oa nk' na' hka hk' hlen h64 h
end
theorem out_ints {vs out : List Value} {ns : List Int} {g : Int → Int} (hi : IntsAre vs ns) (ko : KskOut false (ns.map g) vs out) : ∃ ns', IntsAre out ns' ∧ ns'.Perm ns ∧ ns'.Pairwise (fun x y => g x ≤ g y) := by
  have hlen := hi.length
  obtain ⟨ps, hp, ho, hs⟩ := ko
  have hrel : ∀ p, p ∈ (ns.map g).zip vs → p.1 = g (numOf p.2) ∧ p.2 ∈ vs := by
    rw [← hi.nums, List.map_map, List.zip_map_left]
    intro p hp
    obtain ⟨⟨u, v⟩, hq, rfl⟩ := List.mem_map.mp hp
    have h1 : u = v ∧ u ∈ vs := mem_zip_self hq
    refine ⟨?_, ?_⟩
    · show g (numOf u) = g (numOf v)
      rw [h1.1]
    · show v ∈ vs
      rw [← h1.1]
      exact h1.2
  have hI : IntsAre (ps.map Prod.snd) ((ps.map Prod.snd).map numOf) := intsAre_map _ fun v hv => by
    obtain ⟨p, hp', rfl⟩ := List.mem_map.mp hv
    exact hi.all _ (hrel p (hp.mem_iff.mp hp')).2
  have hP : ((ps.map Prod.snd).map numOf).Perm ns := by
    have h1 := (hp.map Prod.snd).map numOf
    rw [List.map_snd_zip (by rw [List.length_map]; omega), hi.nums] at h1
    exact h1
  have hO : ((ps.map Prod.snd).map numOf).Pairwise (fun x y => g x ≤ g y) := by
    rw [List.pairwise_map, List.pairwise_map]
    refine hs.imp_of_mem fun {p q} hp' hq' hr => ?_
    have hr' : p.1 ≤ q.1 := hr
    rw [(hrel p (hp.mem_iff.mp hp')).1, (hrel q (hp.mem_iff.mp hq')).1] at hr'
    exact hr'
  rw [← ho] at hI hP hO
  exact ⟨_, hI, hP, hO⟩
theorem ints_rng : ∀ (n : Nat) (us : List Value) (o : Nat), us.length = n → (∀ (j : Nat) v, us[j]? = some v → ∃ t, v = .int ((o + j : Nat) : Int) t) → IntsAre us ((List.range' o n).map fun (m : Nat) => (m : Int))
  | 0, [], _, _, _ => .nil
  | n + 1, u :: us, o, hl, h => by
    rw [List.range'_succ, List.map_cons]
    obtain ⟨t, rfl⟩ := h 0 u rfl
    refine .cons _ t (ints_rng n us (o + 1) (by simpa using hl) fun j v e => ?_)
    obtain ⟨t, rfl⟩ := h (j + 1) v (by simpa using e)
    exact ⟨t, by rw [show o + 1 + j = o + (j + 1) by omega]⟩
/-- the numbers below n -/
def below (n : Nat) : List Int := (List.range n).map fun (m : Nat) => (m : Int)
section
variable {X : Cx} {pins : List (Addr × Obj)} {σ : St} {H : Hp} {s : Shared}
theorem sorted_lam {f R : Addr} {n : Nat} {fo : Obj} {t₁ t₂ t₃ : Tok} {g : Int → Int} {Q E : Value → Shared → Prop} (hh : X.A.handled = none)
    (I : Inv X ((f, fo) :: (R, { cls := .type "range", data := .fields #[.int 0 t₁, .int n t₂, .int 1 t₃] }) :: pins) σ H s) (h64 : n < 64)
    (turn : ∀ (k : Nat) (t : Tok) (H' : Hp) (s' : Shared) (pins' : List (Addr × Obj)), k < n → Same H H' → Inv X ((f, fo) :: pins') σ H' s' →
      wpAny (model X.prog X.w) X.A.in1.in1 (call (.ref f) [.int k t]) (EP X ((f, fo) :: pins') σ fun v H2 => v = .int (g k) ∧ Same H' H2) (fun _ _ => False) s')
    (h : ∀ (D : Addr) (H2 : Hp) (s' : Shared) (ns : List Int), Inv X pins σ H2 s' → H D = none → Same H H2 → H2 D = some (.lst (ns.map V.int)) → ns.Perm (below n) → ns.Pairwise (fun x y => g x ≤ g y) → Q (.ref D) s') :
    wpAny (model X.prog X.w) X.A (call (.builtin "sorted") [.ref R] [(Str.ofString "key", .ref f)]) Q E s := by
  refine call_function_entry_kw kind_sorted plain_sorted entry_sorted (ksk_s1 _ _) ?_
  unfold Builtin.«sorted»
  refine wpAny_bind (m := checkCount "sorted" 1 1 _) (wpAny_pure ?_)
  have hR : IsRange s.heap R 0 n 1 t₁ t₂ t₃ := I.sub.hd.1
  refine wpAny_bind (collect_rng (A := X.A.in1) (n := n) hh hR (small_one (by omega) (by omega) (by omega) (by omega)) (by rw [PyProof.Rows.rangeSize_nat]; simp) (by omega) fun h1 tk1 acc hk hacc => ?_)
  have hal : acc.toList.length = n := by rw [Array.length_toList]; exact hacc.1
  refine wpAny_bind (wpAny_newList ?_ (by rw [hal, sizeLine_eq]; omega))
  have hi : IntsAre acc.toList (below n) := by
    unfold below
    rw [List.range_eq_range']
    refine ints_rng n acc.toList 0 hal fun j v e => ?_
    obtain ⟨t, rfl⟩ := hacc.2 j v (by simpa using e)
    exact ⟨t, by simp⟩
  have I1 := I.kept (t' := tk1) hk
  have I2 := I1.kept (t' := tk1) fun b o e => Heap.get?_push_of_some (seqObj "list" acc.toList.toArray 0) e
  have fa := I1.fpOk (Nat.le_refl _) (I1.hok.fresh (Nat.le_refl _))
  have xa : X.s₀.heap.get? h1.objs.size = none := Heap.get?_none_of_le I1.sz
  have ha : (h1.push (seqObj "list" acc.toList.toArray 0)).get? h1.objs.size = some (seqObj "list" acc.toList.toArray 0) := Heap.get?_push_size _ rfl
  refine wpAny_bind (wpAny_holding (wpAny_call_entry_kw slot_list_sort ⟨_, ha, rfl⟩ entry_list_sort ?body (ksk_l1 _ _)))
  case body =>
    show wpAny (model X.prog X.w) X.A.in1.in1 (Builtin.«list.sort» ⟨[.ref h1.objs.size], [(Str.ofString "key", .ref f)]⟩) _ _ { s with heap := h1.push (seqObj "list" acc.toList.toArray 0), toks := tk1 }
    rw [ksk_t1]
    have s1 := Heap.SameBut.update (h1.push (seqObj "list" acc.toList.toArray 0)) h1.objs.size (Obj.mapSeq fun _ => (#[] : Array Value))
    obtain ⟨e1, ho1⟩ : ∃ e1, ((h1.push (seqObj "list" acc.toList.toArray 0)).update h1.objs.size (Obj.mapSeq fun _ => (#[] : Array Value))).get? h1.objs.size = some (seqObj "list" #[] e1) := ⟨_, get?_update_seq ha fun _ => #[]⟩
    have I3 := I2.but s1 fa xa
    have I4 := I3.kept (t' := tk1) fun b o e => Heap.get?_push_of_some (seqObj "tuple" acc.toList.toArray 0) e
    have I5 := I4.kept (t' := tk1) fun b o e => Heap.get?_push_of_some (seqObj "list" #[] 0) e
    have fk := I4.fpOk (Nat.le_refl _) (I4.hok.fresh (Nat.le_refl _))
    have xk := Heap.get?_none_of_le I4.sz
    unfold ksk_tree
    refine wpAny_bind (listItems_at ha rfl ?_)
    refine wpAny_bind (listUpdate_at ha rfl ?_ (by rw [List.size_toArray, sizeLine_eq, hal]; omega) (Nat.zero_le _))
    refine wpAny_bind (seqEpoch_at ho1 rfl ?_)
    refine wpAny_bind (wpAny_newTuple ?_ (by show acc.toList.length ≤ _; rw [sizeLine_eq, hal]; omega))
    refine wpAny_bind (wpAny_newList ?_ (Nat.zero_le _))
    refine wpAny_holding ?_
    have na : (((h1.push (seqObj "list" acc.toList.toArray 0)).update h1.objs.size (Obj.mapSeq fun _ => (#[] : Array Value))).push (seqObj "tuple" acc.toList.toArray 0)).get? h1.objs.size = some (seqObj "list" #[] e1) := Heap.get?_push_of_some _ ho1
    generalize hkS : (((h1.push (seqObj "list" acc.toList.toArray 0)).update h1.objs.size (Obj.mapSeq fun _ => (#[] : Array Value))).push (seqObj "tuple" acc.toList.toArray 0)).objs.size = kS at fk xk
    have hka : kS ≠ h1.objs.size := fun z => by
      have := Heap.lt_size na
      rw [hkS, z] at this
      exact Nat.lt_irrefl _ this
    have nk : ((((h1.push (seqObj "list" acc.toList.toArray 0)).update h1.objs.size (Obj.mapSeq fun _ => (#[] : Array Value))).push (seqObj "tuple" acc.toList.toArray 0)).push (seqObj "list" #[] 0)).get? kS = some (seqObj "list" #[] 0) := by
      rw [← hkS]; exact Heap.get?_push_size _ rfl
    refine sk_rest2 (kz := (below n).map g) (Ψ := fun s' => ∃ H', Inv X ((f, fo) :: (R, { cls := .type "range", data := .fields #[.int 0 t₁, .int n t₂, .int 1 t₃] }) :: pins) σ H' s' ∧ Same H H' ∧ H' kS = none ∧ H' h1.objs.size = none)
      ⟨H, I5, fun _ _ e => e, fk.1, fa.1⟩ ?ok ?oa nk (Heap.get?_push_of_some _ na) hka (by rw [List.length_map, hi.length]) (by rw [hal]; exact h64) ?turn ?fin
    case ok =>
      rintro s' h' ⟨H', J, sm, z1, z2⟩ sb
      exact ⟨H', J.but sb ⟨z1, fk.2⟩ xk, sm, z1, z2⟩
    case oa =>
      rintro s' h' ⟨H', J, sm, z1, z2⟩ sb
      exact ⟨H', J.but sb ⟨z2, fa.2⟩ xa, sm, z1, z2⟩
    case turn =>
      rintro i v k hv hk s' kA e ⟨H', J, sm, z1, z2⟩ g1 g2
      have hin : i < n := by rw [← hal]; exact (List.getElem?_eq_some_iff.mp hv).1
      obtain ⟨t, rfl⟩ := hacc.2 i v (by simpa using hv)
      have hk' : g i = k := by
        unfold below at hk
        rw [List.getElem?_map, List.getElem?_map, List.getElem?_range hin] at hk
        exact Option.some.inj hk
      subst hk'
      have e0 : (0 : Int) + (i : Int) * 1 = i := by omega
      rw [e0]
      have J2 : Inv X ((f, fo) :: (kS, seqObj "list" kA e) :: (h1.objs.size, seqObj "list" #[] e1) :: (R, { cls := .type "range", data := .fields #[.int 0 t₁, .int n t₂, .int 1 t₃] }) :: pins) σ H' s' := by
        refine J.pins_of fun p hp => ?_
        rcases List.mem_cons.mp hp with rfl | hp
        · exact J.pin _ (List.mem_append_right _ (List.mem_cons_self ..))
        rcases List.mem_cons.mp hp with rfl | hp
        · exact ⟨g1, z1, fk.2.1, fk.2.2.1, fun _ z => by cases z⟩
        rcases List.mem_cons.mp hp with rfl | hp
        · exact ⟨g2, z2, fa.2.1, fa.2.2.1, fun _ z => by cases z⟩
        · exact J.pin p (List.mem_append_right _ (List.mem_cons_of_mem _ hp))
      refine wpAny_mono (turn i t H' s' _ hin sm J2) ?_ fun _ _ z => z
      rintro u' s'' ⟨v', H2, K, rv, ev, sm2⟩
      subst ev
      have p1 := K.pin (kS, seqObj "list" kA e) (List.mem_append_right _ (by simp))
      have p2 := K.pin (h1.objs.size, seqObj "list" #[] e1) (List.mem_append_right _ (by simp))
      refine ⟨rv, ⟨H2, K.pins_of fun p hp => K.pin p (List.mem_append_right _ ?_), fun b o e => sm2 b o (sm b o e), p1.2.1, p2.2.1⟩, p1.1, p2.1⟩
      rcases List.mem_cons.mp hp with rfl | hp
      · exact List.mem_cons_self ..
      · exact List.mem_cons_of_mem _ (List.mem_cons_of_mem _ (List.mem_cons_of_mem _ hp))
    case fin =>
      rintro s' out c ⟨H', J, sm, z1, z2⟩ ho ko
      obtain ⟨ns, hI, hP, hO⟩ := out_ints hi ko
      refine ⟨_, rfl, wpAny_pure ⟨_, rfl, ?_⟩⟩
      have hln : ns.length = n := by rw [hP.length_eq]; unfold below; simp
      have J2 := J.trackU (o := .lst (ns.map V.int)) ⟨z2, fa.2⟩ xa ⟨by rw [List.length_map, hln, sizeLine_eq]; omega, out.toList, c, vals_ints hI, by simpa using ho⟩
      refine h h1.objs.size _ s' ns J2.sub.sub fa.1 (fun b o e => ?_) upd_same hP hO
      rw [upd_ne (fun z => by have := sm b o e; rw [z, z2] at this; cases this)]
      exact sm b o e
end
end L2
namespace L2
open PySem PySem.Spec PyProof.Rows
open PySem.W (envX kla_obj kla_fn)
/-- sorted(range(n), key = a lambda): g is what the key tells of a number -/
def tSortLam (T : Addr) (pos : Pos) (qual : Str) (js : List Nat) (ta : TA) (te : TE) : TE := fun σ H Q => ta σ H fun vs H1 => ∃ n : Nat, vs = [.int n] ∧ n < 64 ∧ TabOk T pos qual H1 ∧ ∃ g : Int → Int,
  (∀ (k : Nat) (H' : Hp), k < n → (∀ b o, b ≠ T → H1 b = some o → H' b = some o) → te (some (.int k) :: capt σ js) H' fun v H2 => v = .int (g k) ∧ Same H' H2) ∧
  ∀ (D : Addr) (H2 : Hp) (ns : List Int), H1 D = none → (∀ b o, b ≠ T → H1 b = some o → H2 b = some o) → (∃ c', TabIn T pos qual H2 c') → H2 D = some (.lst (ns.map V.int)) → ns.Perm (below n) → ns.Pairwise (fun x y => g x ≤ g y) → Q (.ref D) H2
section
variable {X : Cx}
theorem pe_sortLam {c T : Addr} {k : Nat} {x : Str} {ys : List Str} {js : List Nat} {cl : List (Str × Addr)} {params : Arguments} {body : Expr} {sc : Scope} {a : Expr} {ta : TA} {te : TE} {p p' pos pos' lpos kpos : Pos}
    (hr : Room (k + 3) X.A) (hgl : X.env.kindOf "sorted" = some .globalImplicit) (hml : X.mg "sorted" = none) (hg : X.env.kindOf "range" = some .globalImplicit) (hm : X.mg "range" = none) (ha : PA X [a] ta) (h1 : nostar a = true)
    (hcode : X.env.code = .ref c) (C : PySem.W.CodeHd X.base c T) (hB : X.base.BuiltinsAt X.mg T) (hcl : closureFor sc X.env = pure cl) (hdef : defaultsOf params X.env = ([], []))
    (hbind : ∀ (pm ctv u : Value) (c' : Addr), bindArgs (kla_fn "<lambda>" (X.env.qual ++ "<lambda>") params body sc cl pm (.ref c') ctv) ⟨[u], []⟩ = pure [(x, u)])
    (hco : sc.isCoroutine = false) (hgen : sc.isGenerator = false) (hkind : sc.kind = .function) (hcell : ∀ y ∈ sc.names, y.2 ≠ .cell)
    (hx : sc.names.lookup x = some .local) (hcap : LCaps X sc cl ys js) (hin : ∀ y c, cl.lookup y = some c → X.env.cells.lookup y = some c) (hhas : ∀ y, (sc.names.lookup y = some .cell ∨ sc.names.lookup y = some .free) → ∃ c, cl.lookup y = some c)
    (he : ∀ (A : Around) (s : Shared) (H : Hp) (f c' : Addr), Room k (lamCx X A (X.env.qual ++ "<lambda>") sc (x :: ys) cl s H f (.ref c')).A → PE (lamCx X A (X.env.qual ++ "<lambda>") sc (x :: ys) cl s H f (.ref c')) body te) :
    PE X (.Call (.Name "sorted" p) [.Call (.Name "range" p') [a] [] pos'] [⟨some "key", .Lambda params body sc lpos, kpos⟩] pos) (tSortLam T lpos (X.env.qual ++ "<lambda>") js ta te) := by
  intro pins s σ H Q I h
  refine wpAny_Call_Name_kw (ld_blt (u := .builtin "sorted") I hgl hml (by decide +kernel) ?_)
  refine callWith_kw (id := "sorted") ?_
  show wpAny _ _ (spliced ((false, eval (.Call (.Name "range" p') [a] [] pos') X.env) :: backTo pos (starEach [] X.env))) _ _ s
  refine Calls.spliced_cons (Call_ (ld_blt I hg hm boot_range (PyProof.Rows.callWith_type1 (thn (ha pos' pins s σ H _ I h) fun us s1 ⟨vs, H1, I1, r1, q1⟩ => ?_) (star_plain h1) (any_plain (by simp)))))
  obtain ⟨n, e, h64, hT, g, hk, hq⟩ := q1
  subst e
  cases r1 with
  | cons r rr =>
    cases rr
    obtain ⟨t, rfl⟩ := r
    refine call_range_1 ?_
    refine Calls.spliced_nil ?_
    have I2 : Inv X pins σ H1 { s1 with heap := s1.heap.push { cls := .type "range", data := .fields #[.int 0 s1.toks, .int n t, .int 1 (s1.toks + 1)] }, toks := s1.toks + 1 + 1 } := I1.kept fun b o e => Heap.get?_push_of_some _ e
    have I3 := I2.add (I1.fpOk (Nat.le_refl _) (I1.hok.fresh (Nat.le_refl _))) (Heap.get?_push_size _ rfl) fun v z => by cases z
    show wpAny _ _ (evalAll [(do let v ← eval (.Lambda params body sc lpos) X.env; standAt pos; pure v)]) _ _ _
    refine wpAny_evalAll_cons (wpAny_bind (lam_make I3 hcode C hB hcl hdef hT fun f c' ctv H' s' I4 tab sm => wpAny_bind (wpAny_standAt (wpAny_pure (wpAny_evalAll_nil ?_)))))
    have nT : ∀ {H2 : Hp}, Same H' H2 → ∀ b o, b ≠ T → H1 b = some o → H2 b = some o := fun sm2 b o hb e => sm2 b o (sm b o hb e)
    refine sorted_lam (f := f) (g := g) hr.hd I4 h64 (fun k' t' H2 s2 pins' hk' sm2 J => ?_) fun D H2 s2 ns J hD sm2 hl hp ho => ?_
    · obtain ⟨ps, _, _, _, hc'⟩ := tab
      have hrec : s2.heap.CodeRec (.ref c') (X.env.qual ++ "<lambda>") := (J.hok c' _ (sm2 _ _ hc')).1
      exact lam_call (v := .int k') (k := k) J (A := X.A.in1.in1) hr.in1.in1 J.ok.frames J.hd.1 hrec (hbind _ _ _ _) hco hgen hkind hcell hx hcap hin hhas (fun hr' => he _ _ _ _ _ hr') ⟨t', rfl⟩ (hk k' H2 hk' (nT sm2))
    · obtain ⟨ps, q1, q2, q3, q4⟩ := tab
      exact ⟨.ref D, H2, J, rfl, hq D H2 ns (by
        cases z : H1 D with
        | none => rfl
        | some o =>
          by_cases hb : D = T
          · subst hb; rw [q1] at hD; cases hD
          · rw [sm D o hb z] at hD; cases hD) (nT sm2) ⟨c', ps, sm2 _ _ q1, q2, q3, sm2 _ _ q4⟩ hl hp ho⟩
end
end L2

set_option linter.all false
set_option maxRecDepth 100000
set_option maxHeartbeats 4000000
/-! d.setdefault(k, x), d.get(k, x); a def whose code is known; the wrapped rule of sorted by a lambda. -/
namespace L2
open PySem PySem.Spec PyProof.Rows
open PySem.W (envX kla_obj kla_fn)
section
variable {X : Cx} {A : Around} {E : Value → Shared → Prop} {pins : List (Addr × Obj)} {σ : St} {H : Hp} {s : Shared} {a : Addr} {kvs : List (Key × V)} {k : Key} {u : Value}
theorem d_setd {z : V} {r : Value} {Q : Value → Shared → Prop} (I : Inv X pins σ H s) (e : H a = some (.dK kvs)) (hz : kvs.length < sizeLine) (ry : RelV (kV k) u) (rz : RelV z r)
    (h1 : ∀ v w' s', valV kvs k = some v → Inv X pins σ H s' → RelV v w' → Q w' s') (h2 : valV kvs k = none → ∀ s', Inv X pins σ (upd H a (.dK (putK kvs k z))) s' → Q r s') :
    wpAny (model X.prog X.w) A (call (.builtin "dict.setdefault") [.ref a, u, r]) Q E s := by
  obtain ⟨z', hd, vs, rel, dd⟩ := dk_of I.hok e
  have val := rel.val k
  refine call_meetsIn PySem.F.slot_dict_setdefault dd.typeIs PySem.F.entry_dict_setdefault (PySem.F.args_dict_setdefault_3 _ _ _) (kt_meets_setdefault (mixKind X.prog X.w) a (kV_is ry) hd r) ⟨vs, dd, by rw [← rel.length]; exact z', fun w' hw => ?_, fun hn h' dd' hs => ?_⟩
  · rw [hw] at val
    cases q : valV kvs k with
    | none => rw [q] at val; exact False.elim val
    | some v => rw [q] at val; exact h1 v w' _ q (I.tok _) val
  · have hn' : valV kvs k = none := by
      rw [hn] at val
      cases q : valV kvs k with
      | none => rfl
      | some v => rw [q] at val; exact False.elim val
    refine h2 hn' _ ?_
    have he : ∃ q, h'.get? a = some q := let ⟨q, _, _, hq, _⟩ := dd'; ⟨q, hq⟩
    refine d_write I (by rw [e]; exact True.intro) hs he (dk_new ?_ hd (rel.put k rz) dd')
    have := length_putK kvs k z
    omega
end
def tDSetD (td ty tx : TE) : TE := fun σ H Q => td σ H fun x H1 => ∃ a, x = .ref a ∧ IsD H1 a ∧ ty σ H1 fun y H2 => tx σ H2 fun z H3 => ∃ kvs k, H3 a = some (.dK kvs) ∧ kvs.length < sizeLine ∧ y = kV k ∧
  (∀ v, valV kvs k = some v → Q v H3) ∧ (valV kvs k = none → Q z (upd H3 a (.dK (putK kvs k z))))
section
variable {X : Cx} {o e f : Expr} {apos cpos : Pos} {td ty tx : TE}
theorem pe_dsetd (ho : PE X o td) (he : PE X e ty) (hf : PE X f tx) (m : M2 X o "setdefault" apos e f cpos) : PE X (.Call (.Attribute o "setdefault" apos) [e, f] [] cpos) (tDSetD td ty tx) := by
  intro pins s σ H Q I h
  refine wpAny_Call_method m.base m.few m.line PySem.F.plainAttrs_dict PySem.F.slot_dict_setdefault PySem.F.type_dict_setdefault (thn (ho pins s σ H _ I h) fun u s1 ⟨x, H1, I1, rx, a, ex, d, q1⟩ => ?_)
  subst ex
  obtain rfl : u = Value.ref a := rx
  obtain ⟨t1, t2, _⟩ := isD_at I1 d
  refine ⟨t1, t2, ?_⟩
  rw [m.trees]
  refine Calls.callWith_builtin rfl (Calls.evalArgs_plain (Calls.spliced_cons (thn (he pins s1 σ H1 _ I1 q1) fun iv s2 ⟨y, H2, I2, ry, q2⟩ =>
    Calls.spliced_cons (thn (hf pins s2 σ H2 _ I2 q2) fun fv s3 ⟨z, H3, I3, rz, kvs, k, ea, hz, ey, g1, g2⟩ => Calls.spliced_nil ?_))))
  subst ey
  exact d_setd I3 ea hz ry rz (fun v w' s4 hv I4 rw' => ⟨_, H3, I4, rw', g1 v hv⟩) fun hn s4 I4 => ⟨_, _, I4, rz, g2 hn⟩
theorem e_dsetd (ho : QE X o td) (he : QE X e ty) (hf : QE X f tx) (h1 : nostar e = true := by rfl) (h2 : nostar f = true := by rfl) (hbase : attributeBase o "setdefault" X.env (eval o X.env) = eval o X.env := by rfl) (hline : (apos.endLine == cpos.line) = true := by rfl) :
    QE X (.Call (.Attribute o "setdefault" apos) [e, f] [] cpos) (tDSetD td ty tx) :=
  ⟨pe_dsetd ho.h he.h hf.h ⟨hbase, by rw [star_plain h1, star_plain h2]; rfl, hline, by rw [star_plain h1, star_plain h2]; rfl⟩⟩
theorem e_dget2 (hu : X.A.units + 1 < cLine) (ho : QE X o td) (he : QE X e ty) (hf : QE X f tx) (h1 : nostar e = true := by rfl) (h2 : nostar f = true := by rfl) (hbase : attributeBase o "get" X.env (eval o X.env) = eval o X.env := by rfl) (hline : (apos.endLine == cpos.line) = true := by rfl) :
    QE X (.Call (.Attribute o "get" apos) [e, f] [] cpos) (tDGet2 td ty tx) :=
  ⟨pe_dget2 hu ho.h he.h hf.h ⟨hbase, by rw [star_plain h1, star_plain h2]; rfl, hline, by rw [star_plain h1, star_plain h2]; rfl⟩⟩
end
/-- a name that a lambda takes from around it -/
theorem e_f {X : Cx} (i : Nat) {x : Str} {pos : Pos} (hN : X.N[i]? = some x := by kernel_rfl) (hv : X.env.scope.names.lookup x = some .free := by kernel_rfl) (hd : (x == ("__debug__" : Str)) = false := by kernel_rfl) (hcd : (x == ("__classdict__" : Str)) = false := by kernel_rfl) : QE X (.Name x pos) (tVar i) :=
  ⟨pe_var hN (.inr (.inr hv)) hd hcd⟩
theorem e_sortLam {X : Cx} {c T : Addr} {k : Nat} {x : Str} {params : Arguments} {body : Expr} {sc : Scope} {a : Expr} {t1 te : TE} {p p' pos pos' lpos kpos : Pos} (ys : List Str) (js : List Nat) (cl : List (Str × Addr))
    (hr : Room (k + 3) X.A) (hml : X.mg "sorted" = none) (hm : X.mg "range" = none) (hcode : X.env.code = .ref c) (C : PySem.W.CodeHd X.base c T) (hB : X.base.BuiltinsAt X.mg T) (ha : QE X a t1)
    (hcl : closureFor sc X.env = pure cl) (hcap : LCaps X sc cl ys js) (hin : ClIn X.env cl)
    (he : ∀ (A : Around) (s : Shared) (H : Hp) (f c' : Addr), Room k (lamCx X A (X.env.qual ++ "<lambda>") sc (x :: ys) cl s H f (.ref c')).A → QE (lamCx X A (X.env.qual ++ "<lambda>") sc (x :: ys) cl s H f (.ref c')) body te)
    (hx : sc.names.lookup x = some .local := by rfl) (hgl : X.env.kindOf "sorted" = some .globalImplicit := by kernel_rfl) (hg : X.env.kindOf "range" = some .globalImplicit := by kernel_rfl) (h1 : nostar a = true := by rfl)
    (hdef : defaultsOf params X.env = ([], []) := by rfl) (hbind : ∀ (pm ctv u : Value) (c' : Addr), bindArgs (kla_fn "<lambda>" (X.env.qual ++ "<lambda>") params body sc cl pm (.ref c') ctv) ⟨[u], []⟩ = pure [(x, u)] := by intros; rfl)
    (hco : sc.isCoroutine = false := by rfl) (hgen : sc.isGenerator = false := by rfl) (hkind : sc.kind = .function := by rfl) (hcell : (sc.names.all fun p => p.2 != NameKind.cell) = true := by rfl)
    (hhas : (sc.names.all fun p => p.2 == NameKind.local || p.2 == NameKind.globalImplicit || (cl.lookup p.1).isSome) = true := by rfl) :
    QE X (.Call (.Name "sorted" p) [.Call (.Name "range" p') [a] [] pos'] [⟨some "key", .Lambda params body sc lpos, kpos⟩] pos) (tSortLam T lpos (X.env.qual ++ "<lambda>") js (tCons t1 tNil) te) := by
  refine ⟨pe_sortLam hr hgl hml hg hm (pa' ha.h pa_nil h1) h1 hcode C hB hcl hdef hbind hco hgen hkind (fun y hy z => ?_) hx hcap (fun y c e => hin.mem (PySem.mem_of_lookup e)) (fun y h => ?_) fun A s H f c' hr' => (he A s H f c' hr').h⟩
  · have := List.all_eq_true.mp hcell y hy
    rw [z] at this
    exact absurd this (by decide)
  · have hm : ∃ k, (y, k) ∈ sc.names ∧ (k = .cell ∨ k = .free) := by
      rcases h with h | h
      · exact ⟨_, PySem.mem_of_lookup h, .inl rfl⟩
      · exact ⟨_, PySem.mem_of_lookup h, .inr rfl⟩
    obtain ⟨k, hk, hz⟩ := hm
    have := List.all_eq_true.mp hhas _ hk
    rcases hz with rfl | rfl
    · exact Option.isSome_iff_exists.mp (by simpa using this)
    · exact Option.isSome_iff_exists.mp (by simpa using this)
/-- a def whose code object and table are known -/
def FunT (K : PySem.W.Frag) (x : Str) (st : Stmt) (c T : Addr) : Prop := PySem.W.codeHdIn K c T = true ∧ ∃ f fd, PySem.W.nsIn K mainGlobals x = some (some (.ref f)) ∧ Fun K x x st f fd ∧ fd.code = .ref c
section
variable {P : Program} {w : World} {K : PySem.W.Frag} {mg : Str → Option Value} {base : Heap}
theorem Fun.okT {x qual : Str} {st : Stmt} {f c : Addr} {fd : FuncData} {N ps : List Str} {k : Nat} {sp : Sp} (F : Fun K x qual st f fd) (hc : fd.code = .ref c) (S : FnScope N ps (defScope st)) (len : ∀ vs H Q E, sp vs H Q E → vs.length = ps.length)
    (hbody : ∀ (A : Around) (outer : List Env) (s : Shared) (H : Hp) (vs : List V) (Q : VK) (E : XK), Room k (A.deeper (envOfC qual (defScope st) s.heap.objs.size f (.ref c))) → sp vs H Q E →
      ∃ t, PSs (cxOf CX0 P w K mg base N qual (defScope st) f (.ref c) A outer s H E).nox (defBody st) t ∧ t { nx := fun _ H' => Q .non H', rt := Q } (start N vs) H) : FnOk P w K mg base CX0 (k + 1) f fd ps sp := by
  obtain ⟨oc, od, kV, doc, pm, an, cdv, ct, osl, rfl, lk, hcd⟩ := F.ex
  have e : cdv = .ref c := hc
  subst e
  refine fn_of lk hcd S len fun A outer s H vs Q E hr hsp => ?_
  obtain ⟨t, h, q⟩ := hbody A outer s H vs Q E hr hsp
  exact ⟨t, h.nox, q⟩
theorem Def.ofT {h : Heap} {CX : CXT} {x : Str} {c T : Addr} {k : Nat} {ps : List Str} {sp : Sp} {st : Stmt} (X : K.In h) (G : h.Ns mainGlobals mg) (FI : FunT K x st c T)
    (ok : ∀ f fd, Fun K x x st f fd → fd.code = .ref c → FnOk P w K mg base CX k f fd ps sp)
    (hb : ∀ (kV doc pm : Value) (an : Option Addr) (cdv ct : Value) (us : List Value), us.length = ps.length → bindArgs (PySem.W.fnOf x x (defArgs st) (defBody st) (defScope st) .none kV doc pm an cdv ct) ⟨us, []⟩ = pure (ps.zip us)) :
    Def P w K mg base CX x k ps sp := by
  obtain ⟨_, f, fd, a, F, hc⟩ := FI
  exact ⟨f, fd, ok f fd F hc, F.binds hb, F.kp, PySem.W.mg_of X G a⟩
end
end L2

set_option linter.all false
set_option maxRecDepth 100000
/-! code tables kept; a sorted range's numbers. -/
namespace L2
open PySem PySem.Spec PyProof.Rows
theorem none_of {H H' : Hp} {b : Addr} (s : Same H H') (h : H' b = none) : H b = none := by
  cases e : H b with
  | none => rfl
  | some o => rw [s b o e] at h; cases h
theorem TabOk.same {T : Addr} {pos : Pos} {qual : Str} {H H' : Hp} (h : TabOk T pos qual H) (s : Same H H') : TabOk T pos qual H' := by
  rcases h with ⟨ps, a, b, c⟩ | ⟨c', ps, a, b, c, d⟩
  · exact .inl ⟨ps, s _ _ a, b, c⟩
  · exact .inr ⟨c', ps, s _ _ a, b, c, s _ _ d⟩
theorem TabOk.at {T : Addr} {pos : Pos} {qual : Str} {H : Hp} (h : TabOk T pos qual H) : ∃ ps, H T = some (.tbl ps) := by
  rcases h with ⟨ps, a, _⟩ | ⟨c', ps, a, _⟩
  · exact ⟨ps, a⟩
  · exact ⟨ps, a⟩
theorem TabOk.write {T a : Addr} {pos : Pos} {qual : Str} {H : Hp} {o u : HO} (h : TabOk T pos qual H) (e : H a = some u) (h1 : ∀ ps, u ≠ .tbl ps) (h2 : ∀ c q, u ≠ cod c q) : TabOk T pos qual (upd H a o) := by
  rcases h with ⟨ps, x, b, c⟩ | ⟨c', ps, x, b, c, d⟩
  · have n1 : T ≠ a := fun z => by rw [z, e] at x; cases x; exact h1 _ rfl
    exact .inl ⟨ps, by rw [upd_ne n1]; exact x, b, c⟩
  · have n1 : T ≠ a := fun z => by rw [z, e] at x; cases x; exact h1 _ rfl
    have n2 : c' ≠ a := fun z => by
      rw [z, e] at d
      exact h2 _ _ (Option.some.inj d)
    exact .inr ⟨c', ps, by rw [upd_ne n1]; exact x, b, c, by rw [upd_ne n2]; exact d⟩
theorem rep_map : ∀ k : Nat, (List.replicate k [V.int 0]).flatten = (List.replicate k 0).map fun (p : Nat) => V.int ((p : Nat) : Int)
  | 0 => rfl
  | k + 1 => by
    rw [List.replicate_succ, List.flatten_cons, rep_map k, List.replicate_succ, List.map_cons]
    rfl
theorem perm_nat {ns : List Int} {n : Nat} (h : ns.Perm (below n)) : ∃ js : List Nat, ns = js.map (fun j => ((j : Nat) : Int)) ∧ js.Perm (List.range n) := by
  refine ⟨ns.map Int.toNat, ?_, ?_⟩
  · rw [List.map_map]
    have : ∀ x ∈ ns, ((fun j : Nat => (j : Int)) ∘ Int.toNat) x = x := fun x hx => by
      have := h.mem_iff.mp hx
      unfold below at this
      obtain ⟨m, _, rfl⟩ := List.mem_map.mp this
      rfl
    conv => lhs; rw [← List.map_id ns]
    exact List.map_congr_left fun x hx => (this x hx).symm
  · have := h.map Int.toNat
    unfold below at this
    rw [List.map_map] at this
    have e : (List.range n).map (Int.toNat ∘ fun (m : Nat) => (m : Int)) = List.range n := by
      conv => rhs; rw [← List.map_id (List.range n)]
      exact List.map_congr_left fun x _ => rfl
    rw [e] at this
    exact this
end L2

set_option linter.all false
set_option maxRecDepth 100000
set_option maxHeartbeats 4000000
/-! sorted(d.items()) of a dict of one entry. -/
namespace L2
open PySem PySem.Spec PyProof.Rows
section
variable {X : Cx} {pins : List (Addr × Obj)} {σ : St} {H : Hp} {s : Shared}
/-- list.sort() of a list of one or none -/
theorem sort_short {A : Around} {E : Value → Shared → Prop} {a : Addr} {vs : List Value} {n : Nat} {P : PySem.Fin → Shared → Prop} (I : Inv X pins σ H s) (fa : FpOk X pins H a) (xa : X.s₀.heap.get? a = none) (ha : s.heap.get? a = some (seqObj "list" vs.toArray n)) (h2 : vs.length < 2)
    (h : ∀ h' c, Inv X pins σ H { s with heap := h' } → h'.get? a = some (seqObj "list" vs.toArray c) → P (.done (.ret .none)) { s with heap := h' }) :
    wpAny (model X.prog X.w) A (Builtin.«list.sort» ⟨[.ref a], []⟩) P E s := by
  rw [list_sort_plain]
  have s1 := Heap.SameBut.update s.heap a (Obj.mapSeq fun _ => (#[] : Array Value))
  obtain ⟨e1, ho1⟩ : ∃ e1, (s.heap.update a (Obj.mapSeq fun _ => (#[] : Array Value))).get? a = some (seqObj "list" #[] e1) := ⟨_, get?_update_seq ha fun _ => #[]⟩
  have I3 := I.but s1 fa xa
  have I4 := I3.kept (t' := s.toks) fun b o e => Heap.get?_push_of_some (seqObj "tuple" vs.toArray 0) e
  have I5 := I4.kept (t' := s.toks) fun b o e => Heap.get?_push_of_some (seqObj "list" #[] 0) e
  have na : (((s.heap.update a (Obj.mapSeq fun _ => (#[] : Array Value))).push (seqObj "tuple" vs.toArray 0)).push (seqObj "list" #[] 0)).get? a = some (seqObj "list" #[] e1) := Heap.get?_push_of_some _ (Heap.get?_push_of_some _ ho1)
  refine wpAny_bind (listItems_at ha rfl ?_)
  refine wpAny_bind (listUpdate_at ha rfl ?_ (by rw [List.size_toArray, sizeLine_eq]; omega) (Nat.zero_le _))
  refine wpAny_bind (seqEpoch_at ho1 rfl ?_)
  refine wpAny_bind (wpAny_newTuple ?_ (by show vs.length ≤ _; rw [sizeLine_eq]; omega))
  refine wpAny_bind (wpAny_newList ?_ (Nat.zero_le _))
  refine wpAny_holding ?_
  have hn2 : vs.toArray.size < 2 := by rw [List.size_toArray]; exact h2
  dsimp only
  rw [if_pos hn2, if_pos hn2]
  refine wpAny_bind (wpAny_pure ?_)
  rw [StateT.run_pure]
  refine wpAny_bind (wpAny_pure ?_)
  dsimp only
  have hout : (arrOf (SortSt.mk' general' (vs.toArray.zip vs.toArray) #[] 7 none)).map (·.2) = vs.toArray := by
    show (vs.toArray.zip vs.toArray).map (·.2) = vs.toArray
    apply Array.toList_inj.mp
    rw [Array.toList_map, Array.toList_zip]
    exact List.map_snd_zip (Nat.le_refl _)
  rw [hout]
  have s6 := Heap.SameBut.update (((s.heap.update a (Obj.mapSeq fun _ => (#[] : Array Value))).push (seqObj "tuple" vs.toArray 0)).push (seqObj "list" #[] 0)) a (Obj.mapSeq fun _ => vs.toArray)
  obtain ⟨c2, hc2⟩ : ∃ c2, ((((s.heap.update a (Obj.mapSeq fun _ => (#[] : Array Value))).push (seqObj "tuple" vs.toArray 0)).push (seqObj "list" #[] 0)).update a (Obj.mapSeq fun _ => vs.toArray)).get? a = some (seqObj "list" vs.toArray c2) := ⟨_, get?_update_seq na fun _ => vs.toArray⟩
  refine wpAny_bind (seqEpoch_at na rfl ?_)
  refine wpAny_bind (listUpdate_at na rfl ?_ (Nat.zero_le _) (by rw [List.size_toArray, sizeLine_eq]; omega))
  simp only [bne_self_eq_false, Bool.false_eq_true, if_false]
  have I6 := I5.but s6 fa xa
  exact wpAny_pure (h _ c2 I6 hc2)
end
def tSortItems (to : TE) : TE := fun σ H Q => to σ H fun x H1 => ∃ d k v, x = .ref d ∧ H1 d = some (.dK [(k, v)]) ∧ ∀ t D, H1 t = none → H1 D = none → t ≠ D → Q (.ref D) (upd (upd H1 t (.tup [kV k, v])) D (.lst [.ref t]))
section
variable {X : Cx}
theorem is_kV {k : Key} {u : Value} {P : Program} {w : World} (h : (mixKind P w).is k u = true) : RelV (kV k) u := by
  rcases keyIs_shape h with ⟨i, t, rfl, rfl⟩ | ⟨x, t, rfl, rfl⟩
  · exact ⟨t, rfl⟩
  · exact ⟨t, rfl⟩
theorem pe_sortItems {o : Expr} {to : TE} {p pos apos cpos : Pos} (hc : X.calm = true) (hgl : X.env.kindOf "sorted" = some .globalImplicit) (hml : X.mg "sorted" = none) (ho : PE X o to)
    (hbase : attributeBase o "items" X.env (eval o X.env) = eval o X.env) (hline : (apos.endLine == cpos.line) = true) : PE X (.Call (.Name "sorted" p) [.Call (.Attribute o "items" apos) [] [] cpos] [] pos) (tSortItems to) := by
  intro pins s σ H Q I h
  refine Call_ (ld_blt (u := .builtin "sorted") I hgl hml (by decide +kernel) (PyProof.Rows.callWith_builtin1 ?_ rfl rfl))
  show wpAny _ _ (spliced ((false, eval (.Call (.Attribute o "items" apos) [] [] cpos) X.env) :: backTo pos (starEach [] X.env))) _ _ s
  refine Calls.spliced_cons (wpAny_Call_method0_late hbase hline (thn (ho pins s σ H _ I h) fun v s1 ⟨x, H1, I1, r1, d, k, y, ex, hd, q1⟩ => ?_))
  subst ex
  obtain rfl : v = Value.ref d := r1
  obtain ⟨t1, t2, lo⟩ := isD_at I1 (.inl ⟨_, Rd.of hd⟩)
  refine ⟨"dict", "dict.items", PySem.F.plainAttrs_dict, PySem.F.slot_dict_items, PySem.F.type_dict_items, t1, t2, Calls.callWith_builtin rfl (PySem.evalArgs_none ?_)⟩
  obtain ⟨z, hd0, vs, rel, dd⟩ := dk_of I1.hok hd
  refine call_meetsIn PySem.F.slot_dict_items dd.typeIs PySem.F.entry_dict_items (PySem.F.args_dict_items_1 _) (meets_dict_items (mixKind X.prog X.w) d lo) ⟨⟨vs, dd⟩, ?_⟩
  refine Calls.spliced_nil ?_
  have I2 : Inv X pins σ H1 { s1 with heap := s1.heap.push { cls := .type "dict_items", data := .fields #[.ref d] } } := I1.kept (t' := s1.toks) fun b o e => Heap.get?_push_of_some _ e
  refine Calls.call_function_entry kind_sorted plain_sorted entry_sorted (args_sorted1 _) ?_
  unfold Builtin.«sorted»
  refine wpAny_bind (m := checkCount "sorted" 1 1 _) (wpAny_pure ?_)
  obtain ⟨z2, hd2, vs2, rel2, dd2⟩ := dk_of I2.hok hd
  obtain ⟨ep, dat⟩ := dd2.dictAt
  have hvl : vs2.length = 1 := by rw [← rel2.length]; rfl
  refine wpAny_bind (PySem.W.kdx_collect (A := X.A.in1) (knd := mixKind X.prog X.w) (kvs := vs2) (ep := ep) (I.ok.hd hc) ⟨_, Heap.get?_push_size _ rfl, rfl, rfl⟩ dat (by rw [hvl, sizeLine_eq]; omega) fun h' tk as hk hl hG => ?_)
  rw [hvl] at hl
  obtain ⟨t, rfl⟩ : ∃ t, as = [t] := by
    cases as with
    | nil => cases hl
    | cons t r =>
      cases r with
      | nil => exact ⟨t, rfl⟩
      | cons _ _ => cases hl
  obtain ⟨key, k', x', hkv, hkey, hobj⟩ := hG.pairs 0 t rfl
  have I3 : Inv X pins σ H1 { s1 with heap := h', toks := tk } := I2.kept hk
  have hts : s1.heap.objs.size ≤ t := by
    have := hG.above t (List.mem_cons_self ..)
    have e : (s1.heap.push { cls := .type "dict_items", data := .fields #[.ref d] }).objs.size = s1.heap.objs.size + 1 := by rw [Heap.size_push]
    rw [e] at this
    exact Nat.le_of_lt (Nat.lt_of_le_of_lt (Nat.le_succ _) this)
  have ft := I1.fpOk hts (I1.hok.fresh hts)
  have xt : X.s₀.heap.get? t = none := Heap.get?_none_of_le (Nat.le_trans I1.sz hts)
  have rk : RelV (kV k) key ∧ RelV y x' := by
    cases rel2 with
    | cons h0 r0 =>
      cases r0
      rw [List.getElem?_cons_zero] at hkv
      obtain ⟨e1, e2⟩ := h0
      have e3 := Option.some.inj hkv
      subst e3
      have e1 : k = k' := e1
      subst e1
      exact ⟨is_kV hkey, e2⟩
  have I4 := I3.trackU (o := .tup [kV k, y]) ft xt ⟨by show 2 ≤ sizeLine; decide, [key, x'], .cons rk.1 (.cons rk.2 .nil), _, hobj, rfl, _, rfl⟩
  refine wpAny_bind (wpAny_newList ?_ (by show 1 ≤ sizeLine; decide))
  have I5 := I4.kept (t' := tk) fun b o e => Heap.get?_push_of_some (seqObj "list" [Value.ref t].toArray 0) e
  have fa := I4.fpOk (Nat.le_refl _) (I4.hok.fresh (Nat.le_refl _))
  have xa : X.s₀.heap.get? h'.objs.size = none := Heap.get?_none_of_le I4.sz
  have ha : (h'.push (seqObj "list" [Value.ref t].toArray 0)).get? h'.objs.size = some (seqObj "list" [Value.ref t].toArray 0) := Heap.get?_push_size _ rfl
  refine wpAny_bind (wpAny_holding (wpAny_call_entry slot_list_sort ⟨_, ha, rfl⟩ entry_list_sort (sort_short I5 fa xa ha (by show 1 < 2; decide) fun h2 c J hc => ⟨.none, rfl, ?_⟩) (args_list_sort _)))
  have J2 := J.trackU (o := .lst [.ref t]) fa xa ⟨by show 1 ≤ sizeLine; decide, [Value.ref t], c, .cons rfl .nil, hc⟩
  have ntD : t ≠ h'.objs.size := Nat.ne_of_lt (Heap.lt_size hobj)
  have hD1 : H1 h'.objs.size = none := by
    have := fa.1
    rw [upd_ne (Ne.symm ntD)] at this
    exact this
  exact wpAny_pure ⟨_, rfl, .ref h'.objs.size, _, J2, rfl, q1 t h'.objs.size ft.1 hD1 ntD⟩
theorem e_sortItems {o : Expr} {to : TE} {p pos apos cpos : Pos} (hml : X.mg "sorted" = none) (ho : QE X o to) (hc : X.calm = true := by rfl) (hgl : X.env.kindOf "sorted" = some .globalImplicit := by kernel_rfl)
    (hbase : attributeBase o "items" X.env (eval o X.env) = eval o X.env := by rfl) (hline : (apos.endLine == cpos.line) = true := by rfl) : QE X (.Call (.Name "sorted" p) [.Call (.Attribute o "items" apos) [] [] cpos] [] pos) (tSortItems to) := ⟨pe_sortItems hc hgl hml ho.h hbase hline⟩
end
end L2

set_option linter.all false
set_option maxRecDepth 100000
set_option maxHeartbeats 4000000
/-! for x, y in zip(a list, a list) -/
namespace L2
open PySem PySem.Spec PyProof.Rows
def Itz (K : PySem.W.Frag) (a b : Addr) : It :=
  ⟨fun i H => ∃ xs ys x y, SqL K H a xs ∧ SqL K H b ys ∧ xs[i]? = some x ∧ ys[i]? = some y,
   fun i H x H' => ∃ p v w, x = .ref p ∧ H p = none ∧ H' = upd H p (.tup [v, w]) ∧ (∀ xs, SqL K H a xs → xs[i]? = some v) ∧ (∀ ys, SqL K H b ys → ys[i]? = some w),
   fun i H => ∃ xs ys, SqL K H a xs ∧ SqL K H b ys ∧ (xs.length ≤ i ∨ ys.length ≤ i)⟩
theorem turn_zip {P : Program} {w : World} {K : PySem.W.Frag} {elts : List Expr} {x1} {pos : Pos} (a b z TI TO i1 i2 : Addr) (D : ZipApart z TI TO i1 i2 a b) :
    Turn P w K (.Tuple elts x1 pos) (Itz K a b) [z, TI, TO, i1, i2] z (fun i h => IsZip h z TI TO .none ∧ IsPair h TI (.ref i1) (.ref i2) ∧ (∃ u v, IsPair h TO u v) ∧ h.IsListIter i1 a i ∧ h.IsListIter i2 b i) where
  mem := by simp
  obj := fun i h st c hc => by
    obtain ⟨hz, hTI, ⟨u, v, hTO⟩, ⟨o1, e1, c1, d1⟩, ⟨o2, e2, c2, d2⟩⟩ := st
    have hc' : c = z ∨ c = TI ∨ c = TO ∨ c = i1 ∨ c = i2 := by simpa using hc
    rcases hc' with rfl | rfl | rfl | rfl | rfl
    · exact ⟨_, hz, fun v z => by
        have z' : Data.fields _ = Data.cell v := z
        cases z'⟩
    · exact ⟨_, hTI, fun v z => by
        have z' : Data.seq _ _ = Data.cell v := z
        cases z'⟩
    · exact ⟨_, hTO, fun v z => by
        have z' : Data.seq _ _ = Data.cell v := z
        cases z'⟩
    · exact ⟨o1, e1, fun v z => by rw [d1] at z; cases z⟩
    · exact ⟨o2, e2, fun v z => by rw [d2] at z; cases z⟩
  keep := fun i h h' st k => by
    obtain ⟨hz, hTI, ⟨u, v, hTO⟩, h1, h2⟩ := st
    exact ⟨k z (by simp) _ hz, k TI (by simp) _ hTI, ⟨u, v, k TO (by simp) _ hTO⟩, h1.at fun o q => k i1 (by simp) o q, h2.at fun o q => k i2 (by simp) o q⟩
  item := by
    intro X hP hw hK hc i pins s σ H E I hf st hg
    subst hP hw hK
    obtain ⟨xs, ys, x, y, hq1, hq2, hx, hy⟩ := hg
    obtain ⟨hz, hTI, ⟨u0, v0, hTO⟩, h1, h2⟩ := st
    obtain ⟨its1, rv1, p1, hz1⟩ := I.list hq1
    obtain ⟨its2, rv2, p2, hz2⟩ := I.list hq2
    obtain ⟨u, hu, ru⟩ := rv1.get hx
    obtain ⟨v, hv, rv⟩ := rv2.get hy
    refine wpAny_pyNext_zip_item D hz hTI hTO h1 h2 p1.isList p2.isList (x := u) (y := v) (by simpa using hu) (by simpa using hv) fun g1 a1 a2 a3 a4 a5 a6 hk => ?_
    refine ⟨_, rfl, wpAny_letOwnedTupleGo_zip (s := { s with heap := g1 }) a1 fun g2 hz2' hs2 => ?_⟩
    have hs2' : Heap.SameBut z g1 g2 := hs2
    have nH : H s.heap.objs.size = none := I.hok.fresh (Nat.le_refl _)
    have lt : ∀ c ∈ [z, TI, TO, i1, i2], c < s.heap.objs.size := fun c hc => by
      have hc' : c = z ∨ c = TI ∨ c = TO ∨ c = i1 ∨ c = i2 := by simpa using hc
      rcases hc' with rfl | rfl | rfl | rfl | rfl
      · exact Heap.lt_size hz
      · exact Heap.lt_size hTI
      · exact Heap.lt_size hTO
      · obtain ⟨o, e, _⟩ := id h1; exact Heap.lt_size e
      · obtain ⟨o, e, _⟩ := id h2; exact Heap.lt_size e
    have ht2 : g2.get? s.heap.objs.size = some { cls := .type "tuple", data := .seq #[u, v] } := (hs2'.2 _ (Nat.ne_of_gt (lt z (by simp)))).trans a5
    have pg : (s.heap.push { cls := .type "tuple", data := .seq #[u, v] }).get? s.heap.objs.size = some { cls := .type "tuple", data := .seq #[u, v] } := Heap.get?_push_size _ rfl
    have J1 := I.laid (a := s.heap.objs.size) (o := .tup [x, y]) (h' := s.heap.push { cls := .type "tuple", data := .seq #[u, v] }) (t' := s.toks) (fun b v z => Heap.get?_push_of_some _ z) (Nat.le_refl _)
      ⟨(by show 2 ≤ sizeLine; decide), [u, v], .cons ru (.cons rv .nil), ⟨_, pg, rfl, _, rfl⟩⟩
    have fp' : ∀ c ∈ [z, TI, TO, i1, i2], FpOk X pins (upd H s.heap.objs.size (.tup [x, y])) c := fun c hc => by
      obtain ⟨f0, f1, f2, f3, f4, f5⟩ := hf c hc
      refine ⟨?_, f1, f2, f3, f4, f5⟩
      rw [upd_ne (Nat.ne_of_lt (lt c hc))]
      exact f0
    have J2 := J1.turnedL (h' := g2) (t' := s.toks) (ch := [z, TI, TO, i1, i2]) (fun c o hc zz => by
      have n1 : c ≠ z := fun y => hc (by simp [y])
      have n2 : c ≠ TO := fun y => hc (by simp [y])
      have n3 : c ≠ i1 := fun y => hc (by simp [y])
      have n4 : c ≠ i2 := fun y => hc (by simp [y])
      by_cases hp : c = s.heap.objs.size
      · subst hp
        have z' : s.heap.objs.size = s.heap.objs.size → (s.heap.push { cls := .type "tuple", data := .seq #[u, v] }).get? s.heap.objs.size = some o := fun _ => zz
        rw [pg] at z'
        have := z' rfl
        cases this
        exact ht2
      · have z2 : s.heap.get? c = some o := get_push_ne zz hp
        exact (hs2'.2 c n1).trans (hk c o n1 n2 n3 n4 z2)) fp'
    refine ⟨.ref s.heap.objs.size, _, J2, rfl, ⟨_, x, y, rfl, nH, rfl, fun l hl => by rw [I.list_inj hl hq1]; exact hx, fun l hl => by rw [I.list_inj hl hq2]; exact hy⟩, ⟨hz2', ?_, ⟨u, v, ?_⟩, ?_, ?_⟩, fun c hc => (fp' c hc).1⟩
    · exact (hs2'.2 _ D.TIz).trans (hk _ _ D.TIz D.TITO D.TIi1 D.TIi2 hTI)
    · exact (hs2'.2 _ D.TOz).trans a2
    · exact a3.at fun o q => (hs2'.2 _ D.i1z).trans q
    · exact a4.at fun o q => (hs2'.2 _ D.i2z).trans q
  done := by
    intro X hP hw hK hc i pins s σ H E I hf st hg
    subst hP hw hK
    obtain ⟨xs, ys, hq1, hq2, hx⟩ := hg
    obtain ⟨hz, hTI, ⟨u0, v0, hTO⟩, h1, h2⟩ := st
    obtain ⟨its1, rv1, p1, hz1⟩ := I.list hq1
    obtain ⟨its2, rv2, p2, hz2⟩ := I.list hq2
    have hl1 := rv1.length
    have hl2 := rv2.length
    refine wpAny_pyNext_zip_end (I.ok.hd hc) D hz hTI hTO h1 h2 p1.isList p2.isList ?_ fun h' eb => ⟨rfl, I.turnedL (t' := s.toks) (ch := [z, TI, TO, i1, i2]) (fun c o hc zz => eb c o (fun y => hc (by simp [y])) (fun y => hc (by simp [y])) (fun y => hc (by simp [y])) (fun y => hc (by simp [y])) zz) hf⟩
    rcases hx with q | q
    · left; simp; omega
    · right; simp; omega
  self := fun _ _ _ _ _ st h => by
    obtain ⟨hz, _⟩ := st
    exact wpAny_pyIter_zip hz h
def iZip (K : PySem.W.Frag) (ta : TA) : TI := fun σ H R => ta σ H fun vs H1 => ∃ a b, vs = [.ref a, .ref b] ∧ (∃ xs, SqL K H1 a xs) ∧ (∃ ys, SqL K H1 b ys) ∧ R (Itz K a b) H1
section
variable {X : Cx}
theorem pi_zip {elts : List Expr} {x1} {tpos p pos : Pos} {a b : Expr} {ta : TA} (hg : Gl X "zip") (hm : X.mg "zip" = none) (hbt : bootBuiltins "zip" = some (.type "zip")) (ha : PA X [a, b] ta) (h1 : nostar a = true) (h2 : nostar b = true) :
    PI X (.Tuple elts x1 tpos) (.Call (.Name "zip" p) [a, b] [] pos) (iZip X.K ta) := by
  intro pins s σ H R I h
  refine Call_ (ld_blt I hg hm hbt (PyProof.Rows.callWith_type1 (thn (ha pos pins s σ H _ I h) fun us s1 ⟨vs, H1, I1, r1, q1⟩ => ?_) (star_plain h1) (any_plain (by simp [h2]))))
  obtain ⟨a, b, rfl, ⟨xs, hq1⟩, ⟨ys, hq2⟩, q⟩ := q1
  cases r1 with
  | cons r rr =>
    cases rr with
    | cons r' rr =>
      cases rr
      cases r
      cases r'
      obtain ⟨its1, rv1, p1, hz1⟩ := I1.list hq1
      obtain ⟨its2, rv2, p2, hz2⟩ := I1.list hq2
      refine call_zip_2 p1.isList p2.isList fun h' he hTI hTO hi1 hi2 hsz hk => ?_
      refine wpAny_pyIter_zip he ?_
      have I2 : Inv X pins σ H1 { s1 with heap := h' } := I1.kept (t' := s1.toks) hk
      have la : a < s1.heap.objs.size := by obtain ⟨o, e, _⟩ := p1.isList; exact Heap.lt_size e
      have lb : b < s1.heap.objs.size := by obtain ⟨o, e, _⟩ := p2.isList; exact Heap.lt_size e
      have up : ∀ (m k : Nat), m < s1.heap.objs.size → m ≠ s1.heap.objs.size + k := fun m k h => Nat.ne_of_lt (Nat.lt_of_lt_of_le h (Nat.le_add_right _ k))
      have nk : ∀ j k : Nat, j ≠ k → s1.heap.objs.size + j ≠ s1.heap.objs.size + k := fun j k h z => h (Nat.add_left_cancel z)
      have n0 : ∀ k : Nat, 0 ≠ k → s1.heap.objs.size ≠ s1.heap.objs.size + k := fun k h z => nk 0 k h z
      have D : ZipApart (s1.heap.objs.size + 4) (s1.heap.objs.size + 2) (s1.heap.objs.size + 3) s1.heap.objs.size (s1.heap.objs.size + 1) a b :=
        ⟨nk 2 4 (by decide), nk 3 4 (by decide), n0 4 (by decide), nk 1 4 (by decide), nk 2 3 (by decide), (n0 2 (by decide)).symm, nk 2 1 (by decide), (n0 3 (by decide)).symm, nk 3 1 (by decide), n0 1 (by decide), up a 4 la, up a 3 la, Nat.ne_of_lt la, up a 1 la, up b 4 lb, up b 3 lb, Nat.ne_of_lt lb, up b 1 lb⟩
      refine ⟨s1.heap.objs.size + 4, [s1.heap.objs.size + 4, s1.heap.objs.size + 2, s1.heap.objs.size + 3, s1.heap.objs.size, s1.heap.objs.size + 1], _, _, H1, rfl, I2, turn_zip a b _ _ _ _ _ D, ⟨he, hTI, ⟨_, _, hTO⟩, hi1, hi2⟩, fun c hc => ?_, q⟩
      have hc' : s1.heap.objs.size ≤ c := by
        have hc'' : c = s1.heap.objs.size + 4 ∨ c = s1.heap.objs.size + 2 ∨ c = s1.heap.objs.size + 3 ∨ c = s1.heap.objs.size ∨ c = s1.heap.objs.size + 1 := by simpa using hc
        rcases hc'' with rfl | rfl | rfl | rfl | rfl
        · exact Nat.le_add_right _ 4
        · exact Nat.le_add_right _ 2
        · exact Nat.le_add_right _ 3
        · exact Nat.le_refl _
        · exact Nat.le_add_right _ 1
      exact I1.fpOk hc' (I1.hok.fresh hc')
theorem i_zip {elts : List Expr} {x1} {tpos p pos : Pos} {a b : Expr} {t u : TE} (hm : X.mg "zip" = none) (ha : QE X a t) (hb : QE X b u) (hg : X.env.kindOf "zip" = some .globalImplicit := by kernel_rfl) (h1 : nostar a = true := by rfl) (h2 : nostar b = true := by rfl) :
    QI X (.Tuple elts x1 tpos) (.Call (.Name "zip" p) [a, b] [] pos) (iZip X.K (tCons t (tCons u tNil))) := ⟨pi_zip hg hm (by decide +kernel) (pa' ha.h (pa' hb.h pa_nil h2) h1) h1 h2⟩
theorem for_zip {K : PySem.W.Frag} {a b : Addr} {xs ys : List V} {g : TG} {tb : TS} {D : Ends} {σ : St} {H : Hp} (Pv : Nat → St → Hp → Prop) (he : xs.length = ys.length) (h0 : Pv 0 σ H) (hl : ∀ i σ H, i ≤ xs.length → Pv i σ H → SqL K H a xs ∧ SqL K H b ys)
    (hs : ∀ i x y σ H p, xs[i]? = some x → ys[i]? = some y → Pv i σ H → H p = none → g (.ref p) σ (upd H p (.tup [x, y])) fun σ2 H2 => tb { D with nx := Pv (i + 1), ct := Pv (i + 1), bk := D.nx } σ2 H2) (hd : ∀ σ H, Pv xs.length σ H → D.nx σ H) :
    ∃ W : Nat → Nat → St → Hp → Prop, (∃ m, W 0 m σ H) ∧ ∀ i m σ H, W i m σ H →
      ((Itz K a b).stop i H ∧ D.nx σ H) ∨ ((Itz K a b).go i H ∧ ∃ N : St → Hp → Prop, (∀ σ' H', N σ' H' → ∃ m', m' < m ∧ W (i + 1) m' σ' H') ∧ ∀ x H', (Itz K a b).yld i H x H' → g x σ H' fun σ2 H2 => tb { D with nx := N, ct := N, bk := D.nx } σ2 H2) := by
  refine ⟨fun i m σ H => m = xs.length - i ∧ i ≤ xs.length ∧ Pv i σ H, ⟨xs.length, by simp, Nat.zero_le _, h0⟩, ?_⟩
  rintro i m σ H ⟨rfl, hi, p⟩
  obtain ⟨q1, q2⟩ := hl i σ H hi p
  by_cases hlt : i < xs.length
  · refine .inr ⟨⟨xs, ys, xs[i], ys[i]'(by omega), q1, q2, by simp [hlt], List.getElem?_eq_getElem (by omega)⟩, Pv (i + 1), fun σ' H' p' => ⟨xs.length - (i + 1), by omega, rfl, hlt, p'⟩, fun x H' y => ?_⟩
    obtain ⟨pp, v, w, rfl, hn, rfl, y1, y2⟩ := y
    exact hs i v w σ H pp (y1 xs q1) (y2 ys q2) p hn
  · have e : i = xs.length := by omega
    subst e
    exact .inl ⟨⟨xs, ys, q1, q2, .inl (Nat.le_refl _)⟩, hd σ H p⟩
end
end L2

set_option linter.all false
set_option maxRecDepth 100000
set_option maxHeartbeats 4000000
/-! name = [.. for .. in .. if ..]; a cell as a loop's name -/
namespace L2
open PySem PySem.Spec PyProof.Rows
theorem comp_loopF {prog : Program} {w : World} {A : Around} {R : Result → Shared → Prop} {s : Shared} {elt target iter cnd : Expr} {sc : Scope} {pos : Pos} {it acc : Value} {env : Env} (J : Nat → Shared → Prop)
    (turn : ∀ n s, J n s → wpAny (model prog w) A (pyNext it) (fun r s1 => match r with
      | none => R (.ok .next) s1
      | some v => wpAny (model prog w) A (letOwnedTupleGo target it v) (fun _ s2 => wpAny (model prog w) A (assign target env v) (fun _ s3 => wpAny (model prog w) A (isTrue cnd env (eval cnd env)) (fun ok s6 => if ok = true then wpAny (model prog w) A (eval elt env) (fun x s4 =>
          wpAny (model prog w) A (call (.builtin "list.append") [acc, x]) (fun _ s5 => ∃ m, m < n ∧ J m s5) (fun _ _ => False) s4) (fun _ _ => False) s6 else ∃ m, m < n ∧ J m s6) (fun _ _ => False) s3) (fun _ _ => False) s2) (fun _ _ => False) s1) (fun _ _ => False) s)
    (n : Nat) (h : J n s) : codeAny (model prog w) A (.compLoop (.ListComp elt [⟨target, iter, [cnd], 0⟩] sc pos) 0 it acc env) R s := by
  refine codeAny_loop rfl J ?_ n h
  intro n s hJ
  show wpAny _ _ ((compTurn (.ListComp elt [⟨target, iter, [cnd], 0⟩] sc pos) 0 it acc env).onRaise (fun x => do noteFrame x env; theTreesLotGoes x)) _ _ s
  refine wpAny_noted ?_
  rw [compTurn_list]
  refine wpAny_bind (wpAny_standAt (wpAny_bind (wpAny_mono (turn n s hJ) ?_ fun _ _ z => False.elim z)))
  intro r s1 h1
  cases r with
  | none => exact wpAny_pure h1
  | some v =>
    refine wpAny_bind (wpAny_mono h1 ?_ fun _ _ z => False.elim z)
    intro _ s2 h2
    refine wpAny_bind (wpAny_mono h2 ?_ fun _ _ z => False.elim z)
    intro _ s3 h3
    refine wpAny_bind (wpAny_tests_one (wpAny_mono h3 ?_ fun _ _ z => False.elim z))
    intro ok s6 h6
    cases ok with
    | false =>
      rw [if_neg Bool.false_ne_true] at h6
      exact wpAny_pure ⟨rfl, h6⟩
    | true =>
      rw [if_pos rfl] at h6
      refine wpAny_bind (wpAny_bind (wpAny_mono h6 ?_ fun _ _ z => False.elim z))
      intro x s4 h4
      refine wpAny_bind (wpAny_mono h4 ?_ fun _ _ z => False.elim z)
      intro _ s5 h5
      exact wpAny_pure (wpAny_pure ⟨rfl, h5⟩)
/-- what the block is worth: W holds between its turns -/
def CompedF (J : It) (cap : St) (tc : TT) (te : TE) (Q : VK) (H1 : Hp) : Prop := ∀ D, H1 D = none → ∃ W : Nat → Nat → List V → Hp → Prop, (∃ m, W 0 m [] (upd H1 D (.lst []))) ∧ ∀ i m ys H2, W i m ys H2 → H2 D = some (.lst ys) ∧
  ((J.stop i H2 ∧ Q (.ref D) H2) ∨ (J.go i H2 ∧ ∀ x H3, J.yld i H2 x H3 → tc (some x :: cap) H3 fun b H4 => if b = true then te (some x :: cap) H4 fun y H5 => H5 D = some (.lst ys) ∧ ys.length < sizeLine ∧ ∃ m', m' < m ∧ W (i + 1) m' (ys ++ [y]) (upd H5 D (.lst (ys ++ [y]))) else ∃ m', m' < m ∧ W (i + 1) m' ys H4))
def tCompF (wi : TI) (js : List Nat) (tc : TT) (te : TE) : TE := fun σ H Q => wi σ H fun J H1 => CompedF J (capt σ js) tc te Q H1
section
variable {X : Cx} {x : Str} {px pos : Pos} {elt iter cnd : Expr} {sc : Scope} {ys : List Str} {js : List Nat} {cl : List (Str × Addr)}
end
/-- a name that a comprehension takes, as a loop's -/
theorem g_namec {X : Cx} {i : Nat} {x : Str} {pos : Pos} (hN : X.N.Nodup) (hfn : X.fn x = true := by rfl) (hi : X.N[i]? = some x := by kernel_rfl) (hx : X.env.scope.names.lookup x = some .cell := by kernel_rfl) : QG X (.Name x pos) (gName i) := ⟨pg_name hN hi (.inr hx) (.inl hfn)⟩
/-- a comprehension with a test whose element and test leave all as it is -/
theorem compF_pure {J : It} {xs : List V} {H : Hp} {cap : St} {tc : TT} {te : TE} {Q : VK} (p : Nat → V → Bool) (f : Nat → V → V) (hn : xs.length ≤ sizeLine)
    (go : ∀ i H', Same H H' → i < xs.length → J.go i H') (yld : ∀ i H' x H'', Same H H' → i < xs.length → J.yld i H' x H'' → H'' = H' ∧ xs[i]? = some x) (stop : ∀ H', Same H H' → J.stop xs.length H')
    (tst : ∀ (i : Nat) x H' (P : Bool → Hp → Prop), Same H H' → xs[i]? = some x → (∀ H'', Same H' H'' → P (p i x) H'') → tc (some x :: cap) H' P)
    (el : ∀ (i : Nat) x H' (P : VK), Same H H' → xs[i]? = some x → p i x = true → (∀ H'', Same H' H'' → P (f i x) H'') → te (some x :: cap) H' P)
    (fin : ∀ D H' ys, Same H H' → H D = none → H' D = some (.lst ys) → ys = (xs.zipIdx.filter fun z => p z.2 z.1).map (fun z => f z.2 z.1) → Q (.ref D) H') :
    CompedF J cap tc te Q H := by
  intro D hD
  refine ⟨fun i m zs H2 => m = xs.length - i ∧ i ≤ xs.length ∧ zs = ((xs.zipIdx.take i).filter fun z => p z.2 z.1).map (fun z => f z.2 z.1) ∧ H2 D = some (.lst zs) ∧ Same H H2, ⟨xs.length, rfl, Nat.zero_le _, by simp, upd_same, Same.new hD _⟩, ?_⟩
  rintro i m zs H2 ⟨rfl, hi, hz, hDz, hS⟩
  refine ⟨hDz, ?_⟩
  by_cases h : i < xs.length
  · refine .inr ⟨go i H2 hS h, ?_⟩
    intro x H3 hy
    obtain ⟨rfl, hx⟩ := yld i H2 x H3 hS h hy
    have hzi : xs.zipIdx[i]? = some (x, i) := by rw [List.getElem?_zipIdx, hx]; simp
    have hst : ((xs.zipIdx.take (i + 1)).filter fun z => p z.2 z.1).map (fun z => f z.2 z.1) = zs ++ (if p i x = true then [f i x] else []) := by
      rw [List.take_add_one, hzi, List.filter_append, List.map_append, ← hz]
      congr 1
      by_cases hp : p i x = true
      · rw [if_pos hp]
        simp [hp]
      · rw [if_neg hp]
        simp [hp]
    have hzl : zs.length ≤ i := by
      rw [hz, List.length_map]
      refine Nat.le_trans (List.length_filter_le _ _) ?_
      rw [List.length_take]
      omega
    refine tst i x H3 _ hS hx fun H4 hS4 => ?_
    by_cases hp : p i x = true
    · rw [if_pos hp] at hst ⊢
      refine el i x H4 _ (hS.trans hS4) hx hp fun H5 hS5 => ⟨hS5 _ _ (hS4 _ _ hDz), by omega, xs.length - (i + 1), by omega, rfl, h, hst.symm, upd_same, fun b u q => ?_⟩
      rw [upd_ne (ne_of_none q hD)]
      exact hS5 _ _ (hS4 _ _ (hS _ _ q))
    · rw [if_neg hp] at hst ⊢
      rw [List.append_nil] at hst
      exact ⟨xs.length - (i + 1), by omega, rfl, h, hst.symm, hS4 _ _ hDz, hS.trans hS4⟩
  · have e : i = xs.length := by omega
    subst e
    refine .inl ⟨stop H2 hS, fin D H2 zs hS hD hDz ?_⟩
    rw [hz, List.take_of_length_le (by simp)]
theorem compF_list {K : PySem.W.Frag} {a : Addr} {xs : List V} {H : Hp} {cap : St} {tc : TT} {te : TE} {Q : VK} (p : V → Bool) (f : V → V) (hS : SqL K H a xs) (hn : xs.length ≤ sizeLine)
    (tst : ∀ x H' (P : Bool → Hp → Prop), Same H H' → x ∈ xs → (∀ H'', Same H' H'' → P (p x) H'') → tc (some x :: cap) H' P)
    (el : ∀ x H' (P : VK), Same H H' → x ∈ xs → p x = true → (∀ H'', Same H' H'' → P (f x) H'') → te (some x :: cap) H' P) (fin : ∀ D H', Same H H' → H D = none → H' D = some (.lst ((xs.filter p).map f)) → Q (.ref D) H') :
    CompedF (Itl K a) cap tc te Q H := by
  refine compF_pure (xs := xs) (fun _ x => p x) (fun _ x => f x) hn ?_ ?_ ?_ ?_ ?_ ?_
  · intro i H' s hi
    exact ⟨xs, xs[i], s.seq hS, List.getElem?_eq_getElem hi⟩
  · rintro i H' x H'' s hi ⟨rfl, h⟩
    exact ⟨rfl, h xs (s.seq hS)⟩
  · intro H' s
    exact ⟨xs, s.seq hS, Nat.le_refl _⟩
  · intro i x H' P s h1 hP
    exact tst x H' P s (List.mem_of_getElem? h1) hP
  · intro i x H' P s h1 hp hP
    exact el x H' P s (List.mem_of_getElem? h1) hp hP
  · intro D H' ys s hD hD' hy
    refine fin D H' s hD ?_
    rw [hD', hy]
    congr 2
    have e : ∀ (l : List V) (k : Nat), ((l.zipIdx k).filter fun z => p z.1).map (fun z => f z.1) = (l.filter p).map f := by
      intro l
      induction l with
      | nil => intro k; rfl
      | cons b r ih =>
        intro k
        rw [List.zipIdx_cons, List.filter_cons, List.filter_cons]
        by_cases hb : p b = true
        · rw [if_pos hb, if_pos hb, List.map_cons, List.map_cons, ih]
        · rw [if_neg hb, if_neg hb, ih]
    exact e xs 0
end L2

set_option linter.all false
set_option maxRecDepth 100000
set_option maxHeartbeats 4000000
/-! for x in range(a, b, 2) -/
namespace L2
open PySem PySem.Spec PyProof.Rows
def It2 (lo k : Int) (n : Nat) : It := ⟨fun i _ => i < n, fun i H x H' => H' = H ∧ x = .int (lo + (i : Int) * k), fun i _ => n ≤ i⟩
section
variable {X : Cx} {tg : Expr}
def iRng3 (ta : TA) : TI := fun σ H R => ta σ H fun vs H1 => ∃ i j : Int, vs = [.int i, .int j, .int 2] ∧ (-(2 ^ 61) ≤ i ∧ i < 2 ^ 61 ∧ -(2 ^ 61) ≤ j ∧ j < 2 ^ 61) ∧ R (It2 i 2 ((j - i + 1) / 2).toNat) H1
end
end L2

set_option linter.all false
set_option maxRecDepth 100000
set_option maxHeartbeats 4000000
/-! list.reverse, min of a list of whole numbers, list(range(a, b, 2)) -/
namespace L2
open PySem PySem.Spec PyProof.Rows
section
variable {X : Cx}
def tLRngT (ta : TA) : TE := fun σ H Q => ta σ H fun vs H1 => ∃ i j : Int, vs = [.int i, .int j, .int 2] ∧ (-(2 ^ 61) ≤ i ∧ i < 2 ^ 61 ∧ -(2 ^ 61) ≤ j ∧ j < 2 ^ 61) ∧ ((j - i + 1) / 2).toNat ≤ 2 ^ 24 ∧ ∀ l, H1 l = none → Q (.ref l) (upd H1 l (.lst (rngV i ((j - i + 1) / 2).toNat 2)))
end
end L2

set_option linter.all false
set_option maxRecDepth 100000
set_option maxHeartbeats 4000000
/-! [.. for .. in .. if ..] as a value; max of a list. -/
namespace L2
open PySem PySem.Spec PyProof.Rows
section
variable {X : Cx} {x : Str} {px pos : Pos} {elt iter cnd : Expr} {sc : Scope} {ys : List Str} {js : List Nat} {cl : List (Str × Addr)}
theorem pe_compF {wi : TI} {te : TE} {tc : TT} (hclos : closureFor sc X.env = pure cl) (hcell : ∀ y ∈ sc.names, y.2 ≠ .cell) (hkind : sc.kind = .function) (hnames : ∀ y ∈ sc.names, y.2 = .local → sc.names.lookup y.1 = some .local)
    (hx : (relabel sc X.env).names.lookup x = some .local) (hcap : Caps X sc cl ys js) (hin : ∀ y c, cl.lookup y = some c → X.env.cells.lookup y = some c)
    (hhas : ∀ y, ((relabel sc X.env).names.lookup y = some .cell ∨ (relabel sc X.env).names.lookup y = some .free) → ∃ c, cl.lookup y = some c) (hnd : (x :: ys).Nodup) (hc : X.calm = true)
    (hi : PI X.nox (.Name x px) iter wi) (hcd : ∀ s2 H2 C ex, PT (compCx X sc (x :: ys) cl s2 H2 C ex) cnd tc) (he : ∀ s2 H2 C ex, PE (compCx X sc (x :: ys) cl s2 H2 C ex) elt te) (hs : ∀ v, foldedSetIterable iter X.env v = pure v := by intro _; rfl) :
    PE X (.ListComp elt [⟨.Name x px, iter, [cnd], 0⟩] sc pos) (tCompF wi js tc te) := by
  intro pins s σ H Q I h
  rw [eval_ListComp]
  refine wpAny_mono (E := fun _ _ => False) (wpAny_comprehension_free (use := none) rfl hs hclos hkind hnames (wpAny_mono (hi pins s σ H _ (I.wish _) h) ?_ fun _ _ z => False.elim z)) (fun _ _ z => z) fun _ _ z => False.elim z
  intro v s1 h1
  refine wpAny_mono h1 ?_ fun _ _ z => False.elim z
  rintro itv s2 ⟨it, fp, tn, J, H2, rfl, I2w, T, st2, f2w, q⟩
  have I2 := I2w.unwish
  have f2 : ∀ b ∈ fp, FpOk X pins H2 b := f2w
  -- the list that grows, the block's own names
  refine wpAny_newObj_type (wpAny_newFunctionEnv hcell (by intro y hy; simp at hy) (fun h4 hns hsb => ?_) hkind)
  dsimp only at hns hsb ⊢
  generalize hE : s2.heap.push { cls := .type "list", dict := none, data := .seq ([] : List Value).toArray } = g3 at hns hsb ⊢
  have hsz : g3.objs.size = s2.heap.objs.size + 1 := by rw [← hE, Heap.size_push]
  have hDC : s2.heap.objs.size ≠ g3.objs.size := by omega
  have old : ∀ b o, s2.heap.get? b = some o → h4.get? b = some o := fun b o e => by
    have lt : b < s2.heap.objs.size := Heap.lt_size e
    rw [hsb.2 b (Nat.ne_of_lt (by rw [hsz]; exact Nat.lt_succ_of_lt lt))]
    exact Heap.get?_push_of_some _ (hE ▸ Heap.get?_push_of_some _ e)
  have hD0 : H2 s2.heap.objs.size = none := I2.hok.fresh (Nat.le_refl _)
  have hC0 : H2 g3.objs.size = none := I2.hok.fresh (by omega)
  have hDat : h4.get? s2.heap.objs.size = some { cls := .type "list", data := .seq ([] : List Value).toArray } := by
    rw [hsb.2 _ hDC]
    exact Heap.get?_push_of_some _ (hE ▸ Heap.get?_push_size _ rfl)
  obtain ⟨W, ⟨m0, w0⟩, turn⟩ := q s2.heap.objs.size hD0
  have hfl : ∀ b ∈ fp, b < s2.heap.objs.size := fun b hb => by
    obtain ⟨o, e, _⟩ := T.obj _ _ st2 b hb
    exact Heap.lt_size e
  have J0 : Inv (compCx X sc (x :: ys) cl s2 H2 g3.objs.size fp) [] (none :: capt σ js) (upd H2 s2.heap.objs.size (.lst [])) { s2 with heap := h4, toks := s2.toks + ([] : List (Str × Value)).length } := by
    refine inv_comp (m := fun y => ([] : List (Str × Value)).reverse.lookup y) I2 f2 hkind hcap hin hhas hfl (by omega) rfl I2.bare (Un.laid old (Nat.le_refl _) hD0) old hns ?_ ?_
    · rw [upd_ne (Ne.symm hDC)]; exact hC0
    · exact I2.hok.laid old (Nat.le_refl _) ⟨Nat.zero_le _, [], 0, .nil, hDat⟩
  have st4 : tn 0 h4 := T.keep _ _ _ st2 fun b hb o e => old b o e
  have xcell : ∀ y c, (compCx X sc (x :: ys) cl s2 H2 g3.objs.size fp).env.cells.lookup y = some c → X.env.cells.lookup y = some c := hin
  have stat : ∀ {H' : Hp}, (∀ b ∈ fp, H' b = none) → ∀ b ∈ fp, FpOk (compCx X sc (x :: ys) cl s2 H2 g3.objs.size fp) [] H' b := fun hn b hb => by
    refine ⟨hn b hb, ?_, ?_, .inl hb, fun y c e => (f2 b hb).2.2.2.2.1 y c (hin y c e), fun p hp => absurd (show p ∈ ([] : List (Addr × Obj)) from hp) (by simp)⟩
    · have lt : b < s2.heap.objs.size := hfl b hb
      exact Nat.ne_of_lt (by show b < g3.objs.size; rw [hsz]; exact Nat.lt_succ_of_lt lt)
    · intro z
      rcases List.mem_cons.mp (I2.stkSub b z) with q | q
      · exact (f2 b hb).2.1 q
      · exact (f2 b hb).2.2.1 q
  have fin : ∀ {σ' : St} {H' : Hp} {s' : Shared}, Inv (compCx X sc (x :: ys) cl s2 H2 g3.objs.size fp) [] σ' H' s' → Q (.ref s2.heap.objs.size) H' →
      compPost (model X.prog X.w) X.A (fun _ _ => False) none (EP X pins σ Q) (.ref s2.heap.objs.size) g3.objs.size (.ok .next) s' := fun {σ' H' s'} J' q' => by
    obtain ⟨m, hm, _⟩ := J'.loc
    refine ⟨m, hm, fun h' sb => ?_⟩
    have neC : ∀ b o, s2.heap.get? b = some o → b ≠ g3.objs.size := fun b o e => by
      have lt : b < s2.heap.objs.size := Heap.lt_size e
      exact Nat.ne_of_lt (by rw [hsz]; exact Nat.lt_succ_of_lt lt)
    have ub := J'.base
    refine ⟨.ref s2.heap.objs.size, H', ?_, rfl, q'⟩
    refine I2.call' (s' := { s' with heap := h' }) (ch := fp) J'.os ⟨fun b o e n hb hx => (sb.2 b (neC b o e)).trans (ub.keep b o e n hb hx), fun b o e n hb hx => ?_, ub.free, fun b o e hx => ?_, ub.tups, ub.frzs, ub.tbls⟩ (fun b u e => ?_) J'.bare fun b hb => ⟨(f2 b hb).2.2.2.1, (f2 b hb).2.1, (f2 b hb).2.2.2.2.1, (f2 b hb).2.2.2.2.2⟩
    · obtain ⟨sl, e1⟩ := ub.slot b o e n hb hx
      exact ⟨sl, (sb.2 b (neC b o e)).trans e1⟩
    · obtain ⟨o', e1⟩ := ub.there b o e hx
      exact ⟨o', (sb.2 b (neC b o e)).trans e1⟩
    · have hCn : H' g3.objs.size = none := J'.free
      refine (J'.hok b u e).stay (fun c v hc z => (sb.2 c ?_).trans z) (fun _ z => z) fun _ _ z => z
      rintro rfl
      rcases hc with hc | hc
      · rw [← hc, hCn] at e; cases e
      · rw [hCn] at hc; cases hc
  have loop : ∀ s4 : Shared, s4 = { s2 with heap := h4, toks := s2.toks + ([] : List (Str × Value)).length } →
      codeAny (model X.prog X.w) X.A (.compLoop (.ListComp elt [⟨.Name x px, iter, [cnd], 0⟩] sc pos) 0 (.ref it) (.ref s2.heap.objs.size) (compEnvC sc cl g3.objs.size X.env))
        (compPost (model X.prog X.w) X.A (fun _ _ => False) none (EP X pins σ Q) (.ref s2.heap.objs.size) g3.objs.size) s4 := by
    rintro s4 rfl
    refine comp_loopF (fun n s' => ∃ i xo ys' H', Inv (compCx X sc (x :: ys) cl s2 H2 g3.objs.size fp) [] (xo :: capt σ js) H' s' ∧ tn i s'.heap ∧ (∀ b ∈ fp, H' b = none) ∧ W i n ys' H') ?_ m0 ⟨0, none, [], _, J0, st4, fun b hb => ?_, w0⟩
    · rintro n s' ⟨i, xo, ys', H', J', st', fr', w'⟩
      obtain ⟨hD, alt⟩ := turn i n ys' H' w'
      rcases alt with ⟨stop, qn⟩ | ⟨go, step⟩
      · refine wpAny_mono (T.done (compCx X sc (x :: ys) cl s2 H2 g3.objs.size fp) rfl rfl rfl hc i [] s' _ H' (fun _ _ => False) J' (stat fr') st' stop) ?_ fun _ _ z => z
        rintro r s'' ⟨rfl, J''⟩
        exact fin J'' qn
      · refine wpAny_mono (T.item (compCx X sc (x :: ys) cl s2 H2 g3.objs.size fp) rfl rfl rfl hc i [] s' _ H' (fun _ _ => False) J' (stat fr') st' go) ?_ fun _ _ z => z
        rintro r s'' ⟨u, rfl, hu⟩
        refine wpAny_mono hu ?_ fun _ _ z => z
        rintro _ s5 ⟨xv, H5, J5, r5, y5, st5, fr5⟩
        have J5' := J5.pinned (stat fr5) (T.obj _ _ st5)
        refine wpAny_assign_Name (store_ok (X := compCx X sc (x :: ys) cl s2 H2 g3.objs.size fp) (i := 0) J5' hnd rfl (.inl hx) r5 (fun s6 J6 => ?_) (.inr hx))
        refine wpAny_mono (hcd s2 H2 g3.objs.size fp _ s6 _ H5 _ J6 (step xv H5 y5)) ?_ fun _ _ z => z
        rintro okb s9 ⟨H9, J9, c9⟩
        cases okb with
        | false =>
          rw [if_neg Bool.false_ne_true] at c9 ⊢
          obtain ⟨m', hm', w7⟩ := c9
          have pinned : ∀ b ∈ fp, ∀ o, s5.heap.get? b = some o → s9.heap.get? b = some o ∧ H9 b = none := fun b hb o e => by
            obtain ⟨q1, q2, _⟩ := J9.pin (b, o) (List.mem_append_right _ (List.mem_append_right _ (mem_pinsAt hb e)))
            exact ⟨q1, q2⟩
          refine ⟨m', hm', i + 1, some xv, ys', _, J9.unpinned, T.keep _ _ _ st5 fun b hb o e => (pinned b hb o e).1, fun b hb => ?_, w7⟩
          obtain ⟨o, e, _⟩ := T.obj _ _ st5 b hb
          exact (pinned b hb o e).2
        | true =>
          rw [if_pos rfl] at c9 ⊢
          refine wpAny_mono (he s2 H2 g3.objs.size fp _ s9 _ H9 _ J9 c9) ?_ fun _ _ z => z
          rintro yv s7 ⟨yy, H7, J7, r7, hD7, hlen, m', hm', w7⟩
          refine wpAny_mono (mt_append (X := compCx X sc (x :: ys) cl s2 H2 g3.objs.size fp) _ s7 _ H7 (.ref s2.heap.objs.size) [yy] (.ref s2.heap.objs.size) [yv] (fun _ H8 => H8 = upd H7 s2.heap.objs.size (.lst (ys' ++ [yy]))) J7 rfl (.cons r7 .nil) ⟨_, ys', yy, rfl, rfl, hD7, hlen, rfl⟩) ?_ fun _ _ z => z
          rintro _ s8 ⟨_, H8, J8, _, rfl⟩
          have pinned : ∀ b ∈ fp, ∀ o, s5.heap.get? b = some o → s8.heap.get? b = some o ∧ (upd H7 s2.heap.objs.size (.lst (ys' ++ [yy]))) b = none := fun b hb o e => by
            obtain ⟨q1, q2, _⟩ := J8.pin (b, o) (List.mem_append_right _ (List.mem_append_right _ (mem_pinsAt hb e)))
            exact ⟨q1, q2⟩
          refine ⟨m', hm', i + 1, some xv, ys' ++ [yy], _, J8.unpinned, T.keep _ _ _ st5 fun b hb o e => (pinned b hb o e).1, fun b hb => ?_, w7⟩
          obtain ⟨o, e, _⟩ := T.obj _ _ st5 b hb
          exact (pinned b hb o e).2
    · rw [upd_ne (Nat.ne_of_lt (hfl b hb))]
      exact (f2 b hb).1
  exact codeAny_compStart_list (loop _ rfl) (T.self _ _ _ _ _ st4 (loop _ rfl))
end
theorem e_compF {X : Cx} {x : Str} {px pos : Pos} {elt iter cnd : Expr} {sc : Scope} {wi : TI} {te : TE} {tc : TT} (ys : List Str) (js : List Nat) (cl : List (Str × Addr)) (hclos : closureFor sc X.env = pure cl) (hcap : Caps X sc cl ys js) (hin : ClIn X.env cl)
    (hi : QI X.nox (.Name x px) iter wi) (hcd : ∀ s2 H2 C ex, QT (compCx X sc (x :: ys) cl s2 H2 C ex) cnd tc) (he : ∀ s2 H2 C ex, QE (compCx X sc (x :: ys) cl s2 H2 C ex) elt te) (hc : X.calm = true := by rfl)
    (hcell : (sc.names.all fun p => p.2 != NameKind.cell) = true := by rfl) (hkind : sc.kind = .function := by rfl) (hnames : (sc.names.all fun p => p.2 != NameKind.local || sc.names.lookup p.1 == some NameKind.local) = true := by rfl)
    (hx : (relabel sc X.env).names.lookup x = some .local := by rfl) (hhas : ((relabel sc X.env).names.all fun p => p.2 == NameKind.local || p.2 == NameKind.globalImplicit || (cl.lookup p.1).isSome) = true := by rfl)
    (hnd : (x :: ys).Nodup := by decide +kernel) (hs : ∀ v, foldedSetIterable iter X.env v = pure v := by intro _; rfl) : QE X (.ListComp elt [⟨.Name x px, iter, [cnd], 0⟩] sc pos) (tCompF wi js tc te) := by
  refine ⟨pe_compF hclos (fun y hy z => ?_) hkind (fun y hy z => ?_) hx hcap (fun y c e => hin.mem (PySem.mem_of_lookup e)) (fun y h => ?_) hnd hc hi.h (fun a b c d => (hcd a b c d).h) (fun a b c d => (he a b c d).h) hs⟩
  · have := List.all_eq_true.mp hcell y hy
    rw [z] at this
    exact absurd this (by decide)
  · have := List.all_eq_true.mp hnames y hy
    rw [z] at this
    simpa using this
  · have hm : ∃ k, (y, k) ∈ (relabel sc X.env).names ∧ (k = .cell ∨ k = .free) := by
      rcases h with h | h
      · exact ⟨_, PySem.mem_of_lookup h, .inl rfl⟩
      · exact ⟨_, PySem.mem_of_lookup h, .inr rfl⟩
    obtain ⟨k, hk, hz⟩ := hm
    have := List.all_eq_true.mp hhas _ hk
    rcases hz with rfl | rfl
    · exact Option.isSome_iff_exists.mp (by simpa using this)
    · exact Option.isSome_iff_exists.mp (by simpa using this)
theorem call_minK {X : Cx} {K : PySem.W.Frag} (hK : X.K = K) (hc : X.calm = true) : CallR X (.builtin "min") (fun xs H Q => ∃ (a : Addr) (ns : List Int), xs = [.ref a] ∧ SqL K H a (ns.map V.int) ∧ 0 < ns.length ∧ ∀ m ∈ ns, (∀ v ∈ ns, m ≤ v) → Q (.int m) H) := by
  subst hK
  intro pins s σ H xs us Q I r h
  obtain ⟨a, ns, rfl, hS, hn, q⟩ := h
  obtain ⟨u, rfl, ru⟩ := vals1 r
  cases ru
  obtain ⟨its, rv, pl, hz⟩ := I.list hS
  have hlen : its.length = ns.length := by rw [← rv.length, List.length_map]
  have hall : AllInts its.toArray := by
    intro v hv
    obtain ⟨i, hi⟩ := List.mem_iff_getElem?.mp (show v ∈ its by simpa using hv)
    have hi' : i < ns.length := by have := (List.getElem?_eq_some_iff.mp hi).1; omega
    obtain ⟨u, hu, ru⟩ := rv.get (i := i) (x := V.int ns[i]) (by rw [List.getElem?_map, List.getElem?_eq_getElem hi']; rfl)
    rw [hi] at hu
    cases hu
    obtain ⟨t, rfl⟩ := ru
    exact ⟨_, _, rfl⟩
  obtain ⟨ys, e⟩ := hall.items
  have hys : ys.size = ns.length := by
    have := congrArg Array.size e
    simp [intItems] at this
    omega
  have at' : ∀ (i : Nat) (hi : i < ns.length), numAt ys i = ns[i] := fun i hi => by
    obtain ⟨u, hu, ru⟩ := rv.get (i := i) (x := V.int ns[i]) (by rw [List.getElem?_map, List.getElem?_eq_getElem hi]; rfl)
    have hu2 : (intItems ys)[i]? = some u := by rw [← e]; simpa using hu
    obtain ⟨t, rfl⟩ := intItems_at hu2
    obtain ⟨t', e'⟩ := ru
    injection e'
  refine min_intList (I.ok.hd hc) (by rw [← e]; exact pl.isList) (by omega) fun v h' tk hv kp => ?_
  obtain ⟨h1, h2⟩ := argBest_lt (numAt ys) (ys.size - 1)
  obtain ⟨t, rfl⟩ := intItems_at hv
  generalize argBest (fun i j => decide (numAt ys i < numAt ys j)) (ys.size - 1) = j at h1 h2
  have hj : j < ns.length := by omega
  refine ⟨.int (numAt ys j), H, I.kept kp, ⟨t, rfl⟩, ?_⟩
  rw [at' j hj]
  refine q _ (List.getElem_mem hj) fun v hv => ?_
  obtain ⟨i, hi, rfl⟩ := List.mem_iff_getElem.mp hv
  have h3 := h2 i (by omega)
  rw [at' j hj, at' i hi] at h3
  exact h3
theorem call_maxK {X : Cx} {K : PySem.W.Frag} (hK : X.K = K) (hc : X.calm = true) : CallR X (.builtin "max") (fun xs H Q => ∃ (a : Addr) (ns : List Int), xs = [.ref a] ∧ SqL K H a (ns.map V.int) ∧ 0 < ns.length ∧ ∀ m ∈ ns, (∀ v ∈ ns, v ≤ m) → Q (.int m) H) := by
  subst hK
  intro pins s σ H xs us Q I r h
  obtain ⟨a, ns, rfl, hS, hn, q⟩ := h
  obtain ⟨u, rfl, ru⟩ := vals1 r
  cases ru
  obtain ⟨its, rv, pl, hz⟩ := I.list hS
  have hlen : its.length = ns.length := by rw [← rv.length, List.length_map]
  have hall : AllInts its.toArray := by
    intro v hv
    obtain ⟨i, hi⟩ := List.mem_iff_getElem?.mp (show v ∈ its by simpa using hv)
    have hi' : i < ns.length := by have := (List.getElem?_eq_some_iff.mp hi).1; omega
    obtain ⟨u, hu, ru⟩ := rv.get (i := i) (x := V.int ns[i]) (by rw [List.getElem?_map, List.getElem?_eq_getElem hi']; rfl)
    rw [hi] at hu
    cases hu
    obtain ⟨t, rfl⟩ := ru
    exact ⟨_, _, rfl⟩
  obtain ⟨ys, e⟩ := hall.items
  have hys : ys.size = ns.length := by
    have := congrArg Array.size e
    simp [intItems] at this
    omega
  have at' : ∀ (i : Nat) (hi : i < ns.length), numAt ys i = ns[i] := fun i hi => by
    obtain ⟨u, hu, ru⟩ := rv.get (i := i) (x := V.int ns[i]) (by rw [List.getElem?_map, List.getElem?_eq_getElem hi]; rfl)
    have hu2 : (intItems ys)[i]? = some u := by rw [← e]; simpa using hu
    obtain ⟨t, rfl⟩ := intItems_at hu2
    obtain ⟨t', e'⟩ := ru
    injection e'
  refine max_intList (I.ok.hd hc) (by rw [← e]; exact pl.isList) (by omega) fun v h' tk hv kp => ?_
  obtain ⟨h1, h2⟩ := argBest_gt (numAt ys) (ys.size - 1)
  obtain ⟨t, rfl⟩ := intItems_at hv
  generalize argBest (fun i j => decide (numAt ys i > numAt ys j)) (ys.size - 1) = j at h1 h2
  have hj : j < ns.length := by omega
  refine ⟨.int (numAt ys j), H, I.kept kp, ⟨t, rfl⟩, ?_⟩
  rw [at' j hj]
  refine q _ (List.getElem_mem hj) fun v hv => ?_
  obtain ⟨i, hi, rfl⟩ := List.mem_iff_getElem.mp hv
  have h3 := h2 i (by omega)
  rw [at' j hj, at' i hi] at h3
  exact h3
end L2

set_option linter.all false
set_option maxRecDepth 100000
/-! a def whose code is known, for k_is -/
namespace L2
open PySem PySem.Spec PyProof.Rows
theorem funT_of {K : PySem.W.Frag} {x : Str} {st : Stmt} {f c T : Addr} {oc : Value} {od an : Option Addr} {osl : Array (Option Value)} {kV doc pm cdv ct : Value} (a : PySem.W.nsIn K mainGlobals x = some (some (.ref f)))
    (l : K.lookup f = some ⟨oc, od, .func (PySem.W.fnOf x x (defArgs st) (defBody st) (defScope st) .none kV doc pm an cdv ct), osl⟩) (cI : PySem.W.codeIn K cdv x = true) (k : PySem.W.keepIn K (.ref f) = true) (e : cdv = .ref c) (h : PySem.W.codeHdIn K c T = true) : FunT K x st c T :=
  ⟨h, f, _, a, fun_mk l cI k, e⟩
end L2

set_option linter.all false
set_option maxRecDepth 100000
/-! Strips to prints, by their least frames, each to the first print that is free. -/
namespace KS
open PySem
/-- what a strip wants: its reel, from lo to hi -/
structure Iv where
  reel : Str
  lo : Int
  hi : Int
def ivOf (spoil : Int) (c : Clip) : Iv := ⟨c.reel, if c.b < c.a then c.b else c.a, (if c.a < c.b then c.b else c.a) + spoil⟩
/-- the first place whose end lies ahead of x, or behind all -/
def ff : List Int → Int → Nat
  | [], _ => 0
  | e :: r, x => if e < x then 0 else ff r x + 1
def putE (es : List Int) (p : Nat) (e : Int) : List Int := if p = es.length then es ++ [e] else es.set p e
theorem ff_le : ∀ (es : List Int) (x : Int), ff es x ≤ es.length
  | [], _ => Nat.le_refl _
  | e :: r, x => by
    unfold ff
    have := ff_le r x
    split <;> simp <;> omega
theorem ff_lt : ∀ {es : List Int} {x : Int} {e : Int}, es[ff es x]? = some e → e < x
  | [], _, _, h => by cases h
  | a :: r, x, e, h => by
    unfold ff at h
    split at h
    · cases h
      assumption
    · rw [List.getElem?_cons_succ] at h
      exact ff_lt h
theorem ff_ge : ∀ {es : List Int} {x : Int} {q : Nat} {e : Int}, q < ff es x → es[q]? = some e → x ≤ e
  | [], _, _, _, _, h => by cases h
  | a :: r, x, q, e, hq, h => by
    unfold ff at hq
    split at hq
    · cases hq
    · rename_i k
      cases q with
      | zero =>
        cases h
        omega
      | succ q =>
        rw [List.getElem?_cons_succ] at h
        exact ff_ge (by omega) h
theorem putE_len (es : List Int) (p : Nat) (e : Int) : (putE es p e).length = if p = es.length then es.length + 1 else es.length := by
  unfold putE
  split
  · rw [List.length_append]; rfl
  · rw [List.length_set]
theorem putE_at {es : List Int} {p : Nat} {e : Int} (h : p ≤ es.length) : (putE es p e)[p]? = some e := by
  unfold putE
  split
  · rename_i k
    rw [k, List.getElem?_append_right (Nat.le_refl _), Nat.sub_self]
    rfl
  · exact List.getElem?_set_self (by omega)
theorem putE_ne {es : List Int} {p q : Nat} {e : Int} (h : p ≤ es.length) (hq : q ≠ p) : (putE es p e)[q]? = es[q]? := by
  unfold putE
  split
  · rename_i k
    by_cases h2 : q < es.length
    · rw [List.getElem?_append_left h2]
    · rw [List.getElem?_eq_none (by rw [List.length_append, List.length_singleton]; omega), List.getElem?_eq_none (by omega)]
  · rw [List.getElem?_set_ne (Ne.symm hq)]
abbrev Ends := Str → List Int
def Ends.put (f : Ends) (r : Str) (es : List Int) : Ends := fun x => if x = r then es else f x
/-- the prints, in the order in which the strips are taken -/
def runP : List Iv → Ends → List (Iv × Nat)
  | [], _ => []
  | v :: r, f => (v, ff (f v.reel) v.lo) :: runP r (f.put v.reel (putE (f v.reel) (ff (f v.reel) v.lo) v.hi))
def endsP : List Iv → Ends → Ends
  | [], f => f
  | v :: r, f => endsP r (f.put v.reel (putE (f v.reel) (ff (f v.reel) v.lo) v.hi))
/-- what the ends tell of the strips taken so far -/
structure Told (done : List (Iv × Nat)) (f : Ends) : Prop where
  up : ∀ x ∈ done, ∃ e, (f x.1.reel)[x.2]? = some e ∧ x.1.hi ≤ e
  by' : ∀ (r : Str) (p : Nat) e, (f r)[p]? = some e → ∃ x ∈ done, x.1.reel = r ∧ x.2 = p ∧ x.1.hi = e
theorem Told.nil : Told [] (fun _ => []) := ⟨(fun x h => by cases h), (fun r p e h => by cases h)⟩
/-- a new one lies behind all of its print -/
theorem Told.behind {done : List (Iv × Nat)} {f : Ends} {v : Iv} (T : Told done f) : ∀ x ∈ done, x.1.reel = v.reel → x.2 = ff (f v.reel) v.lo → x.1.hi < v.lo := by
  intro x hx hr hp
  obtain ⟨e, h1, h2⟩ := T.up x hx
  rw [hr, hp] at h1
  have := ff_lt h1
  omega
/-- each print ahead of it has one that wants its least frame -/
theorem Told.ahead {done : List (Iv × Nat)} {f : Ends} {v : Iv} (T : Told done f) {q : Nat} (hq : q < ff (f v.reel) v.lo) : ∃ x ∈ done, x.1.reel = v.reel ∧ x.2 = q ∧ v.lo ≤ x.1.hi := by
  have hl := ff_le (f v.reel) v.lo
  have hx : (f v.reel)[q]? = some (f v.reel)[q] := List.getElem?_eq_getElem (by omega)
  obtain ⟨x, h1, h2, h3, h4⟩ := T.by' v.reel q _ hx
  exact ⟨x, h1, h2, h3, by rw [h4]; exact ff_ge hq hx⟩
theorem Told.put {done : List (Iv × Nat)} {f : Ends} {v : Iv} (T : Told done f) (hv : v.lo ≤ v.hi) : Told (done ++ [(v, ff (f v.reel) v.lo)]) (f.put v.reel (putE (f v.reel) (ff (f v.reel) v.lo) v.hi)) := by
  have hl := ff_le (f v.reel) v.lo
  refine ⟨fun x hx => ?_, fun r p e h => ?_⟩
  · rcases List.mem_append.mp hx with hx | hx
    · obtain ⟨e, h1, h2⟩ := T.up x hx
      by_cases hr : x.1.reel = v.reel
      · unfold Ends.put
        rw [if_pos hr]
        by_cases hp : x.2 = ff (f v.reel) v.lo
        · have := T.behind x hx hr hp
          rw [hp]
          exact ⟨v.hi, putE_at hl, by omega⟩
        · rw [hr] at h1
          exact ⟨e, by rw [putE_ne hl hp]; exact h1, h2⟩
      · unfold Ends.put
        rw [if_neg hr]
        exact ⟨e, h1, h2⟩
    · rw [List.mem_singleton.mp hx]
      unfold Ends.put
      show ∃ e, (if v.reel = v.reel then _ else _)[_]? = some e ∧ v.hi ≤ e
      rw [if_pos rfl]
      exact ⟨v.hi, putE_at hl, Int.le_refl _⟩
  · unfold Ends.put at h
    split at h
    · rename_i hr
      by_cases hp : p = ff (f v.reel) v.lo
      · rw [hp, putE_at hl] at h
        cases h
        exact ⟨_, List.mem_append_right _ (List.mem_singleton.mpr rfl), hr.symm, hp.symm, rfl⟩
      · rw [putE_ne hl hp] at h
        obtain ⟨x, h1, h2, h3, h4⟩ := T.by' v.reel p e h
        exact ⟨x, List.mem_append_left _ h1, h2.trans hr.symm, h3, h4⟩
    · obtain ⟨x, h1, h2, h3, h4⟩ := T.by' r p e h
      exact ⟨x, List.mem_append_left _ h1, h2, h3, h4⟩
/-- what is told of all, in their order -/
structure Fit (out : List (Iv × Nat)) : Prop where
  apart : out.Pairwise fun x y => x.1.reel = y.1.reel → x.2 = y.2 → x.1.hi < y.1.lo
  full : ∀ (i : Nat) y, out[i]? = some y → ∀ q, q < y.2 → ∃ j x, j < i ∧ out[j]? = some x ∧ x.1.reel = y.1.reel ∧ x.2 = q ∧ y.1.lo ≤ x.1.hi
theorem fit_run : ∀ (vs : List Iv) (done : List (Iv × Nat)) (f : Ends), (∀ v ∈ vs, v.lo ≤ v.hi) → Told done f → Fit done → Fit (done ++ runP vs f)
  | [], done, f, _, _, F => by unfold runP; rw [List.append_nil]; exact F
  | v :: r, done, f, h, T, F => by
    have hv := h v (List.mem_cons_self ..)
    have T2 := T.put hv
    have F2 : Fit (done ++ [(v, ff (f v.reel) v.lo)]) := by
      refine ⟨?_, fun i y hy q hq => ?_⟩
      · rw [List.pairwise_append]
        refine ⟨F.apart, List.pairwise_singleton _ _, fun x hx y hy hr hp => ?_⟩
        rw [List.mem_singleton.mp hy] at hr hp ⊢
        exact T.behind x hx hr hp
      · by_cases hi : i < done.length
        · rw [List.getElem?_append_left hi] at hy
          obtain ⟨j, x, h1, h2, h3⟩ := F.full i y hy q hq
          exact ⟨j, x, h1, by rw [List.getElem?_append_left (by omega)]; exact h2, h3⟩
        · have hl := (List.getElem?_eq_some_iff.mp hy).1
          rw [List.length_append, List.length_singleton] at hl
          rw [List.getElem?_append_right (by omega), show i - done.length = 0 by omega] at hy
          cases hy
          obtain ⟨x, h1, h2, h3, h4⟩ := T.ahead hq
          obtain ⟨j, hj⟩ := List.getElem?_of_mem h1
          have hjl := (List.getElem?_eq_some_iff.mp hj).1
          exact ⟨j, x, by omega, by rw [List.getElem?_append_left hjl]; exact hj, h2, h3, h4⟩
    have := fit_run r _ _ (fun x hx => h x (List.mem_cons_of_mem _ hx)) T2 F2
    rw [List.append_assoc] at this
    exact this
theorem fit_all {vs : List Iv} (h : ∀ v ∈ vs, v.lo ≤ v.hi) : Fit (runP vs fun _ => []) := by
  have := fit_run vs [] (fun _ => []) h Told.nil ⟨List.Pairwise.nil, fun i y hy => by cases hy⟩
  exact this
theorem runP_fst : ∀ (vs : List Iv) (f : Ends), (runP vs f).map (·.1) = vs
  | [], _ => rfl
  | v :: r, f => by unfold runP; rw [List.map_cons, runP_fst r]
theorem runP_app : ∀ (vs us : List Iv) (f : Ends), runP (vs ++ us) f = runP vs f ++ runP us (endsP vs f)
  | [], us, f => rfl
  | v :: r, us, f => by
    show (v, _) :: runP (r ++ us) _ = (v, _) :: (runP r _ ++ runP us (endsP r _))
    rw [runP_app r us]
/-! ### by the strips' own numbers -/
structure PrOk (ivs : List Iv) (ps : List Nat) : Prop where
  len : ps.length = ivs.length
  apart : ∀ (i j : Nat) u v p, ivs[i]? = some u → ivs[j]? = some v → ps[i]? = some p → ps[j]? = some p → i ≠ j → u.reel = v.reel → u.hi < v.lo ∨ v.hi < u.lo
  full : ∀ (j : Nat) v p, ivs[j]? = some v → ps[j]? = some p → ∀ q, q < p → ∃ (i : Nat) (u : Iv), ivs[i]? = some u ∧ ps[i]? = some q ∧ u.reel = v.reel ∧ u.lo ≤ v.lo ∧ v.lo ≤ u.hi
theorem pair_at {α : Type} {R : α → α → Prop} {l : List α} (h : l.Pairwise R) {i j : Nat} {x y : α} (hij : i < j) (hx : l[i]? = some x) (hy : l[j]? = some y) : R x y := by
  obtain ⟨h1, h2⟩ := List.getElem?_eq_some_iff.mp hx
  obtain ⟨h3, h4⟩ := List.getElem?_eq_some_iff.mp hy
  have := (List.pairwise_iff_getElem.mp h) i j h1 h3 hij
  rw [h2, h4] at this
  exact this
/-- the strips taken in an order by their least frames -/
theorem prok_of {ivs : List Iv} {ps js : List Nat} (hl : ps.length = ivs.length) (hv : ∀ v ∈ ivs, v.lo ≤ v.hi) (hp : js.Perm (List.range ivs.length)) (d : Iv) (hs : js.Pairwise fun a b => (ivs.getD a d).lo ≤ (ivs.getD b d).lo)
    (hps : ∀ (i j : Nat) x, js[i]? = some j → (runP (js.map fun j => ivs.getD j d) fun _ => [])[i]? = some x → ps[j]? = some x.2) : PrOk ivs ps := by
  have hmem : ∀ j ∈ js, j < ivs.length := fun j hj => List.mem_range.mp (hp.mem_iff.mp hj)
  have F := fit_all (vs := js.map fun j => ivs.getD j d) fun v hv' => by
    obtain ⟨j, hj, rfl⟩ := List.mem_map.mp hv'
    have := hmem j hj
    rw [List.getD_eq_getElem?_getD, List.getElem?_eq_getElem this]
    exact hv _ (List.getElem_mem this)
  have fst := runP_fst (js.map fun j => ivs.getD j d) fun _ => []
  have at' : ∀ (j : Nat) v p, ivs[j]? = some v → ps[j]? = some p → ∃ i : Nat, js[i]? = some j ∧ (runP (js.map fun j => ivs.getD j d) fun _ => [])[i]? = some (v, p) := by
    intro j v p h1 h2
    have hj : j < ivs.length := (List.getElem?_eq_some_iff.mp h1).1
    obtain ⟨i, hi⟩ := List.getElem?_of_mem (hp.mem_iff.mpr (List.mem_range.mpr hj))
    refine ⟨i, hi, ?_⟩
    have hx : ((runP (js.map fun j => ivs.getD j d) fun _ => []).map (·.1))[i]? = some v := by
      rw [fst, List.getElem?_map, hi]
      show some (ivs.getD j d) = some v
      rw [List.getD_eq_getElem?_getD, h1]
      rfl
    rw [List.getElem?_map] at hx
    cases hz : (runP (js.map fun j => ivs.getD j d) fun _ => [])[i]? with
    | none => rw [hz] at hx; cases hx
    | some x =>
      rw [hz] at hx
      have e1 : x.1 = v := Option.some.inj hx
      have e2 := hps i j x hi hz
      rw [h2] at e2
      have e2 := Option.some.inj e2
      rw [← e1, e2]
  have nd : js.Nodup := hp.nodup_iff.mpr List.nodup_range
  have back : ∀ (i : Nat) x, (runP (js.map fun j => ivs.getD j d) fun _ => [])[i]? = some x → ∃ j : Nat, js[i]? = some j ∧ ivs[j]? = some x.1 ∧ ps[j]? = some x.2 := by
    intro i x hx
    have hl2 := congrArg List.length fst
    rw [List.length_map, List.length_map] at hl2
    have hi := (List.getElem?_eq_some_iff.mp hx).1
    have hj : js[i]? = some js[i] := List.getElem?_eq_getElem (by omega)
    refine ⟨_, hj, ?_, hps i _ x hj hx⟩
    have hjl := hmem _ (List.getElem_mem (l := js) (n := i) (by omega))
    have := congrArg (fun l => l[i]?) fst
    simp only [List.getElem?_map, hx, hj] at this
    have this : x.1 = ivs.getD js[i] d := Option.some.inj this
    rw [this, List.getD_eq_getElem?_getD, List.getElem?_eq_getElem hjl]
    rfl
  refine ⟨hl, fun i j u v p h1 h2 h3 h4 hne hr => ?_, fun j v p h1 h2 q hq => ?_⟩
  · obtain ⟨a, ha, hoa⟩ := at' i u p h1 h3
    obtain ⟨b, hb, hob⟩ := at' j v p h2 h4
    rcases Nat.lt_trichotomy a b with k | k | k
    · exact .inl (pair_at F.apart k hoa hob hr rfl)
    · rw [k, hb] at ha
      exact absurd (Option.some.inj ha).symm hne
    · exact .inr (pair_at F.apart k hob hoa hr.symm rfl)
  · obtain ⟨b, hb, hob⟩ := at' j v p h1 h2
    obtain ⟨a, x, hab, hx, hr, hq2, hlo⟩ := F.full b (v, p) hob q hq
    obtain ⟨i, hi, h3, h4⟩ := back a x hx
    refine ⟨i, x.1, h3, by rw [← hq2]; exact h4, hr, ?_, hlo⟩
    have := pair_at hs hab hi hb
    rw [List.getD_eq_getElem?_getD, h3, List.getD_eq_getElem?_getD, h1] at this
    exact this
/-! ### how many want a frame -/
theorem len_sub {α : Type} [DecidableEq α] : ∀ {l m : List α}, l.Nodup → (∀ x ∈ l, x ∈ m) → l.length ≤ m.length
  | [], _, _, _ => Nat.zero_le _
  | a :: l, m, hn, h => by
    obtain ⟨h1, h2⟩ := List.nodup_cons.mp hn
    have ha := h a (List.mem_cons_self ..)
    have := len_sub (l := l) (m := m.erase a) h2 fun x hx => by
      have hne : x ≠ a := fun e => h1 (e ▸ hx)
      exact (List.mem_erase_of_ne hne).mpr (h x (List.mem_cons_of_mem _ hx))
    rw [List.length_erase_of_mem ha] at this
    have hm : 0 < m.length := List.length_pos_of_mem ha
    rw [List.length_cons]
    omega
def wantB (r : Str) (x : Int) (v : Iv) : Bool := decide (v.reel = r) && (decide (v.lo ≤ x) && decide (x ≤ v.hi))
/-- the numbers of all strips that want a frame -/
def wanting (ivs : List Iv) (r : Str) (x : Int) : List Nat := (List.range ivs.length).filter fun k => match ivs[k]? with
  | some v => wantB r x v
  | none => false
theorem mem_wanting {ivs : List Iv} {r : Str} {x : Int} {k : Nat} : k ∈ wanting ivs r x ↔ ∃ v, ivs[k]? = some v ∧ v.reel = r ∧ v.lo ≤ x ∧ x ≤ v.hi := by
  unfold wanting
  rw [List.mem_filter, List.mem_range]
  constructor
  · rintro ⟨h1, h2⟩
    rw [List.getElem?_eq_getElem h1] at h2
    refine ⟨_, List.getElem?_eq_getElem h1, ?_⟩
    unfold wantB at h2
    simpa using h2
  · rintro ⟨v, h1, h2⟩
    refine ⟨(List.getElem?_eq_some_iff.mp h1).1, ?_⟩
    rw [h1]
    unfold wantB
    simpa using h2
/-- as many as its print's number, and one more, want its least frame -/
theorem PrOk.many {ivs : List Iv} {ps : List Nat} (P : PrOk ivs ps) {j : Nat} {v : Iv} {p : Nat} (hv : ivs[j]? = some v) (hp : ps[j]? = some p) (hl : v.lo ≤ v.hi) : p + 1 ≤ (wanting ivs v.reel v.lo).length := by
  have h : ∀ q ∈ List.range (p + 1), q ∈ (wanting ivs v.reel v.lo).map fun k => ps.getD k 0 := by
    intro q hq
    have hq := List.mem_range.mp hq
    by_cases k : q = p
    · refine List.mem_map.mpr ⟨j, mem_wanting.mpr ⟨v, hv, rfl, Int.le_refl _, hl⟩, ?_⟩
      rw [List.getD_eq_getElem?_getD, hp, k]
      rfl
    · obtain ⟨i, u, h1, h2, h3, h4, h5⟩ := P.full j v p hv hp q (by omega)
      refine List.mem_map.mpr ⟨i, mem_wanting.mpr ⟨u, h1, h3, h4, h5⟩, ?_⟩
      rw [List.getD_eq_getElem?_getD, h2]
      rfl
  have := len_sub List.nodup_range h
  rw [List.length_range, List.length_map] at this
  exact this
/-! ### a clip begins at most one strip -/
structure Hd (c : Clip) (j : Nat) (s : Clip) : Prop where
  re : s.reel = c.reel
  b : s.b = c.a + ((j - 1 : Nat) : Int) * c.way
  w : s.a = s.b ∨ s.way = c.way
end KS

set_option linter.all false
set_option maxRecDepth 100000
/-! Strips to prints, place by place. -/
namespace KS
open PySem
theorem endsP_snoc : ∀ (us : List Iv) (v : Iv) (f : Ends), endsP (us ++ [v]) f = (endsP us f).put v.reel (putE (endsP us f v.reel) (ff (endsP us f v.reel) v.lo) v.hi)
  | [], v, f => rfl
  | u :: us, v, f => by
    show endsP (us ++ [v]) _ = _
    rw [endsP_snoc us v]
    rfl
theorem take_snoc {α : Type} {l : List α} {i : Nat} {x : α} (h : l[i]? = some x) : l.take (i + 1) = l.take i ++ [x] := by
  rw [List.take_add_one, h]; rfl
theorem put_len (f : Ends) (v : Iv) (n : Nat) (h : ∀ r, (f r).length ≤ n) (r : Str) : (f.put v.reel (putE (f v.reel) (ff (f v.reel) v.lo) v.hi) r).length ≤ n + 1 := by
  unfold Ends.put
  split
  · have h1 := h v.reel
    rw [putE_len]
    split <;> omega
  · have := h r
    omega
theorem ends_len : ∀ (us : List Iv) (f : Ends) (n : Nat), (∀ r, (f r).length ≤ n) → ∀ r, (endsP us f r).length ≤ n + us.length
  | [], f, n, h, r => h r
  | v :: us, f, n, h, r => by
    have := ends_len us _ (n + 1) (put_len f v n h) r
    rw [List.length_cons]
    show (endsP us _ r).length ≤ _
    omega
theorem run_at {vs : List Iv} {i : Nat} {v : Iv} (f : Ends) (h : vs[i]? = some v) : (runP vs f)[i]? = some (v, ff (endsP (vs.take i) f v.reel) v.lo) := by
  obtain ⟨hi, he⟩ := List.getElem?_eq_some_iff.mp h
  have e : vs = vs.take i ++ v :: vs.drop (i + 1) := by
    rw [← he, List.getElem_cons_drop hi, List.take_append_drop]
  have hl : (runP (vs.take i) f).length = i := by
    have := congrArg List.length (runP_fst (vs.take i) f)
    rw [List.length_map, List.length_take] at this
    omega
  conv => lhs; rw [e, runP_app]
  rw [List.getElem?_append_right (by omega), hl, Nat.sub_self]
  rfl
end KS

set_option linter.all false
set_option maxRecDepth 100000
/-! Cuttings: the greedy one has no more strips that want a frame than any other. Strips are lists of frames, the last one first; cuttings are lists of strips, the last one first. -/
namespace KS
open PySem
def goesL : List Int → Int → Prop
  | [], _ => False
  | [a], n => (n - a).natAbs = 1
  | a :: b :: _, n => n - a = a - b
instance : ∀ (l : List Int) (n : Int), Decidable (goesL l n)
  | [], _ => inferInstanceAs (Decidable False)
  | [a], n => inferInstanceAs (Decidable ((n - a).natAbs = 1))
  | a :: b :: _, n => inferInstanceAs (Decidable (n - a = a - b))
def stepG (R : List (List Int)) (m : Int × Int) : List (List Int) := match R with
  | [] => [[m.1]]
  | l :: r => if m.2 ≤ 0 ∧ goesL l m.1 then (m.1 :: l) :: r else [m.1] :: l :: r
def CutStep (R : List (List Int)) (m : Int × Int) (R' : List (List Int)) : Prop := R' = [m.1] :: R ∨ ∃ l r, R = l :: r ∧ m.2 ≤ 0 ∧ goesL l m.1 ∧ R' = (m.1 :: l) :: r
def b2 (b : Bool) : Nat := if b then 1 else 0
def cntH (hit : Int → Bool) (R : List (List Int)) : Nat := (R.filter fun l => l.any hit).length
theorem cnt_cons (hit : Int → Bool) (l : List Int) (R : List (List Int)) : cntH hit (l :: R) = b2 (l.any hit) + cntH hit R := by
  unfold cntH b2
  rw [List.filter_cons]
  split
  · rw [List.length_cons]; omega
  · omega
theorem b2_or (a b : Bool) : b2 (a || b) ≤ b2 a + b2 b := by cases a <;> cases b <;> decide
/-- what hits is an interval -/
def Conv (hit : Int → Bool) : Prop := ∀ (u d : Int), (d = 1 ∨ d = -1) → hit u = true → hit (u - d) = false → ∀ k : Nat, 1 ≤ k → hit (u - (k : Int) * d) = false
def dn (u d : Int) : Nat → List Int
  | 0 => []
  | k + 1 => (u - ((k + 1 : Nat) : Int) * d) :: dn u d k
theorem dn_mem {u d v : Int} : ∀ {k : Nat}, v ∈ dn u d k → ∃ j : Nat, 1 ≤ j ∧ v = u - (j : Int) * d
  | 0, h => by cases h
  | k + 1, h => by
    rcases List.mem_cons.mp h with rfl | h
    · exact ⟨k + 1, by omega, rfl⟩
    · exact dn_mem h
def R1 (g : List Int) : Prop := ∀ u w r, g = u :: w :: r → (u - w).natAbs = 1
inductive Jn (hit : Int → Bool) : List (List Int) → List (List Int) → Prop
  | A {o t : List Int} {GR OR : List (List Int)} : o ≠ [] → R1 (o ++ t) → cntH hit GR + b2 (t.any hit) ≤ cntH hit OR → Jn hit ((o ++ t) :: GR) (o :: OR)
  | B {u d w : Int} {k : Nat} {r : List Int} {GR OR : List (List Int)} : 1 ≤ k → d = u - w → (d = 1 ∨ d = -1) → cntH hit GR + b2 ((w :: r).any hit) ≤ cntH hit OR → Jn hit (dn u d k :: (u :: w :: r) :: GR) ((dn u d k ++ [u]) :: OR)
theorem Jn.total {hit : Int → Bool} (C : Conv hit) {GR OR : List (List Int)} (h : Jn hit GR OR) : cntH hit GR ≤ cntH hit OR := by
  cases h with
  | A ho hr hc =>
    rename_i o t GR OR
    rw [cnt_cons, cnt_cons, List.any_append]
    have := b2_or (o.any hit) (t.any hit)
    omega
  | B hk hd hd1 hc =>
    rename_i u d w k r GR OR
    rw [cnt_cons, cnt_cons, cnt_cons, List.any_append]
    have e1 : (u :: w :: r).any hit = (hit u || (w :: r).any hit) := rfl
    have e2 : [u].any hit = hit u := by simp
    rw [e1, e2]
    cases hw : (w :: r).any hit with
    | true =>
      rw [hw] at hc
      cases (dn u d k).any hit <;> cases hit u <;> simp [b2] at hc ⊢ <;> omega
    | false =>
      rw [hw] at hc
      cases hu : hit u with
      | false => cases (dn u d k).any hit <;> simp [b2] at hc ⊢ <;> omega
      | true =>
        have hw' : hit (u - d) = false := by
          have e : u - d = w := by omega
          rw [e]
          simp only [List.any_cons, Bool.or_eq_false_iff] at hw
          exact hw.1
        have hn : (dn u d k).any hit = false := by
          rw [List.any_eq_false]
          intro v hv
          obtain ⟨j, hj, rfl⟩ := dn_mem hv
          rw [C u d hd1 hu hw' j hj]
          decide
        rw [hn]
        simp [b2] at hc ⊢
        omega
theorem sm1 (k : Nat) (d : Int) : ((k + 1 : Nat) : Int) * d = (k : Int) * d + d := by rw [Int.natCast_add, Int.add_mul]; omega
theorem goes_dn {u d n : Int} : ∀ {k : Nat}, 1 ≤ k → goesL (dn u d k ++ [u]) n → n = u - ((k + 1 : Nat) : Int) * d
  | 1, _, h => by
    have h : n - (u - ((0 + 1 : Nat) : Int) * d) = (u - ((0 + 1 : Nat) : Int) * d) - u := h
    have e : ((0 + 1 : Nat) : Int) * d = d := by omega
    rw [e] at h
    have e2 : ((1 + 1 : Nat) : Int) * d = 2 * d := rfl
    rw [e2]
    omega
  | k + 2, _, h => by
    have h : n - (u - ((k + 1 + 1 : Nat) : Int) * d) = (u - ((k + 1 + 1 : Nat) : Int) * d) - (u - ((k + 1 : Nat) : Int) * d) := h
    have e1 : ((k + 1 + 1 : Nat) : Int) * d = ((k + 1 : Nat) : Int) * d + d := by rw [Int.natCast_add, Int.add_mul]; omega
    have e2 : ((k + 2 + 1 : Nat) : Int) * d = ((k + 1 + 1 : Nat) : Int) * d + d := sm1 (k + 1 + 1) d
    rw [e2]
    omega
theorem goes_dn' {u d n : Int} (hd : d = 1 ∨ d = -1) : ∀ {k : Nat}, 1 ≤ k → goesL (dn u d k ++ [u]) n → goesL (dn u d k) n
  | 1, _, h => by
    have := goes_dn (by omega) h
    show (n - (u - ((0 + 1 : Nat) : Int) * d)).natAbs = 1
    rw [this]
    rcases hd with rfl | rfl <;> omega
  | k + 2, _, h => h
theorem R1.ext {g : List Int} {n : Int} (h : R1 g) (hg : goesL g n) : R1 (n :: g) := by
  intro u w r e
  cases g with
  | nil => cases e
  | cons a t =>
    cases e
    cases r with
    | nil => exact hg
    | cons b t =>
      have h1 := h w b t rfl
      have h2 : n - w = w - b := hg
      rw [h2]
      exact h1
theorem Jn.step {hit : Int → Bool} (C : Conv hit) {GR OR OR' : List (List Int)} {m : Int × Int} (h : Jn hit GR OR) (hc : CutStep OR m OR') : Jn hit (stepG GR m) OR' := by
  have tot := h.total C
  have one : ∀ n : Int, R1 [n] := fun n u w r e => by cases e
  cases h with
  | A ho hr hcn =>
    rename_i o t GR OR
    unfold stepG
    dsimp only
    rw [cnt_cons, cnt_cons] at tot
    by_cases hx : m.2 ≤ 0 ∧ goesL (o ++ t) m.1
    · rw [if_pos hx]
      rcases hc with rfl | ⟨l, r, e, h1, h2, rfl⟩
      · exact .A (o := [m.1]) (t := o ++ t) (by simp) (hr.ext hx.2) (by rw [cnt_cons]; omega)
      · cases e
        exact .A (o := m.1 :: o) (t := t) (by simp) (hr.ext hx.2) hcn
    · rw [if_neg hx]
      rcases hc with rfl | ⟨l, r, e, h1, h2, rfl⟩
      · exact .A (o := [m.1]) (t := []) (by simp) (one _) (by rw [cnt_cons, cnt_cons]; show _ + 0 ≤ _; omega)
      · cases e
        cases o with
        | nil => exact absurd rfl ho
        | cons u o =>
          cases o with
          | cons w o => exact absurd ⟨h1, h2⟩ hx
          | nil =>
            cases t with
            | nil => exact absurd ⟨h1, h2⟩ hx
            | cons w t =>
              have hd := hr u w t rfl
              have h2' : (m.1 - u).natAbs = 1 := h2
              have hne : ¬ (m.1 - u = u - w) := fun z => hx ⟨h1, z⟩
              have e1 : m.1 = u - ((0 + 1 : Nat) : Int) * (u - w) := by
                have : ((0 + 1 : Nat) : Int) * (u - w) = u - w := by omega
                rw [this]
                omega
              have e2 : [m.1] = dn u (u - w) 1 := by
                show _ = [_]
                rw [← e1]
              have e3 : [m.1, u] = dn u (u - w) 1 ++ [u] := by rw [← e2]; rfl
              rw [e2, e3]
              exact .B (by omega) rfl (by omega) hcn
  | B hk hd hd1 hcn =>
    rename_i u d w k r GR OR
    unfold stepG
    dsimp only
    rw [cnt_cons, cnt_cons (R := OR)] at tot
    by_cases hx : m.2 ≤ 0 ∧ goesL (dn u d k) m.1
    · rw [if_pos hx]
      rcases hc with rfl | ⟨l, r', e, h1, h2, rfl⟩
      · refine .A (o := [m.1]) (t := dn u d k) (by simp) ?_ (by rw [cnt_cons (R := OR)]; omega)
        refine R1.ext ?_ hx.2
        intro a b q e
        cases k with
        | zero => cases e
        | succ k =>
          cases k with
          | zero => cases e
          | succ k =>
            cases e
            have e1 : ((k + 1 + 1 : Nat) : Int) * d = ((k + 1 : Nat) : Int) * d + d := by rw [Int.natCast_add, Int.add_mul]; omega
            omega
      · cases e
        have e1 := goes_dn hk h2
        have e2 : m.1 :: dn u d k = dn u d (k + 1) := by rw [e1]; rfl
        have e3 : m.1 :: (dn u d k ++ [u]) = dn u d (k + 1) ++ [u] := by rw [e1]; rfl
        rw [e2, e3]
        exact .B (by omega) hd hd1 hcn
    · rw [if_neg hx]
      rcases hc with rfl | ⟨l, r', e, h1, h2, rfl⟩
      · exact .A (o := [m.1]) (t := []) (by simp) (one _) (by rw [cnt_cons, cnt_cons (R := OR)]; show _ + 0 ≤ _; omega)
      · cases e
        exact absurd ⟨h1, goes_dn' hd1 hk h2⟩ hx
theorem Jn.first (hit : Int → Bool) (n : Int) : Jn hit [[n]] [[n]] := .A (o := [n]) (t := []) (by simp) (fun u w r e => by cases e) (by simp [cntH, b2])
end KS

set_option linter.all false
set_option maxRecDepth 100000
/-! Cuttings of a film of one reel, as the law makes them; the greedy strips as lists of frames. -/
namespace KS
open PySem
inductive CutR : List (Int × Int) → List (List Int) → Prop
  | one (m : Int × Int) : CutR [m] [[m.1]]
  | step {ms R m R'} : CutR ms R → CutStep R m R' → CutR (ms ++ [m]) R'
theorem CutR.jn {hit : Int → Bool} (C : Conv hit) {ms : List (Int × Int)} {R : List (List Int)} (h : CutR ms R) : Jn hit (ms.foldl stepG []) R := by
  induction h with
  | one m => exact Jn.first hit m.1
  | step h hs ih =>
    rw [List.foldl_append]
    exact ih.step C hs
/-- strips in their order, frames in their order -/
def turnL (S : List (List Int)) : List (List Int) := (S.map List.reverse).reverse
def UT (l : List Int) : Prop := ∃ d : Int, ∀ (i : Nat) a b, l[i]? = some a → l[i + 1]? = some b → b - a = d
theorem UT.one (n : Int) : UT [n] := ⟨0, fun i a b h1 h2 => by simp at h2⟩
theorem UT.snoc {l : List Int} {L : List Int} {z n : Int} (e : l = L ++ [z]) (h : UT l) (h2 : ∀ h : 1 < l.length, n - z = l[1] - l[0]) : UT (l ++ [n]) := by
  obtain ⟨d, hd⟩ := h
  have hl : l.length = L.length + 1 := by rw [e]; simp
  have hz : l[L.length]? = some z := by rw [e]; simp
  by_cases h1 : 1 < l.length
  · have e1 : l[1] - l[0] = d := hd 0 l[0] l[1] (List.getElem?_eq_getElem _) (List.getElem?_eq_getElem _)
    refine ⟨d, fun i a b ha hb => ?_⟩
    rcases Nat.lt_or_ge (i + 1) l.length with hi | hi
    · rw [List.getElem?_append_left (by omega)] at ha
      rw [List.getElem?_append_left hi] at hb
      exact hd i a b ha hb
    · have hi2 : i + 1 < l.length + 1 := by
        have := (List.getElem?_eq_some_iff.mp hb).1
        rw [List.length_append] at this
        exact this
      have ei : i = L.length := by omega
      subst ei
      rw [List.getElem?_append_left (by omega), hz] at ha
      rw [List.getElem?_append_right (by omega)] at hb
      have e3 : L.length + 1 - l.length = 0 := by omega
      rw [e3] at hb
      cases ha
      cases hb
      rw [← e1]
      exact h2 h1
  · have e0 : L = [] := List.length_eq_zero_iff.mp (by omega)
    subst e0
    subst e
    refine ⟨n - z, fun i a b ha hb => ?_⟩
    cases i with
    | zero => cases ha; cases hb; rfl
    | succ i => simp at hb
theorem goes_of {l L : List Int} {z n : Int} (e : l = L ++ [z]) (h : UT l) (h1 : (n - z).natAbs = 1) (h2 : ∀ h : 1 < l.length, n - z = l[1] - l[0]) : goesL l.reverse n := by
  obtain ⟨d, hd⟩ := h
  have hl : l.length = L.length + 1 := by rw [e]; simp
  have er : l.reverse = z :: L.reverse := by rw [e, List.reverse_append]; rfl
  rw [er]
  cases hL : L.reverse with
  | nil => exact h1
  | cons y r =>
    have eL : L = r.reverse ++ [y] := by rw [← List.reverse_reverse L, hL, List.reverse_cons]
    have h3 : 1 < l.length := by rw [hl, eL, List.length_append]; simp
    have e1 : l[1] - l[0] = d := hd 0 l[0] l[1] (List.getElem?_eq_getElem _) (List.getElem?_eq_getElem _)
    have e2 : z - y = d := by
      refine hd r.length y z ?_ ?_
      · rw [e, eL, List.append_assoc, List.getElem?_append_right (by simp)]; simp
      · rw [e, eL, List.getElem?_append_right (by simp)]; simp
    show n - z = z - y
    rw [e2, ← e1]
    exact h2 h3
theorem cut_new (S : List (List Int)) (m : Int × Int) : CutStep (turnL S) m (turnL (S ++ [[m.1]])) := by
  left
  unfold turnL
  rw [List.map_append, List.reverse_append]
  rfl
theorem cut_ext (S : List (List Int)) (l : List Int) (m : Int × Int) (hf : m.2 ≤ 0) (hg : goesL l.reverse m.1) : CutStep (turnL (S ++ [l])) m (turnL (S ++ [l ++ [m.1]])) := by
  right
  refine ⟨l.reverse, turnL S, ?_, hf, hg, ?_⟩
  · unfold turnL
    rw [List.map_append, List.reverse_append]
    rfl
  · unfold turnL
    rw [List.map_append, List.reverse_append]
    show [(l ++ [m.1]).reverse].reverse ++ _ = _
    rw [List.reverse_append]
    rfl
/-! the greedy strips -/
theorem goes_nums (s : Clip) (n : Int) : goes s n ↔ goesL s.nums.reverse n := by
  obtain ⟨l, hl⟩ := nums_end s
  unfold goes
  by_cases h : s.a = s.b
  · rw [if_pos h]
    have hc := cnt_one h
    have h0 := nums_get0 s
    have hlen := s.nums_len
    rw [hl] at h0 hlen ⊢
    rw [hc, List.length_append] at hlen
    have : l = [] := List.length_eq_zero_iff.mp (by simpa using hlen)
    subst this
    exact Iff.rfl
  · rw [if_neg h]
    have hc := cnt_two h
    have hlen := s.nums_len
    have h2 : s.nums[s.cnt - 2]? = some (s.b - s.way) := by
      rw [nums_get (by omega)]
      have e := nums_last s
      have e2 : s.cnt - 1 = (s.cnt - 2) + 1 := by omega
      rw [e2, sm1] at e
      congr 1
      omega
    rw [hl, List.reverse_append]
    have hlen2 : l.length = s.cnt - 1 := by
      rw [hl, List.length_append] at hlen
      simp at hlen
      omega
    cases hr : l.reverse with
    | nil =>
      have := congrArg List.length hr
      rw [List.length_reverse, List.length_nil] at this
      omega
    | cons y r =>
      have el : l = r.reverse ++ [y] := by rw [← List.reverse_reverse l, hr, List.reverse_cons]
      have hy : s.nums[s.cnt - 2]? = some y := by
        rw [hl, List.getElem?_append_left (by omega), el]
        have : r.reverse.length = s.cnt - 2 := by
          rw [el, List.length_append] at hlen2
          simp at hlen2 ⊢
          omega
        rw [← this]
        simp
      rw [hy] at h2
      have h2 : y = s.b - s.way := Option.some.inj h2
      show _ ↔ n - s.b = s.b - y
      omega
theorem greedy_lists (r : Str) : ∀ (ms : List (Int × Int)) (cs : List Clip), (∀ c ∈ cs, c.reel = r) → (ms.foldl stepG (cs.map fun c => c.nums.reverse)) = ((ms.map fun m => (⟨r, m.1, m.2⟩ : Mo)).foldl stepR cs).map fun c => c.nums.reverse
  | [], _, _ => rfl
  | m :: ms, cs, h => by
    have one : (⟨r, m.1, m.1, m.2⟩ : Clip).nums = [m.1] := by
      rw [Clip.nums_eq]
      have : (⟨r, m.1, m.1, m.2⟩ : Clip).cnt = 1 := cnt_one rfl
      rw [this]
      rfl
    have key : stepG (cs.map fun c => c.nums.reverse) m = (stepR cs ⟨r, m.1, m.2⟩).map fun c => c.nums.reverse := by
      cases cs with
      | nil =>
        show [[m.1]] = [(⟨r, m.1, m.1, m.2⟩ : Clip).nums.reverse]
        rw [one]; rfl
      | cons s t =>
        have hs := h s (List.mem_cons_self ..)
        rw [stepR_cons]
        show (if m.2 ≤ 0 ∧ goesL s.nums.reverse m.1 then _ else _) = _
        by_cases hx : m.2 ≤ 0 ∧ goesL s.nums.reverse m.1
        · have hg := (goes_nums s m.1).mpr hx.2
          rw [if_pos hx, if_pos (show m.2 ≤ 0 ∧ can s ⟨r, m.1, m.2⟩ from ⟨hx.1, hs, hg⟩), List.map_cons, nums_ext hg, List.reverse_append]
          rfl
        · rw [if_neg hx, if_neg (show ¬ (m.2 ≤ 0 ∧ can s ⟨r, m.1, m.2⟩) from fun z => hx ⟨z.1, (goes_nums s m.1).mp z.2.2⟩), List.map_cons, one]
          rfl
    show ms.foldl stepG (stepG _ m) = _
    rw [key, greedy_lists r ms (stepR cs ⟨r, m.1, m.2⟩) ?_]
    · rfl
    · intro c hc
      cases cs with
      | nil =>
        have hc : c ∈ [(⟨r, m.1, m.1, m.2⟩ : Clip)] := hc
        rw [List.mem_singleton.mp hc]
      | cons s t =>
        rw [stepR_cons] at hc
        split at hc
        · rcases List.mem_cons.mp hc with rfl | hc
          · exact h s (List.mem_cons_self ..)
          · exact h c (List.mem_cons_of_mem _ hc)
        · rcases List.mem_cons.mp hc with rfl | hc
          · rfl
          · exact h c hc
end KS

set_option linter.all false
set_option maxRecDepth 100000
/-! What the greedy strips need, any cutting needs. -/
namespace KS
open PySem
def hitX (x s : Int) (v : Int) : Bool := decide (v ≤ x) && decide (x ≤ v + s)
theorem conv_hit (x s : Int) : Conv (hitX x s) := by
  intro u d hd h1 h2 k hk
  unfold hitX at *
  rw [Bool.and_eq_true, decide_eq_true_eq, decide_eq_true_eq] at h1
  rw [Bool.and_eq_false_iff, decide_eq_false_iff_not, decide_eq_false_iff_not] at h2 ⊢
  rcases hd with rfl | rfl <;> omega
theorem conv_true : Conv (fun _ => true) := fun _ _ _ _ h => by cases h
theorem len_match {α : Type} (p : α → Bool) : ∀ l : List α, ((List.range l.length).filter fun k => match l[k]? with | some v => p v | none => false).length = (l.filter p).length
  | [] => rfl
  | a :: l => by
    rw [List.length_cons, List.range_succ_eq_map, List.filter_cons, List.filter_map, List.filter_cons]
    have ih := len_match p l
    have e : ((fun k => match (a :: l)[k]? with | some v => p v | none => false) ∘ Nat.succ) = fun k => match l[k]? with | some v => p v | none => false := by
      funext k
      simp
    rw [e]
    have e0 : (match (a :: l)[0]? with | some v => p v | none => false) = p a := rfl
    rw [e0]
    split
    · rw [List.length_cons, List.length_cons, List.length_map, ih]
    · rw [List.length_map, ih]
theorem mem_nums {c : Clip} {v : Int} (h1 : (if c.b < c.a then c.b else c.a) ≤ v) (h2 : v ≤ if c.a < c.b then c.b else c.a) : v ∈ c.nums := by
  unfold Clip.nums
  refine List.mem_map.mpr ?_
  by_cases h : c.b < c.a
  · rw [if_pos h] at h1
    rw [if_neg (by omega)] at h2
    refine ⟨(c.a - v).toNat, List.mem_range.mpr (by unfold Clip.cnt; omega), ?_⟩
    have e : c.way = -1 := if_pos h
    rw [e]
    omega
  · rw [if_neg h] at h1
    refine ⟨(v - c.a).toNat, List.mem_range.mpr (by unfold Clip.cnt; split at h2 <;> omega), ?_⟩
    have e : c.way = 1 := if_neg h
    rw [e]
    omega
theorem want_any {c : Clip} {r : Str} {x s : Int} (hs : 0 ≤ s) (h : wantB r x (ivOf s c) = true) : c.nums.reverse.any (hitX x s) = true := by
  unfold wantB ivOf at h
  simp only [Bool.and_eq_true, decide_eq_true_eq] at h
  obtain ⟨_, h1, h2⟩ := h
  rw [List.any_reverse]
  rw [List.any_eq_true]
  by_cases hx : x ≤ if c.a < c.b then c.b else c.a
  · refine ⟨x, mem_nums h1 hx, ?_⟩
    unfold hitX
    rw [Bool.and_eq_true, decide_eq_true_eq, decide_eq_true_eq]
    omega
  · refine ⟨_, mem_nums (c := c) (v := if c.a < c.b then c.b else c.a) (by split <;> split <;> omega) (Int.le_refl _), ?_⟩
    unfold hitX
    rw [Bool.and_eq_true, decide_eq_true_eq, decide_eq_true_eq]
    omega
theorem want_le (r : Str) (x s : Int) (hs : 0 ≤ s) (cs : List Clip) : (wanting (cs.reverse.map (ivOf s)) r x).length ≤ cntH (hitX x s) (cs.map fun c => c.nums.reverse) := by
  have e : (wanting (cs.reverse.map (ivOf s)) r x).length = ((cs.reverse.map (ivOf s)).filter (wantB r x)).length := by
    rw [← len_match (wantB r x)]
    unfold wanting
    congr 1
    refine List.filter_congr fun k _ => ?_
    cases (cs.reverse.map (ivOf s))[k]? <;> rfl
  rw [e, List.filter_map, List.length_map, List.filter_reverse, List.length_reverse]
  clear e
  unfold cntH
  rw [List.filter_map, List.length_map]
  induction cs with
  | nil => exact Nat.le_refl _
  | cons c cs ih =>
    rw [List.filter_cons, List.filter_cons]
    by_cases h : (wantB r x ∘ ivOf s) c = true
    · have h2 : ((fun l => l.any (hitX x s)) ∘ fun c : Clip => c.nums.reverse) c = true := want_any hs h
      rw [if_pos h, if_pos h2, List.length_cons, List.length_cons]
      omega
    · rw [if_neg h]
      split
      · rw [List.length_cons]; omega
      · exact ih
theorem cnt_turn (hit : Int → Bool) (S : List (List Int)) : cntH hit (turnL S) = (S.filter fun l => l.any hit).length := by
  unfold cntH turnL
  rw [List.filter_reverse, List.length_reverse, List.filter_map, List.length_map]
  congr 2
  funext l
  show l.reverse.any hit = l.any hit
  rw [List.any_reverse]
theorem greedy_few {r : Str} {ms : List (Int × Int)} {R : List (List Int)} (h : CutR ms R) (hit : Int → Bool) (C : Conv hit) : cntH hit ((stripsR (ms.map fun m => (⟨r, m.1, m.2⟩ : Mo))).map fun c => c.nums.reverse) ≤ cntH hit R := by
  have := greedy_lists r ms [] (fun c hc => nomatch hc)
  rw [List.map_nil] at this
  unfold stripsR
  rw [← this]
  exact (h.jn C).total C
theorem greedy_len {r : Str} {ms : List (Int × Int)} {R : List (List Int)} (h : CutR ms R) : (stripsR (ms.map fun m => (⟨r, m.1, m.2⟩ : Mo))).length ≤ R.length := by
  have h1 := greedy_few (r := r) h (fun _ => true) conv_true
  have h2 : cntH (fun _ => true) R ≤ R.length := List.length_filter_le _ _
  have h3 : cntH (fun _ => true) ((stripsR (ms.map fun m => (⟨r, m.1, m.2⟩ : Mo))).map fun c => c.nums.reverse) = (stripsR (ms.map fun m => (⟨r, m.1, m.2⟩ : Mo))).length := by
    unfold cntH
    rw [List.filter_eq_self.mpr ?_, List.length_map]
    intro l hl
    obtain ⟨c, _, rfl⟩ := List.mem_map.mp hl
    rw [List.any_reverse, Clip.nums_eq]
    rfl
  omega
theorem ab_fold (P : Clip → Prop) (h1 : ∀ m : Mo, ∀ s : Clip, P s → P ⟨m.reel, m.n, m.n, m.f⟩ → P ⟨s.reel, s.a, m.n, s.f⟩) : ∀ (ms : List Mo) (r : List Clip), (∀ s ∈ r, P s) → (∀ m ∈ ms, P ⟨m.reel, m.n, m.n, m.f⟩) → ∀ s ∈ ms.foldl stepR r, P s
  | [], r, hr, _ => hr
  | m :: ms, r, hr, hm => by
    refine ab_fold P h1 ms (stepR r m) (fun s hs => ?_) fun x hx => hm x (List.mem_cons_of_mem _ hx)
    have hm0 := hm m (List.mem_cons_self ..)
    cases r with
    | nil =>
      have hs : s ∈ [(⟨m.reel, m.n, m.n, m.f⟩ : Clip)] := hs
      rw [List.mem_singleton.mp hs]
      exact hm0
    | cons t r =>
      rw [stepR_cons] at hs
      split at hs
      · rcases List.mem_cons.mp hs with rfl | hs
        · exact h1 m t (hr t (List.mem_cons_self ..)) hm0
        · exact hr s (List.mem_cons_of_mem _ hs)
      · rcases List.mem_cons.mp hs with rfl | hs
        · exact hm0
        · exact hr s hs
end KS

set_option linter.all false
set_option maxRecDepth 100000
set_option maxHeartbeats 1000000
namespace K26
open PySem L2 G KS
def top (i : Nat) : Stmt := PySem.Challenge.pw_leadersplice_k26_whole_all_cuttings.main.body.getD i (.Pass ⟨0, 0, 0, 0⟩)
abbrev s_way_of : Stmt := top 1
abbrev s_numbers_of : Stmt := top 2
abbrev s_strips_of : Stmt := top 4
abbrev s_take_frame : Stmt := top 5
abbrev s_can_have : Stmt := top 6
abbrev s_least : Stmt := top 8
abbrev s_greatest : Stmt := top 9
abbrev s_prints_for : Stmt := top 10
abbrev s_first_free : Stmt := top 11
abbrev s_put_end : Stmt := top 12
abbrev s_needs : Stmt := top 13
abbrev s__law_cell : Stmt := top 15
abbrev s__law_numbers : Stmt := top 16
abbrev s__law_shots : Stmt := top 17
abbrev s__law_cuttings : Stmt := top 18
abbrev s__law_most : Stmt := top 19
abbrev s_law : Stmt := top 20

section
variable {P : Program} {w : World} {K : PySem.W.Frag} {mg : Str → Option Value} {base : Heap}
/-! ### _law_cell -/
def cellOf (ns : List Int) (k : Nat) : Int := ns.getD k 0
def spCell (K : PySem.W.Frag) : Sp := fun vs H Q _ => ∃ (a : Addr) (ns : List Int) (k : Nat), vs = [.ref a, .int (k : Int)] ∧ SqL K H a (ns.map V.int) ∧ ∀ H', Same H H' → Q (.int (cellOf ns k)) H'
/-! ### _law_numbers -/
def spNum : Sp := fun vs H Q _ => ∃ (c : Int) (n : Nat), vs = [.int c, .int (n : Int)] ∧ n ≤ 1000 ∧ ∀ (l : Addr) (ns : List Int) (H' : Hp), Same H H' → ns.length = n → H l = none → H' l = some (.lst (ns.map V.int)) → Q (.ref l) H'
theorem scNum : FnScope ["_law_cell_here", "_law_many", "_law_found", "_law_number", "_law_digits", "_law_k"] ["_law_cell_here", "_law_many"] (defScope s__law_numbers) := ⟨rfl, rfl, rfl, by decide +kernel, rfl, by decide +kernel, by decide +kernel⟩
theorem ok_num {f : Addr} {fd : FuncData} (F : Fun K "_law_numbers" "_law_numbers" s__law_numbers f fd) (n_abs : mg "abs" = none) (n_range : mg "range" = none) (n_int : mg "int" = none) : FnOk P w K mg base CX0 1 f fd ["_law_cell_here", "_law_many"] spNum := by
  refine F.ok scNum (fun vs H Q E h => ?_) (fun cdv A outer s H vs Q E hr h => ?_)
  · obtain ⟨c, n, rfl, _⟩ := h
    rfl
  obtain ⟨c, n, rfl, hn, q⟩ := h
  refine useQ (ss_cons (s_set (i := 2) scNum.nd (e_lst a_nil))
    (ss_cons (s_set (i := 3) scNum.nd (e_op op_mod (e_op op_mul (e_op op_add (e_op op_mod (e_v 0) e_int) e_int) e_int) e_int))
    (ss_cons (s_set (i := 4) scNum.nd e_int)
    (ss_cons (s_cut (s_if (t_w (w_or (t_cmp op_lt (e_v 0) e_int) (w_or1 (t_cmp op_ge (e_v 0) (e_op op_pow e_int e_int)))))
      (ss_one (s_set (i := 4) scNum.nd (e_b call_abs n_abs (by decide +kernel) (a_cons (e_v 0) a_nil))))
      ss_nil))
    (ss_cons (s_for PassesOwn.never rfl (i_rng1 n_range (e_v 1)) (g_name (i := 5) scNum.nd)
      (ss_cons (s_set (i := 3) scNum.nd (e_op op_mod (e_op op_add (e_op op_add (e_op op_mul (e_v 3) (e_op op_add (e_op op_mod (e_v 3) e_int) e_int)) (e_op op_mul e_int (e_v 5))) e_int) e_int))
      (ss_cons (s_expr (e_append (e_v 2) (e_ix ix_list (e_lst (a_cons (e_v 3) (a_cons (e_op op_mod (e_v 4) e_int) a_nil))) (e_t call_int1 n_int PyProof.Rows.boot_int (a_cons (e_cmp op_gt (e_v 4) e_int) a_nil)))))
      (ss_one (s_set (i := 4) scNum.nd (e_op op_fdiv (e_v 4) e_int))))))
    (ss_one (s_ret (e_v 2)))))))) ?_
  have zl : sizeLine = 16777216 := sizeLine_eq
  refine ⟨(by show 0 ≤ sizeLine; decide), fun p hp => ?_⟩
  refine ⟨_, rfl, _, _, rfl, rfl, (by show (0 : Int) < 1999999973; decide), _, _, rfl, rfl, _, _, rfl, rfl, .inr ⟨by decide, by decide⟩, _, _, rfl, rfl, (by show (0 : Int) < 1999999973; decide), ?_⟩
  refine ⟨fun σ' H' => ∃ a d : Int, σ' = [some (.int c), some (.int (n : Int)), some (.ref p), some (.int a), some (.int d), none] ∧ 0 ≤ a ∧ a < 1999999973 ∧ H' = upd H p (.lst []), ?_, ?_⟩
  · have b1 : 0 ≤ (c % 1999999973 + 31) * 765432101 % 1999999973 := by omega
    have b2 : (c % 1999999973 + 31) * 765432101 % 1999999973 < 1999999973 := by omega
    refine ⟨_, rfl, _, _, rfl, rfl, _, rfl, ?_⟩
    refine ite2 (fun _ => ?_) (fun _ => ?_)
    · exact iteT ⟨_, rfl, _, rfl, _, _, rfl, b1, b2, rfl⟩
    · refine ⟨_, rfl, _, _, rfl, rfl, ⟨by decide, by decide, by decide⟩, _, _, rfl, rfl, _, rfl, ?_⟩
      refine ite2 (fun _ => ?_) (fun _ => ?_)
      · exact ⟨_, rfl, _, rfl, _, _, rfl, b1, b2, rfl⟩
      · exact ⟨_, _, rfl, b1, b2, rfl⟩
  rintro σ H1 ⟨a, d, rfl, h1, h2, rfl⟩
  refine ⟨_, rfl, (n : Int), rfl, by omega, by omega, for_range (lo := 0) (n := n) (fun i σ H' => ∃ (a d : Int) (ns : List Int) (o : Option V), σ = [some (.int c), some (.int (n : Int)), some (.ref p), some (.int a), some (.int d), o] ∧ 0 ≤ a ∧ a < 1999999973 ∧ ns.length = i ∧ H' p = some (.lst (ns.map V.int)) ∧ Same H H')
    ⟨a, d, [], none, rfl, h1, h2, rfl, upd_same, Same.new hp _⟩ ?_ ?_⟩
  · rintro i σ H' hi ⟨a, d, ns, o, rfl, h1, h2, hl, hpp, hS⟩
    refine ⟨_, rfl, _, rfl, _, _, rfl, rfl, (by show (0 : Int) < 65521; decide), _, _, rfl, rfl, _, _, rfl, rfl, .inl ⟨by omega, by omega⟩, _, rfl, _, _, rfl, rfl, .inl ⟨by decide, by decide⟩, _, _, rfl, rfl, _, _, rfl, rfl, _, _, rfl, rfl, (by show (0 : Int) < 1999999973; decide), ?_⟩
    have z1 : 0 ≤ (a * (a % 65521 + 40487) + 7 * (0 + (i : Int)) + 5) % 1999999973 := Int.emod_nonneg _ (by decide)
    have z2 : (a * (a % 65521 + 40487) + 7 * (0 + (i : Int)) + 5) % 1999999973 < 1999999973 := Int.emod_lt_of_pos _ (by decide)
    obtain ⟨v, hv, hm⟩ := at_list (xs := [V.int ((a * (a % 65521 + 40487) + 7 * (0 + (i : Int)) + 5) % 1999999973), .int (d % 1000000)]) (i := if decide (0 < d) = true then 1 else 0) (by split <;> decide) (by split <;> (show _ < (2 : Int); decide))
    obtain ⟨u, rfl⟩ : ∃ u, v = .int u := by
      simp only [List.mem_cons, List.not_mem_nil, or_false] at hm
      rcases hm with rfl | rfl
      · exact ⟨_, rfl⟩
      · exact ⟨_, rfl⟩
    refine ⟨_, rfl, .inl ⟨rfl, _, SqL.of hpp⟩, _, rfl, _, rfl, _, _, rfl, rfl, (by show (0 : Int) < 1000000; decide), (by show 2 ≤ sizeLine; decide), fun p2 hp2 => ⟨_, rfl, _, _, rfl, rfl, .inr ⟨_, rfl, p2, _, _, .int u, rfl, rfl, SqL.of upd_same, hv, p, _, _, rfl, rfl, Same.new hp2 _ _ _ hpp, (by rw [List.length_map]; omega), ?_⟩⟩⟩
    refine ⟨_, rfl, _, _, rfl, rfl, ⟨by decide, by decide⟩, (a * (a % 65521 + 40487) + 7 * (0 + (i : Int)) + 5) % 1999999973, _, ns ++ [u], _, rfl, z1, z2, (by rw [List.length_append, hl]; rfl), ?_, ?_⟩
    · rw [upd_same, List.map_append]
      rfl
    · intro b o hb
      rw [upd_ne (ne_of_none hb hp)]
      exact Same.new hp2 _ _ _ (hS _ _ hb)
  · rintro σ H' ⟨a, d, ns, o, rfl, h1, h2, hl, hpp, hS⟩
    exact ⟨_, rfl, q p ns H' hS hl hp hpp⟩
/-! ### the frames of a clip -/
def spWay : Sp := fun vs H Q _ => ∃ (p : Addr) (c : Clip), vs = [.ref p] ∧ H p = some (.tup c.vs) ∧ Q (.int c.way) H
theorem scWay : FnScope ["clip"] ["clip"] (defScope s_way_of) := ⟨rfl, rfl, rfl, by decide +kernel, rfl, by decide +kernel, by decide +kernel⟩
theorem ok_way {f : Addr} {fd : FuncData} (F : Fun K "way_of" "way_of" s_way_of f fd) : FnOk P w K mg base CX0 1 f fd ["clip"] spWay := by
  refine F.ok scWay (fun vs H Q E h => ?_) (fun cdv A outer s H vs Q E hr h => ?_)
  · obtain ⟨p, c, rfl, _⟩ := h
    rfl
  obtain ⟨p, c, rfl, hp, q⟩ := h
  refine useQ (ss_one (s_ret (e_if (t_cmp op_lt (e_ix ix_tup (e_v 0) e_int) (e_ix ix_tup (e_v 0) e_int)) (e_un un_neg e_int) e_int))) ?_
  refine ⟨_, rfl, p, _, _, .int c.b, rfl, rfl, SqT.of hp, atI_nat (j := 2) rfl, _, rfl, p, _, _, .int c.a, rfl, rfl, SqT.of hp, atI_nat (j := 1) rfl, _, _, rfl, rfl, _, rfl, ?_⟩
  have q : Q (.int (if c.b < c.a then -1 else 1)) H := q
  refine ite2 (fun z => ?_) (fun z => ?_)
  · rw [if_pos (of_decide_eq_true z)] at q
    exact ⟨_, rfl, q⟩
  · rw [if_neg fun y => z (decide_eq_true y)] at q
    exact q
def spFr : Sp := fun vs H Q _ => ∃ (p : Addr) (c : Clip), vs = [.ref p] ∧ H p = some (.tup c.vs) ∧ Sm c ∧ ∀ l, H l = none → Q (.ref l) (upd H l (.lst (c.nums.map V.int)))
theorem scNos : FnScope ["clip", "way"] ["clip"] (defScope s_numbers_of) := ⟨rfl, rfl, rfl, by decide +kernel, rfl, by decide +kernel, by decide +kernel⟩
theorem ok_nos {f : Addr} {fd : FuncData} (F : Fun K "numbers_of" "numbers_of" s_numbers_of f fd) (dWay : Def P w K mg base CX0 "way_of" 1 ["clip"] spWay) (n_list : mg "list" = none) (n_range : mg "range" = none) : FnOk P w K mg base CX0 2 f fd ["clip"] spFr := by
  refine F.ok scNos (fun vs H Q E h => ?_) (fun cdv A outer s H vs Q E hr h => ?_)
  · obtain ⟨p, c, rfl, _⟩ := h
    rfl
  obtain ⟨p, c, rfl, hp, sm, q⟩ := h
  refine useQ (ss_cons (s_set (i := 1) scNos.nd (e_call dWay hr pass0 (a_cons (e_v 0) a_nil)))
    (ss_one (s_ret (e_lrng3 rfl n_list n_range (e_ix ix_tup (e_v 0) e_int) (e_op op_add (e_ix ix_tup (e_v 0) e_int) (e_v 1)) (e_v 1))))) ?_
  refine ⟨_, rfl, p, c, rfl, hp, ?_⟩
  obtain ⟨a0, a1, b0, b1⟩ := sm
  have cw := c.way_cnt
  have cn : c.cnt ≤ 1000001 := Sm.cnt ⟨a0, a1, b0, b1⟩
  refine ⟨_, rfl, p, _, _, .int c.a, rfl, rfl, SqT.of hp, atI_nat (j := 1) rfl, _, rfl, p, _, _, .int c.b, rfl, rfl, SqT.of hp, atI_nat (j := 2) rfl, _, rfl, _, _, rfl, rfl, _, rfl, _, _, _, rfl, ⟨by omega, by omega⟩, ⟨by omega, by omega⟩, c.cnt, cw, by omega, fun l hl => ?_⟩
  rw [← c.numsV]
  exact q l hl
end
end K26

set_option linter.all false
set_option maxRecDepth 100000
set_option maxHeartbeats 1000000
namespace K26
open PySem L2 G KS
section
variable {P : Program} {w : World} {K : PySem.W.Frag} {mg : Str → Option Value} {base : Heap}
def spCan : Sp := fun vs H Q _ => ∃ (p : Addr) (c : Clip) (r : Str) (n : Int), vs = [.ref p, .str r, .int n] ∧ H p = some (.tup c.vs) ∧ Q (.bl (decide (can c ⟨r, n, 0⟩))) H
theorem scCan : FnScope ["strip", "reel", "number"] ["strip", "reel", "number"] (defScope s_can_have) := ⟨rfl, rfl, rfl, by decide +kernel, rfl, by decide +kernel, by decide +kernel⟩
theorem ok_can {f : Addr} {fd : FuncData} (F : Fun K "can_have" "can_have" s_can_have f fd) (dWay : Def P w K mg base CX0 "way_of" 1 ["clip"] spWay) (n_abs : mg "abs" = none) : FnOk P w K mg base CX0 2 f fd ["strip", "reel", "number"] spCan := by
  refine F.ok scCan (fun vs H Q E h => ?_) (fun cdv A outer s H vs Q E hr h => ?_)
  · obtain ⟨p, c, r, n, rfl, _⟩ := h
    rfl
  obtain ⟨p, c, r, n, rfl, hp, q⟩ := h
  refine useQ (ss_cons (s_if (t_cmp op_ne (e_ix ix_tup (e_v 0) e_int) (e_v 1))
      (ss_one (s_ret e_bl))
      ss_nil)
    (ss_cons (s_if (t_cmp op_eq (e_ix ix_tup (e_v 0) e_int) (e_ix ix_tup (e_v 0) e_int))
      (ss_one (s_ret (e_cmp op_eq (e_b call_abs n_abs (by decide +kernel) (a_cons (e_op op_sub (e_v 2) (e_ix ix_tup (e_v 0) e_int)) a_nil)) e_int)))
      ss_nil)
    (ss_one (s_ret (e_cmp op_eq (e_v 2) (e_op op_add (e_ix ix_tup (e_v 0) e_int) (e_call dWay hr pass0 (a_cons (e_v 0) a_nil)))))))) ?_
  refine ⟨_, rfl, p, _, _, .str c.reel, rfl, rfl, SqT.of hp, atI_nat (j := 0) rfl, _, rfl, rfl, _, rfl, ?_⟩
  by_cases e : c.reel = r
  · refine iteN (by rw [decide_eq_true (by rw [e])]; rfl) ?_
    refine ⟨_, rfl, p, _, _, .int c.a, rfl, rfl, SqT.of hp, atI_nat (j := 1) rfl, _, rfl, p, _, _, .int c.b, rfl, rfl, SqT.of hp, atI_nat (j := 2) rfl, rfl, _, rfl, ?_⟩
    by_cases ab : c.a = c.b
    · refine iteY (decide_eq_true (by rw [ab])) ?_
      refine ⟨_, rfl, _, rfl, p, _, _, .int c.b, rfl, rfl, SqT.of hp, atI_nat (j := 2) rfl, _, _, rfl, rfl, _, rfl, rfl, ?_⟩
      have z : decide (can c ⟨r, n, 0⟩) = decide (V.int (if n - c.b < 0 then -(n - c.b) else n - c.b) = V.int 1) := by
        rw [decide_eq_decide]
        unfold can goes
        rw [if_pos ab]
        simp only [V.int.injEq]
        constructor
        · rintro ⟨_, h⟩
          split <;> omega
        · intro h
          refine ⟨e, ?_⟩
          split at h <;> omega
      rw [← z]
      exact q
    · refine iteN (decide_eq_false (by intro z; exact ab (V.int.inj z))) ?_
      refine ⟨_, rfl, _, rfl, p, _, _, .int c.b, rfl, rfl, SqT.of hp, atI_nat (j := 2) rfl, _, rfl, p, c, rfl, hp, _, _, rfl, rfl, rfl, ?_⟩
      have z : decide (can c ⟨r, n, 0⟩) = decide (V.int n = V.int (c.b + c.way)) := by
        rw [decide_eq_decide]
        unfold can goes
        rw [if_neg ab]
        simp only [V.int.injEq]
        exact ⟨fun h => h.2, fun h => ⟨e, h⟩⟩
      rw [← z]
      exact q
  · refine iteY (by rw [decide_eq_false (by intro z; exact e (V.str.inj z))]; rfl) ?_
    have z : decide (can c ⟨r, n, 0⟩) = false := decide_eq_false fun h => e h.1
    rw [z] at q
    exact q
def spTake : Sp := fun vs H Q _ => ∃ (pl : Addr) (rs : List (Addr × Clip)) (r : Str) (n : Int), vs = [.ref pl, .str r, .int n] ∧ SL H pl rs ∧ rs.length ≤ 1000000 ∧
  ∀ (rs' : List (Addr × Clip)) (H' : Hp), Bt pl H H' → SL H' pl rs' → rs'.map (·.2) = stepR (rs.map (·.2)) ⟨r, n, 0⟩ → Q .non H'
theorem scTake : FnScope ["strips", "reel", "number"] ["strips", "reel", "number"] (defScope s_take_frame) := ⟨rfl, rfl, rfl, by decide +kernel, rfl, by decide +kernel, by decide +kernel⟩
theorem ok_take {f : Addr} {fd : FuncData} (F : Fun K "take_frame" "take_frame" s_take_frame f fd) (dCan : Def P w K mg base CX0 "can_have" 2 ["strip", "reel", "number"] spCan) : FnOk P w K mg base CX0 3 f fd ["strips", "reel", "number"] spTake := by
  refine F.ok scTake (fun vs H Q E h => ?_) (fun cdv A outer s H vs Q E hr h => ?_)
  · obtain ⟨pl, rs, r, n, rfl, _⟩ := h
    rfl
  obtain ⟨pl, rs, r, n, rfl, sl, hlen, q⟩ := h
  refine useQ (ss_one (s_if (t_w (w_and (t_tru (e_v 0)) (w_and1 (t_val (e_call dCan hr pass0 (a_cons (e_ix ix_list (e_v 0) (e_un un_neg e_int)) (a_cons (e_v 1) (a_cons (e_v 2) a_nil))))))))
      (ss_one (s_asg (e_op op_catG (e_sl sl_tupG (e_ix ix_list (e_v 0) (e_un un_neg e_int)) o_none (o_some e_int)) (e_tup (a_cons (e_v 2) (a_cons (e_ix ix_tup (e_ix ix_list (e_v 0) (e_un un_neg e_int)) e_int) a_nil)))) (g_sub (e_v 0) (e_un un_neg e_int))))
      (ss_one (s_expr (e_append (e_v 0) (e_tup (a_cons (e_v 1) (a_cons (e_v 2) (a_cons (e_v 2) (a_cons e_int a_nil)))))))))) ?_
  have zl : sizeLine = 16777216 := sizeLine_eq
  have push : ∀ {H1 : Hp}, SL H1 pl rs → Same H H1 → stepR (rs.map (·.2)) ⟨r, n, 0⟩ = ⟨r, n, n, 0⟩ :: rs.map (·.2) → ∀ pt, H1 pt = none → Q .non (upd (upd H1 pt (.tup (Clip.vs ⟨r, n, n, 0⟩))) pl (.lst ((rs.reverse.map fun x => V.ref x.1) ++ [.ref pt]))) := by
    intro H1 sl1 s1 e pt hpt
    have st := Same.new hpt (.tup (Clip.vs ⟨r, n, n, 0⟩))
    exact q _ _ ((Bt.of (s1.trans st)).trans Bt.upd) ((sl1.same st).push (c := ⟨r, n, n, 0⟩) upd_same) e.symm
  cases rs with
  | nil =>
    refine ⟨_, rfl, false, ?_, iteF ?_⟩
    · exact .inl ⟨_, SqL.of sl.1, rfl⟩
    refine ⟨_, rfl, .inl ⟨rfl, _, SqL.of sl.1⟩, _, rfl, _, rfl, _, rfl, (by show 4 ≤ sizeLine; decide), fun pt hpt => ?_⟩
    exact ⟨pl, _, _, rfl, rfl, Same.new hpt _ _ _ sl.1, (by decide), push sl (Same.refl _) rfl pt hpt⟩
  | cons x rs =>
    refine ⟨_, rfl, true, ?_, iteT ?_⟩
    · refine .inl ⟨_, SqL.of sl.1, ?_⟩
      rw [List.reverse_cons, List.map_append]
      simp
    have hx := sl.2 x (List.mem_cons_self ..)
    refine ⟨_, rfl, _, rfl, pl, _, _, .ref x.1, rfl, rfl, SqL.of sl.1, SL.last (H := H) (p := pl), _, rfl, _, rfl, x.1, x.2, r, n, rfl, hx, _, rfl, ?_⟩
    by_cases e : can x.2 ⟨r, n, 0⟩
    · refine iteY (decide_eq_true e) ?_
      refine ⟨_, rfl, _, rfl, pl, _, _, .ref x.1, rfl, rfl, SqL.of sl.1, SL.last (H := H) (p := pl), _, rfl, x.1, _, rfl, hx, fun p1 H1 s1 hp1 => ?_⟩
      refine ⟨_, rfl, _, rfl, _, rfl, pl, _, _, .ref x.1, rfl, rfl, SqL.of (s1 _ _ sl.1), SL.last (H := H) (p := pl), x.1, _, _, .int x.2.f, rfl, rfl, SqT.of (s1 _ _ hx), atI_nat (j := 3) rfl, (by show 2 ≤ sizeLine; decide), fun p2 hp2 => ?_⟩
      have s2 := Same.new hp2 (.tup [.int n, .int x.2.f])
      refine ⟨p1, p2, _, _, rfl, rfl, s2 _ _ hp1, upd_same, (by show 2 + 2 ≤ sizeLine; decide), fun p3 H3 s3 hp3 => ?_⟩
      have S3 := (s1.trans s2).trans s3
      have sl3 := sl.same S3
      have hl : (((x :: rs).reverse.map fun x => V.ref x.1)).length = rs.length + 1 := by rw [List.length_map, List.length_reverse]; rfl
      refine ⟨_, rfl, _, rfl, pl, _, _, rs.length, rfl, rfl, sl3.1, ?_, ?_⟩
      · have := ixN_last (n := (((x :: rs).reverse.map fun x => V.ref x.1)).length) (by rw [hl]; exact Nat.succ_pos _)
        rw [hl] at this ⊢
        exact this
      · have e2 : (((x :: rs).reverse.map fun x => V.ref x.1)).set rs.length (V.ref p3) = (rs.reverse.map fun x => V.ref x.1) ++ [.ref p3] := by
          rw [List.reverse_cons, List.map_append]
          have : rs.length = (rs.reverse.map fun x => V.ref x.1).length := by rw [List.length_map, List.length_reverse]
          rw [this, List.set_append_right _ _ (Nat.le_refl _), Nat.sub_self]
          rfl
        rw [e2]
        refine q ((p3, ⟨x.2.reel, x.2.a, n, x.2.f⟩) :: rs) _ ((Bt.of S3).trans Bt.upd) (sl3.put (c := ⟨x.2.reel, x.2.a, n, x.2.f⟩) hp3) ?_
        rw [List.map_cons, List.map_cons, stepR_cons, if_pos ⟨Int.le_refl 0, e⟩]
    · refine iteN (decide_eq_false e) ?_
      refine ⟨_, rfl, .inl ⟨rfl, _, SqL.of sl.1⟩, _, rfl, _, rfl, _, rfl, (by show 4 ≤ sizeLine; decide), fun pt hpt => ?_⟩
      refine ⟨pl, _, _, rfl, rfl, Same.new hpt _ _ _ sl.1, ?_, push sl (Same.refl _) ?_ pt hpt⟩
      · rw [List.length_map, List.length_reverse]
        omega
      · rw [List.map_cons, stepR_cons, if_neg fun z => e z.2]
def spStrips : Sp := fun vs H Q _ => ∃ (pc : Addr) (ps : List (Addr × Clip)) (n : Nat), vs = [.ref pc] ∧ CL 1000 n H pc ps ∧ n ≤ 1000000 ∧ ps.length ≤ 100 ∧
  ∀ (l : Addr) (rs : List (Addr × Clip)) (H' : Hp), Same H H' → H l = none → SL H' l rs → rs.map (·.2) = stripsR (moments (ps.map (·.2))) → Q (.ref l) H'
theorem scStrips : FnScope ["clips", "strips", "clip", "numbers", "number"] ["clips"] (defScope s_strips_of) := ⟨rfl, rfl, rfl, by decide +kernel, rfl, by decide +kernel, by decide +kernel⟩
theorem ok_strips {f : Addr} {fd : FuncData} (F : Fun K "strips_of" "strips_of" s_strips_of f fd) (dNos : Def P w K mg base CX0 "numbers_of" 2 ["clip"] spFr) (dTake : Def P w K mg base CX0 "take_frame" 3 ["strips", "reel", "number"] spTake) : FnOk P w K mg base CX0 4 f fd ["clips"] spStrips := by
  refine F.ok scStrips (fun vs H Q E h => ?_) (fun cdv A outer s H vs Q E hr h => ?_)
  · obtain ⟨pc, ps, n, rfl, _⟩ := h
    rfl
  obtain ⟨pc, ps, N, rfl, cl, hN, hpl, q⟩ := h
  refine useQ (ss_cons (s_set (i := 1) scStrips.nd (e_lst a_nil))
    (ss_cons (s_for PassesOwn.never rfl (i_list (e_v 0)) (g_name (i := 2) scStrips.nd)
      (ss_cons (s_set (i := 3) scStrips.nd (e_call dNos hr pass0 (a_cons (e_v 2) a_nil)))
      (ss_cons (s_cut (s_if (t_cmp op_gt (e_ix ix_tup (e_v 2) e_int) e_int)
        (ss_cons (s_expr (e_append (e_v 1) (e_tup (a_cons (e_ix ix_tup (e_v 2) e_int) (a_cons (e_ix ix_tup (e_v 2) e_int) (a_cons (e_ix ix_tup (e_v 2) e_int) (a_cons (e_ix ix_tup (e_v 2) e_int) a_nil)))))))
        (ss_one (s_set (i := 3) scStrips.nd (e_sl sl_list (e_v 3) (o_some e_int) o_none))))
        ss_nil))
      (ss_one (s_for PassesOwn.never rfl (i_list (e_v 3)) (g_name (i := 4) scStrips.nd)
        (ss_one (s_expr (e_call dTake hr pass0 (a_cons (e_v 1) (a_cons (e_ix ix_tup (e_v 2) e_int) (a_cons (e_v 4) a_nil)))))))))))
    (ss_one (s_ret (e_v 1))))) ?_
  have zl : sizeLine = 16777216 := sizeLine_eq
  refine ⟨(by show 0 ≤ sizeLine; decide), fun pl hp => ?_⟩
  have s0 := Same.new hp (.lst [])
  have bound : ∀ i, (stripsR (moments ((ps.take i).map (·.2)))).length ≤ 100000 := by
    intro i
    have h1 := len_fold (moments ((ps.take i).map (·.2))) []
    have h2 := moments_len (m := 1000) ((ps.take i).map (·.2)) fun c hc => by
      obtain ⟨x, hx, rfl⟩ := List.mem_map.mp hc
      exact (cl.2 x (List.mem_of_mem_take hx)).2.d
    rw [List.length_map, List.length_take] at h2
    have h3 : 1000 * min i ps.length ≤ 1000 * 100 := Nat.mul_le_mul_left _ (by omega)
    show (List.foldl stepR [] _).length ≤ _
    rw [List.length_nil] at h1
    omega
  refine ⟨_, rfl, pc, rfl, ⟨_, SqL.of (s0 _ _ cl.1)⟩, for_list (xs := ps.map fun x => V.ref x.1) (fun i σ H' => ∃ (rs : List (Addr × Clip)) (o2 o3 o4 : Option V), σ = [some (.ref pc), some (.ref pl), o2, o3, o4] ∧ SL H' pl rs ∧ rs.map (·.2) = stripsR (moments ((ps.take i).map (·.2))) ∧ Same H H')
    ⟨[], none, none, none, rfl, SL.nil upd_same, rfl, s0⟩ ?_ ?_ ?_⟩
  · rintro i σ H' hi ⟨rs, o2, o3, o4, rfl, sl, er, hS⟩
    exact SqL.of (hS _ _ cl.1)
  · rintro i x σ H' hx ⟨rs, o2, o3, o4, rfl, sl, er, hS⟩
    rw [List.getElem?_map] at hx
    cases hz : ps[i]? with
    | none => rw [hz] at hx; cases hx
    | some z =>
      rw [hz] at hx
      cases hx
      obtain ⟨hc, ok⟩ := cl.2 z (List.mem_of_getElem? hz)
      have hc := hS _ _ hc
      have ek : stripsR (moments ((ps.take (i + 1)).map (·.2))) = z.2.ms.foldl stepR (rs.map (·.2)) := by
        rw [List.take_add_one, hz, List.map_append]
        show stripsR (moments (_ ++ [z.2])) = _
        unfold stripsR at er ⊢
        rw [moments_app, moments_one, List.foldl_append, er]
      have hrl : rs.length ≤ 100000 := by
        have := bound i
        rw [← er, List.length_map] at this
        exact this
      have hd := ok.d
      refine ⟨_, rfl, z.1, z.2, rfl, hc, ok.sm hN, fun l1 hl1 => ?_⟩
      have s1 := Same.new hl1 (.lst (z.2.nums.map V.int))
      have sl1 := sl.same s1
      refine ⟨fun σ' H1 => ∃ (rs1 : List (Addr × Clip)) (ln : Addr) (xs : List Int) (o4 : Option V), σ' = [some (.ref pc), some (.ref pl), some (.ref z.1), some (.ref ln), o4] ∧ SL H1 pl rs1 ∧ H1 ln = some (.lst (xs.map V.int)) ∧ ln ≠ pl ∧ rs1.length + xs.length ≤ 102000 ∧ z.2.ms.foldl stepR (rs.map (·.2)) = (xs.map fun n => (⟨z.2.reel, n, 0⟩ : Mo)).foldl stepR (rs1.map (·.2)) ∧ Bt pl H' H1, ?_, ?_⟩
      · refine ⟨_, rfl, z.1, _, _, .int z.2.f, rfl, rfl, SqT.of (s1 _ _ hc), atI_nat (j := 3) rfl, _, _, rfl, rfl, _, rfl, ?_⟩
        have nel : l1 ≠ pl := fun e => by rw [e, sl.1] at hl1; cases hl1
        refine ite2 (fun y => ?_) (fun y => ?_)
        · have y := of_decide_eq_true y
          refine ⟨_, rfl, .inl ⟨rfl, _, SqL.of sl1.1⟩, _, rfl, z.1, _, _, .str z.2.reel, rfl, rfl, SqT.of (s1 _ _ hc), atI_nat (j := 0) rfl, _, rfl, z.1, _, _, .int z.2.a, rfl, rfl, SqT.of (s1 _ _ hc), atI_nat (j := 1) rfl, _, rfl, z.1, _, _, .int z.2.a, rfl, rfl, SqT.of (s1 _ _ hc), atI_nat (j := 1) rfl, _, rfl, z.1, _, _, .int z.2.f, rfl, rfl, SqT.of (s1 _ _ hc), atI_nat (j := 3) rfl, (by show 4 ≤ sizeLine; decide), fun pt hpt => ?_⟩
          have s2 := Same.new hpt (.tup (Clip.vs ⟨z.2.reel, z.2.a, z.2.a, z.2.f⟩))
          refine ⟨pl, _, _, rfl, rfl, s2 _ _ sl1.1, by rw [List.length_map, List.length_reverse]; omega, ?_⟩
          have hl2 : upd (upd (upd H' l1 (.lst (z.2.nums.map V.int))) pt (.tup (Clip.vs ⟨z.2.reel, z.2.a, z.2.a, z.2.f⟩))) pl (.lst ((rs.reverse.map fun x => V.ref x.1) ++ [.ref pt])) l1 = some (.lst (z.2.nums.map V.int)) := by
            rw [upd_ne nel]
            exact s2 _ _ upd_same
          refine ⟨_, rfl, _, rfl, l1, _, rfl, SqL.of hl2, fun l3 hl3 => ?_⟩
          rw [show cutV (z.2.nums.map V.int) (some 1) none = (z.2.nums.drop 1).map V.int from cut_drop V.int z.2.nums 1] at *
          have s3 := Same.new hl3 (.lst ((z.2.nums.drop 1).map V.int))
          have slp := ((sl1.same s2).push (c := ⟨z.2.reel, z.2.a, z.2.a, z.2.f⟩) upd_same)
          refine ⟨_, l3, z.2.nums.drop 1, _, rfl, slp.same s3, upd_same, ?_, ?_, ?_, ?_⟩
          · intro e
            rw [e, upd_same] at hl3
            cases hl3
          · rw [List.length_cons, List.length_drop, Clip.nums_len]
            omega
          · rw [ms_head, List.foldl_cons, stepR_new y]
            rfl
          · exact ((Bt.of (s1.trans s2)).trans Bt.upd).trans (Bt.of s3)
        · have y : ¬ 0 < z.2.f := fun k => y (decide_eq_true k)
          have f0 := ok.f0
          exact ⟨rs, l1, z.2.nums, _, rfl, sl1, upd_same, nel, by rw [Clip.nums_len]; omega, by rw [ms_zero (by omega)], Bt.of s1⟩
      rintro σ H1 ⟨rs1, ln, xs, o4', rfl, sl1, hln, nel, hlen, ef, bt⟩
      have hc1 : H1 z.1 = some (.tup z.2.vs) := bt _ _ (sl.ne hc) hc
      refine ⟨_, rfl, ln, rfl, ⟨_, SqL.of hln⟩, for_list (xs := xs.map V.int) (fun j σ H2 => ∃ (rs2 : List (Addr × Clip)) (o4 : Option V), σ = [some (.ref pc), some (.ref pl), some (.ref z.1), some (.ref ln), o4] ∧ SL H2 pl rs2 ∧ H2 ln = some (.lst (xs.map V.int)) ∧ rs2.map (·.2) = ((xs.take j).map fun n => (⟨z.2.reel, n, 0⟩ : Mo)).foldl stepR (rs1.map (·.2)) ∧ Bt pl H1 H2)
        ⟨rs1, _, rfl, sl1, hln, rfl, Bt.refl _ _⟩ ?_ ?_ ?_⟩
      · rintro j σ H2 hj ⟨rs2, o4, rfl, sl2, hl2, er2, bt2⟩
        exact SqL.of hl2
      · rintro j y σ H2 hy ⟨rs2, o4, rfl, sl2, hl2, er2, bt2⟩
        rw [List.getElem?_map] at hy
        cases hu : xs[j]? with
        | none => rw [hu] at hy; cases hy
        | some u =>
          rw [hu] at hy
          cases hy
          have hc2 := bt2 _ _ (sl1.ne hc1) hc1
          have hrl2 : rs2.length ≤ 1000000 := by
            have e := congrArg List.length er2
            rw [List.length_map] at e
            have h1 := len_fold ((xs.take j).map fun n => (⟨z.2.reel, n, 0⟩ : Mo)) (rs1.map (·.2))
            rw [List.length_map, List.length_map, List.length_take] at h1
            omega
          refine ⟨_, rfl, _, rfl, z.1, _, _, .str z.2.reel, rfl, rfl, SqT.of hc2, atI_nat (j := 0) rfl, _, rfl, pl, rs2, z.2.reel, u, rfl, sl2, hrl2, fun rs3 H3 b3 sl3 e3 => ?_⟩
          refine ⟨rs3, _, rfl, sl3, b3 _ _ nel hl2, ?_, bt2.trans b3⟩
          rw [e3, er2, List.take_add_one, hu, List.map_append, List.foldl_append]
          rfl
      · rintro σ H2 ⟨rs2, o4, rfl, sl2, hl2, er2, bt2⟩
        rw [List.length_map, List.take_length] at er2
        exact ⟨rs2, _, _, _, rfl, sl2, by rw [ek, ef, er2], Bt.same hS (bt.trans bt2) hp⟩
  · rintro σ H' ⟨rs, o2, o3, o4, rfl, sl, er, hS⟩
    rw [List.length_map, List.take_length] at er
    exact ⟨_, rfl, q pl rs H' hS hp sl er⟩
end
end K26

set_option linter.all false
set_option maxRecDepth 100000
set_option maxHeartbeats 1000000
namespace K26
open PySem L2 G KS
section
variable {P : Program} {w : World} {K : PySem.W.Frag} {mg : Str → Option Value} {base : Heap}
def loOf (c : Clip) : Int := if c.b < c.a then c.b else c.a
def hiOf (c : Clip) : Int := if c.a < c.b then c.b else c.a
def spLeast : Sp := fun vs H Q _ => ∃ (p : Addr) (c : Clip), vs = [.ref p] ∧ H p = some (.tup c.vs) ∧ Q (.int (loOf c)) H
theorem scLeast : FnScope ["strip"] ["strip"] (defScope s_least) := ⟨rfl, rfl, rfl, by decide +kernel, rfl, by decide +kernel, by decide +kernel⟩
theorem ok_least {f : Addr} {fd : FuncData} (F : Fun K "least" "least" s_least f fd) (n_min : mg "min" = none) : FnOk P w K mg base CX0 1 f fd ["strip"] spLeast := by
  refine F.ok scLeast (fun vs H Q E h => ?_) (fun cdv A outer s H vs Q E hr h => ?_)
  · obtain ⟨p, c, rfl, _⟩ := h
    rfl
  obtain ⟨p, c, rfl, hp, q⟩ := h
  refine useQ (ss_one (s_ret (e_b (call_min2 rfl) n_min (by decide +kernel) (a_cons (e_ix ix_tup (e_v 0) e_int) (a_cons (e_ix ix_tup (e_v 0) e_int) a_nil))))) ?_
  refine ⟨_, rfl, p, _, _, .int c.a, rfl, rfl, SqT.of hp, atI_nat (j := 1) rfl, _, rfl, p, _, _, .int c.b, rfl, rfl, SqT.of hp, atI_nat (j := 2) rfl, _, _, rfl, ?_⟩
  exact q
def spGr : Sp := fun vs H Q _ => ∃ (p : Addr) (c : Clip), vs = [.ref p] ∧ H p = some (.tup c.vs) ∧ Q (.int (hiOf c)) H
theorem scGr : FnScope ["strip"] ["strip"] (defScope s_greatest) := ⟨rfl, rfl, rfl, by decide +kernel, rfl, by decide +kernel, by decide +kernel⟩
theorem ok_gr {f : Addr} {fd : FuncData} (F : Fun K "greatest" "greatest" s_greatest f fd) (n_max : mg "max" = none) : FnOk P w K mg base CX0 1 f fd ["strip"] spGr := by
  refine F.ok scGr (fun vs H Q E h => ?_) (fun cdv A outer s H vs Q E hr h => ?_)
  · obtain ⟨p, c, rfl, _⟩ := h
    rfl
  obtain ⟨p, c, rfl, hp, q⟩ := h
  refine useQ (ss_one (s_ret (e_b (call_max2 rfl) n_max (by decide +kernel) (a_cons (e_ix ix_tup (e_v 0) e_int) (a_cons (e_ix ix_tup (e_v 0) e_int) a_nil))))) ?_
  refine ⟨_, rfl, p, _, _, .int c.a, rfl, rfl, SqT.of hp, atI_nat (j := 1) rfl, _, rfl, p, _, _, .int c.b, rfl, rfl, SqT.of hp, atI_nat (j := 2) rfl, _, _, rfl, ?_⟩
  exact q
def spFree : Sp := fun vs H Q _ => ∃ (l : Addr) (es : List Int) (x : Int), vs = [.ref l, .int x] ∧ H l = some (.lst (es.map V.int)) ∧ es.length ≤ 1000 ∧ ∀ H', Same H H' → Q (.int ((ff es x : Nat) : Int)) H'
theorem scFree : FnScope ["ends", "frame", "place", "end"] ["ends", "frame"] (defScope s_first_free) := ⟨rfl, rfl, rfl, by decide +kernel, rfl, by decide +kernel, by decide +kernel⟩
theorem ok_free {f : Addr} {fd : FuncData} (F : Fun K "first_free" "first_free" s_first_free f fd) (n_enumerate : mg "enumerate" = none) (n_len : mg "len" = none) : FnOk P w K mg base CX0 1 f fd ["ends", "frame"] spFree := by
  refine F.ok scFree (fun vs H Q E h => ?_) (fun cdv A outer s H vs Q E hr h => ?_)
  · obtain ⟨l, es, x, rfl, _⟩ := h
    rfl
  obtain ⟨l, es, x, rfl, hl, hn, q⟩ := h
  refine useQ (ss_cons (s_for PassesOwn.never rfl (i_enum n_enumerate (e_v 0)) (g_tup rfl (gs_cons (g_name (i := 2) scFree.nd) (gs_cons (g_name (i := 3) scFree.nd) gs_nil)))
      (ss_one (s_if (t_cmp op_lt (e_v 3) (e_v 1))
        (ss_one (s_ret (e_v 2)))
        ss_nil)))
    (ss_one (s_ret (e_b call_len_seq n_len PySem.boot_len (a_cons (e_v 0) a_nil))))) ?_
  refine ⟨_, rfl, l, rfl, ⟨_, SqL.of hl⟩, for_enum (K := K) (a := l) (xs := es.map V.int) (fun i σ H' => ∃ (o2 o3 : Option V), σ = [some (.ref l), some (.int x), o2, o3] ∧ Same H H' ∧ i ≤ ff es x) ⟨none, none, rfl, fun _ _ h => h, Nat.zero_le _⟩ ?_ ?_ ?_⟩
  · rintro i σ H' _ ⟨o2, o3, rfl, hS, _⟩
    exact SqL.of (hS _ _ hl)
  · rintro i v σ H' p hx ⟨o2, o3, rfl, hS, hi⟩ hp
    rw [List.getElem?_map] at hx
    cases hu : es[i]? with
    | none => rw [hu] at hx; cases hx
    | some e =>
      rw [hu] at hx
      cases hx
      have s1 : Same H (upd H' p (.tup [.int (i : Int), .int e])) := hS.trans (Same.new hp _)
      refine ⟨p, _, rfl, SqT.of upd_same, rfl, _, _, rfl, _, _, rfl, rfl, ?_⟩
      refine ⟨_, rfl, _, rfl, _, _, rfl, rfl, _, rfl, ?_⟩
      refine ite2 (fun z => ?_) (fun z => ?_)
      · have z := of_decide_eq_true z
        have e1 : ff es x = i := by
          rcases Nat.lt_or_ge i (ff es x) with h | h
          · have := ff_ge h hu
            omega
          · omega
        have q1 := q _ s1
        rw [e1] at q1
        exact ⟨_, rfl, q1⟩
      · have z : ¬ e < x := fun y => z (decide_eq_true y)
        refine ⟨_, _, rfl, s1, ?_⟩
        rcases Nat.lt_or_ge i (ff es x) with h | h
        · exact h
        · have e1 : ff es x = i := by omega
          rw [← e1] at hu
          exact absurd (ff_lt hu) z
  · rintro σ H' ⟨o2, o3, rfl, hS, hi⟩
    rw [List.length_map] at hi
    have e1 : ff es x = es.length := Nat.le_antisymm (ff_le es x) hi
    refine ⟨_, rfl, l, _, rfl, .inl (SqL.of (hS _ _ hl)), ?_⟩
    rw [List.length_map, ← e1]
    exact q _ hS
def spPut : Sp := fun vs H Q _ => ∃ (l : Addr) (es : List Int) (p : Nat) (e : Int), vs = [.ref l, .int (p : Int), .int e] ∧ H l = some (.lst (es.map V.int)) ∧ p ≤ es.length ∧ es.length < 1000 ∧ Q .non (upd H l (.lst ((putE es p e).map V.int)))
theorem scPut : FnScope ["ends", "place", "end"] ["ends", "place", "end"] (defScope s_put_end) := ⟨rfl, rfl, rfl, by decide +kernel, rfl, by decide +kernel, by decide +kernel⟩
theorem ok_put {f : Addr} {fd : FuncData} (F : Fun K "put_end" "put_end" s_put_end f fd) (n_len : mg "len" = none) : FnOk P w K mg base CX0 1 f fd ["ends", "place", "end"] spPut := by
  refine F.ok scPut (fun vs H Q E h => ?_) (fun cdv A outer s H vs Q E hr h => ?_)
  · obtain ⟨l, es, p, e, rfl, _⟩ := h
    rfl
  obtain ⟨l, es, p, e, rfl, hl, hp, hn, q⟩ := h
  refine useQ (ss_one (s_if (t_cmp op_eq (e_v 1) (e_b call_len_seq n_len PySem.boot_len (a_cons (e_v 0) a_nil)))
      (ss_one (s_expr (e_append (e_v 0) (e_v 2))))
      (ss_one (s_asg (e_v 2) (g_sub (e_v 0) (e_v 1)))))) ?_
  refine ⟨_, rfl, _, rfl, l, _, rfl, .inl (SqL.of hl), rfl, _, rfl, ?_⟩
  rw [List.length_map]
  have zl : sizeLine = 16777216 := sizeLine_eq
  by_cases e1 : p = es.length
  · refine iteY (decide_eq_true (by rw [e1])) ?_
    refine ⟨_, rfl, .inl ⟨rfl, _, SqL.of hl⟩, _, rfl, l, _, _, rfl, rfl, hl, by rw [List.length_map]; omega, ?_⟩
    have e2 : putE es p e = es ++ [e] := by unfold putE; rw [if_pos e1]
    rw [e2, List.map_append] at q
    exact q
  · refine iteN (decide_eq_false (by intro z; have := V.int.inj z; omega)) ?_
    refine ⟨_, rfl, _, rfl, _, rfl, l, _, _, p, rfl, rfl, hl, by rw [List.length_map]; exact ixN_nat (by omega), ?_⟩
    have e2 : putE es p e = es.set p e := by unfold putE; rw [if_neg e1]
    rw [e2, List.map_set] at q
    exact q
end
end K26

set_option linter.all false
set_option maxRecDepth 100000
set_option maxHeartbeats 1000000
namespace K26
open PySem L2 G KS
section
variable {P : Program} {w : World} {K : PySem.W.Frag} {mg : Str → Option Value} {base : Heap}
/-- where the lambda stands, and its name -/
def lamP : Pos := ⟨37, 49, 37, 75⟩
def lamQ : Str := "prints_for" ++ ".<locals>." ++ "<lambda>"
def d0 : Clip := ⟨"", 0, 0, 0⟩
def i0 : Iv := ⟨"", 0, 0⟩
/-- the dict of ends -/
def TkOk (H₀ H : Hp) (pp D : Addr) (kvs : List (Key × V)) (f : KS.Ends) : Prop :=
  (∀ r : Str, valV kvs (.inr r) = none → f r = []) ∧ (∀ (r : Str) v, valV kvs (.inr r) = some v → ∃ l, v = .ref l ∧ H l = some (.lst ((f r).map V.int)) ∧ H₀ l = none ∧ l ≠ pp ∧ l ≠ D) ∧
  ∀ (r r' : Str) l, valV kvs (.inr r) = some (.ref l) → valV kvs (.inr r') = some (.ref l) → r = r'
def SLs (H : Hp) (p : Addr) (ps : List (Addr × Clip)) : Prop := H p = some (.lst (ps.map fun x => V.ref x.1)) ∧ ∀ x ∈ ps, H x.1 = some (.tup x.2.vs)
def spPr (T : Addr) : Sp := fun vs H Q _ => ∃ (pl : Addr) (ps : List (Addr × Clip)) (spoil : Int), vs = [.ref pl, .int spoil] ∧ SLs H pl ps ∧ ps.length < 64 ∧ 0 ≤ spoil ∧ TabOk T lamP lamQ H ∧
  ∀ (l : Addr) (prs : List Nat) (H' : Hp), H l = none → Bt T H H' → TabOk T lamP lamQ H' → H' l = some (.lst (prs.map fun p => V.int ((p : Nat) : Int))) → PrOk (ps.map fun x => ivOf spoil x.2) prs → Q (.ref l) H'
theorem scPr : FnScope ["strips", "spoil", "prints", "taken", "number", "strip", "ends"] ["strips", "spoil"] (defScope s_prints_for) := ⟨rfl, rfl, rfl, by decide +kernel, rfl, by decide +kernel, by decide +kernel⟩
theorem ok_pr {f c T : Addr} {fd : FuncData} (F : Fun K "prints_for" "prints_for" s_prints_for f fd) (hc : fd.code = .ref c) (C : PySem.W.CodeHd base c T) (hB : base.BuiltinsAt mg T) (dLeast : Def P w K mg base CX0 "least" 1 ["strip"] spLeast) (dGr : Def P w K mg base CX0 "greatest" 1 ["strip"] spGr)
    (dFree : Def P w K mg base CX0 "first_free" 1 ["ends", "frame"] spFree) (dPut : Def P w K mg base CX0 "put_end" 1 ["ends", "place", "end"] spPut) (n_len : mg "len" = none) (n_sorted : mg "sorted" = none) (n_range : mg "range" = none) : FnOk P w K mg base CX0 5 f fd ["strips", "spoil"] (spPr T) := by
  refine F.okT (k := 4) hc scPr (fun vs H Q E h => ?_) (fun A outer s H vs Q E hr h => ?_)
  · obtain ⟨pl, ps, spoil, rfl, _⟩ := h
    rfl
  obtain ⟨pl, ps, spoil, rfl, sl, hn, h0, tab, q⟩ := h
  have hr : Room (1 + 3) _ := hr
  refine useQ (ss_cons (s_set (i := 2) scPr.nd (e_op op_rep (e_lst (a_cons e_int a_nil)) (e_b call_len_seq n_len PySem.boot_len (a_cons (e_c 0) a_nil))))
    (ss_cons (s_set (i := 3) scPr.nd e_dnew)
    (ss_cons (s_for PassesOwn.never rfl (i_list (e_sortLam (x := "k") ["strips"] [0] [("strips", s.heap.objs.size + 1)] hr n_sorted n_range rfl C hB (e_b call_len_seq n_len PySem.boot_len (a_cons (e_c 0) a_nil)) rfl ⟨rfl, rfl, rfl, rfl, trivial⟩ ⟨rfl, trivial⟩ (fun _ _ _ _ _ hr => (e_call dLeast hr pass0 (a_cons (e_ix (ix_listK (K := K) rfl) (e_f 1) (e_v 0)) a_nil))))) (g_name (i := 4) scPr.nd)
      (ss_cons (s_set (i := 5) scPr.nd (e_ix ix_list (e_c 0) (e_v 4)))
      (ss_cons (s_cut (s_set (i := 6) scPr.nd (e_dsetd (e_v 3) (e_ix ix_tup (e_v 5) e_int) (e_lst a_nil))))
      (ss_cons (s_asg (e_call dFree hr pass0 (a_cons (e_v 6) (a_cons (e_call dLeast hr pass0 (a_cons (e_v 5) a_nil)) a_nil))) (g_sub (e_v 2) (e_v 4)))
      (ss_one (s_expr (e_call dPut hr pass0 (a_cons (e_v 6) (a_cons (e_ix ix_list (e_v 2) (e_v 4)) (a_cons (e_op op_add (e_call dGr hr pass0 (a_cons (e_v 5) a_nil)) (e_v 1)) a_nil))))))))))
    (ss_one (s_ret (e_v 2)))))) ?_
  have zl : sizeLine = 16777216 := sizeLine_eq
  -- prints = [0] * len(strips)
  refine ⟨(by show 1 ≤ sizeLine; decide), fun pz hpz => ?_⟩
  have s1 := Same.new hpz (.lst [V.int 0])
  refine ⟨_, rfl, pl, _, rfl, .inl (SqL.of (s1 _ _ sl.1)), pz, _, _, rfl, rfl, upd_same, by omega, by rw [List.length_map]; omega, by rw [List.length_map]; show 1 * _ ≤ sizeLine; omega, fun pp hpp => ?_⟩
  have s2 := s1.trans (Same.new hpp (.lst (List.replicate ((ps.map fun x => V.ref x.1).length : Int).toNat [V.int 0]).flatten))
  -- taken = {}
  refine fun pt hpt => ?_
  have s3 := s2.trans (Same.new hpt (.dK []))
  obtain ⟨tps, hT⟩ := tab.at
  have nT : ∀ {b : Addr}, H b = none → b ≠ T := fun hb z => by rw [z, hT] at hb; cases hb
  have hpp0 : H pp = none := none_of s1 hpp
  have hpt0 : H pt = none := none_of s2 hpt
  have f1 : upd (upd (upd H pz (.lst [V.int 0])) pp (.lst (List.replicate ((ps.map fun x => V.ref x.1).length : Int).toNat [V.int 0]).flatten)) pt (.dK []) pp = some (.lst ((List.replicate ps.length 0).map fun (p : Nat) => V.int ((p : Nat) : Int))) := by
    have e1 : ((ps.map fun x => V.ref x.1).length : Int).toNat = ps.length := by rw [List.length_map]; rfl
    rw [upd_ne (ne_of_none upd_same hpt), upd_same, e1, rep_map]
  have nzt : ∀ ps', some (HO.tbl ps') ≠ H pl := fun ps' z => by rw [sl.1] at z; cases z
  refine ⟨_, rfl, pl, _, rfl, .inl (SqL.of (s3 _ _ sl.1)), ps.length, by rw [List.length_map], hn, tab.same s3, fun k => loOf ((ps.map (·.2)).getD k.toNat d0), fun k H' hk hb => ?_, fun D H2 ns hD hb tab2 hl hp ho => ?_⟩
  · have hT' : pl ≠ T := ne_of sl.1 hT (by intro z; cases z)
    have hz := List.getElem?_eq_getElem hk
    have hm := List.getElem_mem hk
    have hzT : ps[k].1 ≠ T := ne_of (sl.2 _ hm) hT (by intro z; cases z)
    refine ⟨_, rfl, _, rfl, pl, _, _, .ref ps[k].1, rfl, rfl, SqL.of (hb _ _ hT' (s3 _ _ sl.1)), atI_nat (j := k) (by rw [List.getElem?_map, hz]; rfl), ps[k].1, ps[k].2, rfl, hb _ _ hzT (s3 _ _ (sl.2 _ hm)), ?_, fun _ _ h => h⟩
    have : (ps.map (·.2)).getD k d0 = ps[k].2 := by rw [List.getD_eq_getElem?_getD, List.getElem?_map, hz]; rfl
    show V.int _ = V.int (loOf ((ps.map (·.2)).getD ((k : Int).toNat) d0))
    rw [show ((k : Int).toNat) = k from rfl, this]
  obtain ⟨js, rfl, hjs⟩ := perm_nat hp
  have hpT : pl ≠ T := ne_of sl.1 hT (by intro z; cases z)
  have hD0 : H D = none := none_of s3 hD
  have nppD : pp ≠ D := ne_of_none f1 hD
  have nptD : pt ≠ D := ne_of_none upd_same hD
  have nppt : pp ≠ pt := fun z => by rw [z, upd_same] at f1; cases f1
  have tk0 : TkOk H H2 pp D [] (fun _ => []) := ⟨fun _ _ => rfl, fun r v z => (by cases z), fun r r' l z => (by cases z)⟩
  refine ⟨D, rfl, ⟨_, SqL.of hl⟩, for_list (K := K) (a := D) (xs := (js.map fun (j : Nat) => ((j : Nat) : Int)).map V.int) (fun i σ H' => ∃ (prs : List Nat) (kvs : List (Key × V)) (o4 o5 o6 : Option V), σ = [some (.ref pl), some (.int spoil), some (.ref pp), some (.ref pt), o4, o5, o6] ∧
      H' pp = some (.lst (prs.map fun p => V.int ((p : Nat) : Int))) ∧ prs.length = ps.length ∧ H' pt = some (.dK kvs) ∧ kvs.length ≤ i ∧ TkOk H H' pp D kvs (endsP ((js.map fun j => (ps.map fun (x : Addr × Clip) => ivOf spoil x.2).getD j i0).take i) fun _ => []) ∧
      (∀ (i' j : Nat) x, i' < i → js[i']? = some j → (runP (js.map fun j => (ps.map fun (x : Addr × Clip) => ivOf spoil x.2).getD j i0) fun _ => [])[i']? = some x → prs[j]? = some x.2) ∧ Bt T H H' ∧ TabOk T lamP lamQ H' ∧ H' D = some (.lst ((js.map fun (j : Nat) => ((j : Nat) : Int)).map V.int)))
    ⟨_, [], none, none, none, rfl, hb _ _ (nT hpp0) f1, List.length_replicate, hb _ _ (nT hpt0) upd_same, Nat.le_refl _, tk0, fun i' _ _ z => by omega, fun b o h1 h2 => hb b o h1 (s3 b o h2), .inr tab2, hl⟩ ?_ ?_ ?_⟩
  · rintro i σ H' _ ⟨prs, kvs, o4, o5, o6, rfl, _, _, _, _, _, _, _, _, hD'⟩
    exact SqL.of hD'
  · rintro i x σ H' hx ⟨prs, kvs, o4, o5, o6, rfl, hpp', hpl', hpt', hkl, ⟨t1, t2, t3⟩, hdone, bt, tab', hD'⟩
    rw [List.getElem?_map, List.getElem?_map] at hx
    cases hj : js[i]? with
    | none => rw [hj] at hx; cases hx
    | some j =>
      rw [hj] at hx
      cases hx
      have hjn : j < ps.length := List.mem_range.mp (hjs.mem_iff.mp (List.mem_of_getElem? hj))
      have hil : i < ps.length := by
        have := (List.getElem?_eq_some_iff.mp hj).1
        have := hjs.length_eq
        rw [List.length_range] at this
        omega
      have hz := List.getElem?_eq_getElem hjn
      have hm := List.getElem_mem hjn
      generalize ps[j] = z at hz hm
      have hzT : z.1 ≠ T := ne_of (sl.2 _ hm) hT (by intro y; cases y)
      have hzt := bt _ _ hzT (sl.2 _ hm)
      have hiv : (ps.map fun (x : Addr × Clip) => ivOf spoil x.2).getD j i0 = ivOf spoil z.2 := by rw [List.getD_eq_getElem?_getD, List.getElem?_map, hz]; rfl
      have hvi : (js.map fun j => (ps.map fun (x : Addr × Clip) => ivOf spoil x.2).getD j i0)[i]? = some (ivOf spoil z.2) := by rw [List.getElem?_map, hj]; exact congrArg some hiv
      have hrun := run_at (fun _ => []) hvi
      have hend := endsP_snoc ((js.map fun j => (ps.map fun (x : Addr × Clip) => ivOf spoil x.2).getD j i0).take i) (ivOf spoil z.2) (fun _ => [])
      rw [← take_snoc hvi] at hend
      have hlen := ends_len ((js.map fun j => (ps.map fun (x : Addr × Clip) => ivOf spoil x.2).getD j i0).take i) (fun _ => []) 0 (fun _ => Nat.le_refl _) z.2.reel
      rw [List.length_take] at hlen
      generalize endsP ((js.map fun j => (ps.map fun (x : Addr × Clip) => ivOf spoil x.2).getD j i0).take i) (fun _ => []) = fE at t1 t2 t3 hrun hend hlen
      -- strip = strips[number]
      refine ⟨_, rfl, _, rfl, pl, _, _, .ref z.1, rfl, rfl, SqL.of (bt _ _ hpT sl.1), atI_nat (j := j) (by rw [List.getElem?_map, hz]; rfl), ?_⟩
      -- ends = taken.setdefault(strip[0], [])
      refine ⟨fun σ1 H1 => ∃ (l : Addr) (kvs' : List (Key × V)), σ1 = [some (.ref pl), some (.int spoil), some (.ref pp), some (.ref pt), some (.int ((j : Nat) : Int)), some (.ref z.1), some (.ref l)] ∧ H1 pp = some (.lst (prs.map fun p => V.int ((p : Nat) : Int))) ∧ H1 pt = some (.dK kvs') ∧ kvs'.length ≤ i + 1 ∧
        TkOk H H1 pp D kvs' fE ∧ valV kvs' (.inr z.2.reel) = some (.ref l) ∧ Bt T H H1 ∧ TabOk T lamP lamQ H1 ∧ H1 D = some (.lst ((js.map fun (j : Nat) => ((j : Nat) : Int)).map V.int)), ?_, ?_⟩
      · refine ⟨_, rfl, pt, rfl, .inl ⟨kvs, Rd.of hpt'⟩, _, rfl, z.1, _, _, .str z.2.reel, rfl, rfl, SqT.of hzt, atI_nat (j := 0) rfl, (by show 0 ≤ sizeLine; decide), fun pe hpe => ?_⟩
        have se := Same.new hpe (.lst [])
        refine ⟨kvs, .inr z.2.reel, se _ _ hpt', by omega, rfl, fun v hv => ?_, fun hv => ?_⟩
        · obtain ⟨l, rfl, hl1, hl0, hl2, hl3⟩ := t2 _ _ hv
          refine ⟨l, kvs, rfl, se _ _ hpp', se _ _ hpt', by omega, ⟨t1, fun r v h => ?_, t3⟩, hv, fun b o h1 h2 => se _ _ (bt b o h1 h2), tab'.same se, se _ _ hD'⟩
          obtain ⟨l', e, h1, h2⟩ := t2 r v h
          exact ⟨l', e, se _ _ h1, h2⟩
        · have npe : pt ≠ pe := ne_of_none hpt' hpe
          have hpe0 : H pe = none := by
            cases e : H pe with
            | none => rfl
            | some o =>
              by_cases hb : pe = T
              · obtain ⟨qs, hq⟩ := tab'.at
                rw [hb, hq] at hpe; cases hpe
              · rw [bt _ _ hb e] at hpe; cases hpe
          have np : pp ≠ pe := ne_of_none hpp' hpe
          have nD : D ≠ pe := ne_of_none hD' hpe
          refine ⟨pe, putK kvs (.inr z.2.reel) (.ref pe), rfl, ?_, upd_same, ?_, ⟨fun r h => ?_, fun r v h => ?_, fun r r' l h h' => ?_⟩, ?_, fun b o h1 h2 => ?_, ?_, ?_⟩
          · rw [upd_ne nppt, upd_ne np]; exact hpp'
          · have := length_putK kvs (.inr z.2.reel) (.ref pe)
            omega
          · rw [valV_put] at h
            split at h
            · cases h
            · exact t1 r h
          · rw [valV_put] at h
            split at h
            · rename_i e
              cases h
              have e : r = z.2.reel := Sum.inr.inj e
              rw [e, t1 _ hv]
              exact ⟨pe, rfl, by rw [upd_ne (Ne.symm npe)]; exact upd_same, hpe0, Ne.symm np, Ne.symm nD⟩
            · obtain ⟨l', e, h1, h2⟩ := t2 r v h
              refine ⟨l', e, ?_, h2⟩
              rw [upd_ne (ne_of h1 hpt' (by intro y; cases y))]
              exact se _ _ h1
          · rw [valV_put] at h h'
            split at h
            · rename_i e
              split at h'
              · rename_i e'
                exact Sum.inr.inj (e.trans e'.symm)
              · obtain ⟨l', e2, h1, _⟩ := t2 r' _ h'
                cases h
                cases e2
                rw [hpe] at h1; cases h1
            · split at h'
              · obtain ⟨l', e2, h1, _⟩ := t2 r _ h
                cases h'
                cases e2
                rw [hpe] at h1; cases h1
              · exact t3 r r' l h h'
          · rw [valV_put, if_pos rfl]
          · rw [upd_ne (ne_of_none h2 hpt0)]
            exact se _ _ (bt b o h1 h2)
          · exact (tab'.same se).write (se _ _ hpt') (fun _ y => by cases y) fun _ _ y => by cases y
          · rw [upd_ne (Ne.symm nptD)]
            exact se _ _ hD'
      · rintro σ1 H1 ⟨l, kvs', rfl, hpp1, hpt1, hkl1, ⟨u1, u2, u3⟩, hv1, bt1, tab1, hD1⟩
        obtain ⟨l', e, hl1, hl0, hl2, hl3⟩ := u2 _ _ hv1
        cases e
        have hz1 := bt1 _ _ hzT (sl.2 _ hm)
        have nlpp := hl2
        -- prints[number] = first_free(ends, least(strip))
        refine ⟨_, rfl, _, rfl, z.1, z.2, rfl, hz1, l, fE z.2.reel, _, rfl, hl1, by omega, fun H3 s3' => ?_⟩
        have hpp3 := s3' _ _ hpp1
        refine ⟨_, rfl, _, rfl, pp, _, _, j, rfl, rfl, hpp3, by rw [List.length_map, hpl']; exact ixN_nat hjn, ?_⟩
        have hl3' := s3' _ _ hl1
        have hz3 := s3' _ _ hz1
        have nzp : z.1 ≠ pp := ne_of hz3 hpp3 (by intro y; cases y)
        have npr : ((prs.map fun p => V.int ((p : Nat) : Int)).set j (.int ((ff (fE z.2.reel) (loOf z.2) : Nat) : Int))) = (prs.set j (ff (fE z.2.reel) (loOf z.2))).map fun p => V.int ((p : Nat) : Int) := by rw [List.map_set]
        rw [npr]
        have hpl2 : (prs.set j (ff (fE z.2.reel) (loOf z.2))).length = ps.length := by rw [List.length_set]; exact hpl'
        have hat : (prs.set j (ff (fE z.2.reel) (loOf z.2)))[j]? = some (ff (fE z.2.reel) (loOf z.2)) := by rw [List.getElem?_set_self (by rw [hpl']; exact hjn)]
        -- put_end(ends, prints[number], greatest(strip) + spoil)
        refine ⟨_, rfl, _, rfl, _, rfl, pp, _, _, .int ((ff (fE z.2.reel) (loOf z.2) : Nat) : Int), rfl, rfl, SqL.of upd_same, atI_nat (j := j) (by rw [List.getElem?_map, hat]; rfl), _, rfl, z.1, z.2, rfl, by rw [upd_ne nzp]; exact hz3, _, rfl, _, _, rfl, rfl,
          l, fE z.2.reel, ff (fE z.2.reel) (loOf z.2), _, rfl, by rw [upd_ne nlpp]; exact hl3', ff_le _ _, by omega, ?_⟩
        have up : ∀ b, b ≠ l → b ≠ pp → upd (upd H3 pp (.lst ((prs.set j (ff (fE z.2.reel) (loOf z.2))).map fun p => V.int ((p : Nat) : Int)))) l (.lst ((putE (fE z.2.reel) (ff (fE z.2.reel) (loOf z.2)) (hiOf z.2 + spoil)).map V.int)) b = H3 b := fun b h1 h2 => by rw [upd_ne h1, upd_ne h2]
        refine ⟨prs.set j (ff (fE z.2.reel) (loOf z.2)), kvs', _, _, _, rfl, by rw [upd_ne (Ne.symm nlpp)]; exact upd_same, hpl2, ?_, hkl1, ⟨fun r h => ?_, fun r v h => ?_, u3⟩, ?_, fun b o h1 h2 => ?_, ?_, ?_⟩
        · rw [up _ (ne_of hpt1 hl1 (by intro y; cases y)) (ne_of hpt1 hpp1 (by intro y; cases y))]
          exact s3' _ _ hpt1
        · rw [hend]
          show (if r = z.2.reel then _ else fE r) = _
          rw [if_neg (fun e => by rw [e, hv1] at h; cases h)]
          exact u1 r h
        · obtain ⟨l', e, h1, h2, h3, h4⟩ := u2 r v h
          refine ⟨l', e, ?_, h2, h3, h4⟩
          rw [hend]
          show _ = some (HO.lst ((if r = z.2.reel then _ else fE r).map V.int))
          by_cases er : r = z.2.reel
          · rw [if_pos er]
            rw [er, hv1] at h
            have e := (Option.some.inj h).trans e
            cases e
            exact upd_same
          · rw [if_neg er, up l' (fun y => er (u3 r z.2.reel l (by rw [h, e, y]) hv1)) h3]
            exact s3' _ _ h1
        · intro i' j' x' hi' hj' hx'
          rcases Nat.lt_or_ge i' i with hlt | hge
          · have h5 := hdone i' j' x' hlt hj' hx'
            have nj : j ≠ j' := fun e => by
              have nd : js.Nodup := hjs.nodup_iff.mpr List.nodup_range
              exact pair_at nd hlt hj' hj e.symm
            rw [List.getElem?_set_ne nj]
            exact h5
          · have e : i' = i := by omega
            subst e
            rw [hj] at hj'
            cases hj'
            rw [hrun] at hx'
            cases hx'
            exact hat
        · rw [up b (ne_of_none h2 hl0) (ne_of_none h2 hpp0)]
          exact s3' _ _ (bt1 b o h1 h2)
        · have w1 := (tab1.same s3').write (o := .lst ((prs.set j (ff (fE z.2.reel) (loOf z.2))).map fun p => V.int ((p : Nat) : Int))) hpp3 (fun _ y => by cases y) fun _ _ y => by cases y
          exact w1.write (by rw [upd_ne nlpp]; exact hl3') (fun _ y => by cases y) fun _ _ y => by cases y
        · rw [up D (Ne.symm hl3) (Ne.symm nppD)]
          exact s3' _ _ hD1
  · rintro σ H' ⟨prs, kvs, o4, o5, o6, rfl, hpp', hpl', hpt', hkl, tk, hdone, bt, tab', hD'⟩
    refine ⟨_, rfl, q pp prs H' hpp0 bt tab' hpp' ?_⟩
    refine prok_of (js := js) (by rw [hpl', List.length_map]) (fun v hv => ?_) (by rw [List.length_map]; exact hjs) i0 ?_ (fun i j x h1 h2 => hdone i j x ?_ h1 h2)
    · obtain ⟨x, _, rfl⟩ := List.mem_map.mp hv
      unfold ivOf
      show (if x.2.b < x.2.a then x.2.b else x.2.a) ≤ (if x.2.a < x.2.b then x.2.b else x.2.a) + spoil
      split <;> split <;> omega
    · rw [List.pairwise_map] at ho
      refine ho.imp_of_mem fun {a b} ha hb h => ?_
      have ka := List.mem_range.mp (hjs.mem_iff.mp ha)
      have kb := List.mem_range.mp (hjs.mem_iff.mp hb)
      have h' : loOf ((ps.map (·.2)).getD a d0) ≤ loOf ((ps.map (·.2)).getD b d0) := h
      have eq : ∀ k, k < ps.length → ((ps.map fun (x : Addr × Clip) => ivOf spoil x.2).getD k i0).lo = loOf ((ps.map (·.2)).getD k d0) := fun k hk => by
        rw [List.getD_eq_getElem?_getD, List.getD_eq_getElem?_getD, List.getElem?_map, List.getElem?_map, List.getElem?_eq_getElem hk]
        rfl
      rw [eq a ka, eq b kb]
      exact h'
    · rw [List.length_map, List.length_map]
      exact (List.getElem?_eq_some_iff.mp h1).1
end
end K26

set_option linter.all false
set_option maxRecDepth 100000
set_option maxHeartbeats 1000000
namespace K26
open PySem L2 G KS
section
variable {P : Program} {w : World} {K : PySem.W.Frag} {mg : Str → Option Value} {base : Heap}
def spNeeds (T : Addr) : Sp := fun vs H Q _ => ∃ (pl : Addr) (ps : List (Addr × Clip)) (spoil : Int) (r : Str), vs = [.ref pl, .int spoil] ∧ SLs H pl ps ∧ ps.length < 64 ∧ ps ≠ [] ∧ (∀ x ∈ ps, x.2.reel = r) ∧ 0 ≤ spoil ∧ TabOk T lamP lamQ H ∧
  ∀ (D t : Addr) (prs : List Nat) (m : Nat) (H' : Hp), Bt T H H' → TabOk T lamP lamQ H' → H' D = some (.lst [.ref t]) → H' t = some (.tup [.str r, .int ((m : Nat) : Int)]) → PrOk (ps.map fun x => ivOf spoil x.2) prs → (∃ p ∈ prs, m = p + 1) → Q (.ref D) H'
theorem scNeeds : FnScope ["strips", "spoil", "many", "strip", "place"] ["strips", "spoil"] (defScope s_needs) := ⟨rfl, rfl, rfl, by decide +kernel, rfl, by decide +kernel, by decide +kernel⟩
theorem ok_needs {f T : Addr} {fd : FuncData} (F : Fun K "needs" "needs" s_needs f fd) (dPr : Def P w K mg base CX0 "prints_for" 5 ["strips", "spoil"] (spPr T)) (n_zip : mg "zip" = none) (n_max : mg "max" = none) (n_sorted : mg "sorted" = none) : FnOk P w K mg base CX0 6 f fd ["strips", "spoil"] (spNeeds T) := by
  refine F.ok scNeeds (fun vs H Q E h => ?_) (fun cdv A outer s H vs Q E hr h => ?_)
  · obtain ⟨pl, ps, spoil, r, rfl, _⟩ := h
    rfl
  obtain ⟨pl, ps, spoil, r, rfl, sl, hn, hne, hrl, h0, tab, q⟩ := h
  refine useQ (ss_cons (s_set (i := 2) scNeeds.nd e_dnew)
    (ss_cons (s_for PassesOwn.never rfl (i_zip n_zip (e_v 0) (e_call dPr hr pass0 (a_cons (e_v 0) (a_cons (e_v 1) a_nil)))) (g_tup rfl (gs_cons (g_name (i := 3) scNeeds.nd) (gs_cons (g_name (i := 4) scNeeds.nd) gs_nil)))
      (ss_one (s_dput (hu_of hr) (e_v 2) (e_ix ix_tup (e_v 3) e_int) (e_b (call_max2 rfl) n_max (by decide +kernel) (a_cons (e_dget2 (hu_of hr) (e_v 2) (e_ix ix_tup (e_v 3) e_int) e_int) (a_cons (e_op op_add (e_v 4) e_int) a_nil))))))
    (ss_one (s_ret (e_sortItems n_sorted (e_v 2)))))) ?_
  have zl : sizeLine = 16777216 := sizeLine_eq
  refine fun pm hpm => ?_
  have s1 := Same.new hpm (.dK [])
  obtain ⟨tps, hT⟩ := tab.at
  have nT : pm ≠ T := fun z => by rw [z, hT] at hpm; cases hpm
  have hpT : pl ≠ T := ne_of sl.1 hT (by intro z; cases z)
  have hzT : ∀ x ∈ ps, x.1 ≠ T := fun x hx => ne_of (sl.2 x hx) hT (by intro z; cases z)
  refine ⟨_, rfl, _, rfl, _, rfl, pl, ps, spoil, rfl, ⟨s1 _ _ sl.1, fun x hx => s1 _ _ (sl.2 x hx)⟩, hn, h0, tab.same s1, fun lp prs H1 hlp bt tab1 hl1 pr => ?_⟩
  have hpl1 := bt _ _ hpT (s1 _ _ sl.1)
  have hpm1 := bt _ _ nT upd_same
  have nlp : lp ≠ pm := fun z => by rw [z, upd_same] at hlp; cases hlp
  have hlen : prs.length = ps.length := by have := pr.len; rwa [List.length_map] at this
  refine ⟨pl, lp, rfl, ⟨_, SqL.of hpl1⟩, ⟨_, SqL.of hl1⟩, for_zip (K := K) (a := pl) (b := lp) (xs := ps.map fun x => V.ref x.1) (ys := prs.map fun p => V.int ((p : Nat) : Int)) (fun i σ H' => ∃ (kvs : List (Key × V)) (o3 o4 : Option V), σ = [some (.ref pl), some (.int spoil), some (.ref pm), o3, o4] ∧ H' pm = some (.dK kvs) ∧ Bt pm H1 H' ∧ TabOk T lamP lamQ H' ∧
      ((i = 0 ∧ kvs = []) ∨ ∃ m p : Nat, kvs = [(.inr r, .int ((m : Nat) : Int))] ∧ p ∈ prs ∧ m = p + 1)) (by rw [List.length_map, List.length_map, hlen]) ⟨[], none, none, rfl, hpm1, Bt.refl _ _, tab1, .inl ⟨rfl, rfl⟩⟩ ?_ ?_ ?_⟩
  · rintro i σ H' _ ⟨kvs, o3, o4, rfl, hm', bt', _, _⟩
    exact ⟨SqL.of (bt' _ _ (ne_of hpl1 hpm1 (by intro z; cases z)) hpl1), SqL.of (bt' _ _ nlp hl1)⟩
  · rintro i x y σ H' pt hx hy ⟨kvs, o3, o4, rfl, hm', bt', tab', hk⟩ hpt
    rw [List.getElem?_map] at hx hy
    cases hz : ps[i]? with
    | none => rw [hz] at hx; cases hx
    | some z =>
      cases hp : prs[i]? with
      | none => rw [hp] at hy; cases hy
      | some p =>
        rw [hz] at hx
        rw [hp] at hy
        cases hx
        cases hy
        have hzm := List.mem_of_getElem? hz
        have st := Same.new hpt (.tup [.ref z.1, .int ((p : Nat) : Int)])
        have hz1 := bt _ _ (hzT z hzm) (s1 _ _ (sl.2 z hzm))
        have hz2 := st _ _ (bt' _ _ (ne_of hz1 hpm1 (by intro y; cases y)) hz1)
        have hm2 := st _ _ hm'
        refine ⟨pt, _, rfl, SqT.of upd_same, rfl, _, _, rfl, _, _, rfl, rfl, ?_⟩
        refine ⟨_, rfl, pm, rfl, .inl ⟨kvs, Rd.of hm2⟩, _, rfl, z.1, _, _, .str z.2.reel, rfl, rfl, SqT.of hz2, atI_nat (j := 0) rfl, valV kvs (.inr z.2.reel), .inl ⟨kvs, .inr z.2.reel, Rd.of hm2, rfl, rfl⟩, ?_⟩
        have hrz : z.2.reel = r := hrl z hzm
        have hpm' := List.mem_of_getElem? hp
        have fin : ∀ (v : Nat) (kv' : List (Key × V)), kv' = [(.inr r, .int ((v : Nat) : Int))] → (∃ p ∈ prs, v = p + 1) → ∃ (kvs : List (Key × V)) (o3 o4 : Option V), [some (V.ref pl), some (V.int spoil), some (V.ref pm), some (V.ref z.1), some (V.int ((p : Nat) : Int))] = [some (V.ref pl), some (V.int spoil), some (V.ref pm), o3, o4] ∧
            upd (upd H' pt (.tup [.ref z.1, .int ((p : Nat) : Int)])) pm (.dK kv') pm = some (.dK kvs) ∧ Bt pm H1 (upd (upd H' pt (.tup [.ref z.1, .int ((p : Nat) : Int)])) pm (.dK kv')) ∧ TabOk T lamP lamQ (upd (upd H' pt (.tup [.ref z.1, .int ((p : Nat) : Int)])) pm (.dK kv')) ∧
            ((i + 1 = 0 ∧ kvs = []) ∨ ∃ m p : Nat, kvs = [(.inr r, .int ((m : Nat) : Int))] ∧ p ∈ prs ∧ m = p + 1) := by
          rintro v kv' rfl ⟨p', h1, h2⟩
          exact ⟨_, _, _, rfl, upd_same, (bt'.trans (Bt.of st)).trans Bt.upd, (tab'.same st).write hm2 (fun _ y => by cases y) (fun _ _ y => by cases y), .inr ⟨v, p', rfl, h1, h2⟩⟩
        rcases hk with ⟨_, rfl⟩ | ⟨m, p', rfl, hp', rfl⟩
        · refine ⟨_, rfl, _, _, rfl, rfl, _, _, rfl, ?_⟩
          refine ⟨_, rfl, _, rfl, z.1, _, _, .str z.2.reel, rfl, rfl, SqT.of hz2, atI_nat (j := 0) rfl, pm, _, rfl, .inl ⟨[], .inr z.2.reel, hm2, rfl, by show 0 < sizeLine; decide, rfl⟩, ?_⟩
          refine fin (p + 1) _ ?_ ⟨p, hpm', rfl⟩
          rw [hrz, if_pos (by omega)]
          rfl
        · have e1 : valV [((Sum.inr r : Key), V.int ((p' + 1 : Nat) : Int))] (.inr z.2.reel) = some (V.int ((p' + 1 : Nat) : Int)) := by rw [hrz]; simp [valV]
          rw [e1]
          refine ⟨_, rfl, _, _, rfl, rfl, _, _, rfl, ?_⟩
          refine ⟨_, rfl, _, rfl, z.1, _, _, .str z.2.reel, rfl, rfl, SqT.of hz2, atI_nat (j := 0) rfl, pm, _, rfl, .inl ⟨_, .inr z.2.reel, hm2, rfl, by show 1 < sizeLine; decide, rfl⟩, ?_⟩
          have e2 : ∀ x : V, putK [((Sum.inr r : Key), V.int ((p' + 1 : Nat) : Int))] (.inr z.2.reel) x = [(.inr r, x)] := fun x => by rw [hrz]; simp [putK]
          rw [e2]
          by_cases hlt : ((p' + 1 : Nat) : Int) < ((p : Nat) : Int) + 1
          · refine fin (p + 1) _ ?_ ⟨p, hpm', rfl⟩
            rw [if_pos hlt]
            rfl
          · refine fin (p' + 1) _ ?_ ⟨p', hp', rfl⟩
            rw [if_neg hlt]
  · rintro σ H' ⟨kvs, o3, o4, rfl, hm', bt', tab', hk⟩
    rcases hk with ⟨h1, _⟩ | ⟨m, p, rfl, hp, hm⟩
    · rw [List.length_map] at h1
      exact absurd (List.length_eq_zero_iff.mp h1) hne
    · refine ⟨_, rfl, pm, _, _, rfl, hm', fun t D ht hD htD => ?_⟩
      have st := (Same.new ht (.tup [.str r, .int ((m : Nat) : Int)]))
      have hD' : upd H' t (.tup [.str r, .int ((m : Nat) : Int)]) D = none := by rw [upd_ne (Ne.symm htD)]; exact hD
      have sD := st.trans (Same.new hD' (.lst [.ref t]))
      refine q D t prs m _ (fun b o h1 h2 => sD _ _ (bt' _ _ (ne_of_none h2 hpm) (bt _ _ h1 (s1 _ _ h2)))) (tab'.same sD) upd_same (by rw [upd_ne htD]; exact upd_same) pr ⟨p, hp, hm⟩
end
end K26

set_option linter.all false
set_option maxRecDepth 100000
set_option maxHeartbeats 1000000
namespace K26
open PySem L2 G KS
section
variable {P : Program} {w : World} {K : PySem.W.Frag} {mg : Str → Option Value} {base : Heap}
structure ShOk (b : Nat) (c : Clip) : Prop where
  r : c.reel = "r"
  e : c.a = c.b
  a0 : 0 ≤ c.a
  a1 : c.a ≤ b
  f : c.f = 0 ∨ c.f = 1
theorem ShOk.mono {b b' : Nat} {c : Clip} (h : ShOk b c) (hb : b ≤ b') : ShOk b' c := ⟨h.r, h.e, h.a0, by have := h.a1; omega, h.f⟩
theorem SLs.same {H H' : Hp} {p : Addr} {ps : List (Addr × Clip)} (h : SLs H p ps) (s : Same H H') : SLs H' p ps := ⟨s _ _ h.1, fun x hx => s _ _ (h.2 x hx)⟩
def spShots : Sp := fun vs H Q _ => ∃ (c : Int), vs = [.int c] ∧ ∀ (l : Addr) (ps : List (Addr × Clip)) (H' : Hp), Same H H' → H l = none → SLs H' l ps → 2 ≤ ps.length → ps.length ≤ 8 → (∀ x ∈ ps, ShOk 12 x.2) → Q (.ref l) H'
theorem scSh : FnScope ["_law_cell_here", "_law_xs", "_law_found", "_law_k", "_law_frame", "_law_at"] ["_law_cell_here"] (defScope s__law_shots) := ⟨rfl, rfl, rfl, by decide +kernel, rfl, by decide +kernel, by decide +kernel⟩
theorem ok_shots {f : Addr} {fd : FuncData} (F : Fun K "_law_shots" "_law_shots" s__law_shots f fd) (dNum : Def P w K mg base CX0 "_law_numbers" 1 ["_law_cell_here", "_law_many"] spNum) (n_range : mg "range" = none) (n_max : mg "max" = none) (n_len : mg "len" = none) : FnOk P w K mg base CX0 2 f fd ["_law_cell_here"] spShots := by
  refine F.ok scSh (fun vs H Q E h => ?_) (fun cdv A outer s H vs Q E hr h => ?_)
  · obtain ⟨c, rfl, _⟩ := h
    rfl
  obtain ⟨c, rfl, q⟩ := h
  refine useQ (ss_cons (s_set (i := 1) scSh.nd (e_call dNum hr pass0 (a_cons (e_v 0) (a_cons e_int a_nil))))
    (ss_cons (s_set (i := 2) scSh.nd (e_lst a_nil))
    (ss_cons (s_for PassesOwn.never rfl (i_rng1 n_range (e_op op_add e_int (e_op op_mod (e_ix ix_list (e_v 1) e_int) e_int))) (g_name (i := 3) scSh.nd)
      (ss_cons (s_set (i := 4) scSh.nd (e_op op_mod (e_ix ix_list (e_v 1) (e_v 3)) e_int))
      (ss_cons (s_cut (s_if (t_w (w_and (t_cmp op_gt (e_v 3) e_int) (w_and1 (t_cmp op_gt (e_op op_mod (e_ix ix_list (e_v 1) (e_op op_add e_int (e_v 3))) e_int) e_int))))
        (ss_one (s_set (i := 4) scSh.nd (e_b (call_max2 rfl) n_max (by decide +kernel) (a_cons e_int (a_cons (e_op op_add (e_ix ix_tup (e_ix ix_list (e_v 2) (e_un un_neg e_int)) e_int) (e_ix ix_list (e_lst (a_cons e_int (a_cons (e_un un_neg e_int) a_nil))) (e_op op_mod (e_ix ix_list (e_v 1) (e_op op_add e_int (e_v 3))) e_int))) a_nil)))))
        ss_nil))
      (ss_one (s_expr (e_append (e_v 2) (e_tup (a_cons e_str (a_cons (e_v 4) (a_cons (e_v 4) (a_cons e_int a_nil)))))))))))
    (ss_cons (s_cut (s_if (t_cmp op_eq (e_op op_mod (e_ix ix_list (e_v 1) e_int) e_int) e_int)
      (ss_cons (s_set (i := 5) scSh.nd (e_op op_add e_int (e_op op_mod (e_ix ix_list (e_v 1) e_int) (e_op op_sub (e_b call_len_seq n_len PySem.boot_len (a_cons (e_v 2) a_nil)) e_int))))
      (ss_one (s_asg (e_op op_catG (e_sl sl_tupG (e_ix ix_list (e_v 2) (e_v 5)) o_none (o_some e_int)) (e_tup (a_cons e_int a_nil))) (g_sub (e_v 2) (e_v 5)))))
      ss_nil))
    (ss_one (s_ret (e_v 2))))))) ?_
  have zl : sizeLine = 16777216 := sizeLine_eq
  refine ⟨_, rfl, c, 20, rfl, by omega, fun lx ns H1 s1 hnl hlx0 hlx => ?_⟩
  refine ⟨(by show 0 ≤ sizeLine; decide), fun pf hpf => ?_⟩
  have s2 := Same.new hpf (.lst [])
  have hpf0 := none_of s1 hpf
  obtain ⟨N, hN⟩ : ∃ N : Nat, (2 : Int) + (ns[19] : Int) % 7 = (N : Int) := ⟨((2 : Int) + (ns[19] : Int) % 7).toNat, by omega⟩
  have hN1 : 2 ≤ N ∧ N ≤ 8 := by omega
  have npl : lx ≠ pf := ne_of_none hlx hpf
  refine ⟨_, rfl, lx, _, _, .int ns[19], rfl, rfl, SqL.of (s2 _ _ hlx), atI_nat (j := 19) (get_int (by omega)), _, _, rfl, rfl, (by show (0 : Int) < 7; decide), _, _, rfl, rfl, (N : Int), (by show [V.int ((2 : Int) + ns[19] % 7)] = _; rw [hN]), by omega, by omega, for_range (lo := 0) (n := N) (fun i σ H' => ∃ (ps : List (Addr × Clip)) (o3 o4 o5 : Option V), σ = [some (.int c), some (.ref lx), some (.ref pf), o3, o4, o5] ∧ ps.length = i ∧ SLs H' pf ps ∧ (∀ x ∈ ps, ShOk (3 + i) x.2) ∧ Bt pf H1 H')
    ⟨[], none, none, none, rfl, rfl, ⟨upd_same, fun x hx => nomatch hx⟩, (fun x hx => nomatch hx), Bt.of s2⟩ ?_ ?_⟩
  · rintro i σ H' hi ⟨ps, o3, o4, o5, rfl, hpl, sl, hsh, bt⟩
    have hlx' := bt _ _ npl hlx
    rw [Int.zero_add]
    refine ⟨_, rfl, _, rfl, lx, _, _, .int (ns[i]'(by omega)), rfl, rfl, SqL.of hlx', atI_nat (j := i) (get_int (ns := ns) (by omega)), _, _, rfl, rfl, (by show (0 : Int) < 5; decide), ?_⟩
    refine ⟨fun σ1 H2 => ∃ a : Int, σ1 = [some (.int c), some (.ref lx), some (.ref pf), some (.int ((i : Nat) : Int)), some (.int a), o5] ∧ 0 ≤ a ∧ a ≤ 4 + i ∧ Same H' H2, ?_, ?_⟩
    · have b1 : 0 ≤ (ns[i]'(by omega)) % 5 := by omega
      have b2 : (ns[i]'(by omega)) % 5 ≤ 4 + i := by omega
      refine ⟨_, rfl, _, _, rfl, rfl, _, rfl, ?_⟩
      refine ite2 (fun z => ?_) (fun z => ?_)
      · have z : (0 : Int) < (i : Int) := of_decide_eq_true z
        have hi8 : 8 + i < ns.length := by omega
        refine ⟨_, rfl, _, rfl, _, _, rfl, rfl, lx, _, _, .int (ns[8 + i]'hi8), rfl, rfl, SqL.of hlx', (by show atI _ ((8 : Int) + (i : Int)) = _; rw [show (8 : Int) + (i : Int) = ((8 + i : Nat) : Int) by omega]; exact atI_nat (get_int hi8)), _, _, rfl, rfl, (by show (0 : Int) < 4; decide), _, _, rfl, rfl, _, rfl, ?_⟩
        refine ite2 (fun z2 => ?_) (fun z2 => ?_)
        · rcases snoc_cases ps with e | ⟨L, x, e⟩
          · rw [e] at hpl; simp at hpl; omega
          subst e
          have hx := hsh x (by simp)
          have hxt := sl.2 x (by simp)
          refine ⟨_, rfl, _, rfl, pf, _, _, .ref x.1, rfl, rfl, SqL.of sl.1, ?_, x.1, _, _, .int x.2.a, rfl, rfl, SqT.of hxt, atI_nat (j := 1) rfl, ?_⟩
          · rw [List.map_append]
            exact atI_last _ _
          refine ⟨_, rfl, (by show 2 ≤ sizeLine; decide), fun pz hpz => ?_⟩
          have sz := Same.new hpz (.lst [V.int 1, V.int (-1)])
          refine ⟨_, rfl, _, rfl, _, _, rfl, rfl, lx, _, _, .int (ns[8 + i]'hi8), rfl, rfl, SqL.of (sz _ _ hlx'), (by show atI _ ((8 : Int) + (i : Int)) = _; rw [show (8 : Int) + (i : Int) = ((8 + i : Nat) : Int) by omega]; exact atI_nat (get_int hi8)), _, _, rfl, rfl, (by show (0 : Int) < 2; decide), ?_⟩
          have hv : ∃ v : Int, atI [V.int 1, V.int (-1)] ((ns[8 + i]'hi8) % 2) = some (.int v) ∧ (v = 1 ∨ v = -1) := by
            rcases (by omega : (ns[8 + i]'hi8) % 2 = 0 ∨ (ns[8 + i]'hi8) % 2 = 1) with e | e
            · rw [e]; exact ⟨1, rfl, .inl rfl⟩
            · rw [e]; exact ⟨-1, rfl, .inr rfl⟩
          obtain ⟨v, hv1, hv2⟩ := hv
          refine ⟨pz, _, _, .int v, rfl, rfl, SqL.of upd_same, hv1, _, _, rfl, rfl, _, _, rfl, ?_⟩
          have h1 := hx.a0
          have h2 := hx.a1
          refine ⟨_, rfl, ?_, ?_, sz⟩
          · show 0 ≤ (if (0 : Int) < x.2.a + v then x.2.a + v else 0)
            split <;> omega
          · show (if (0 : Int) < x.2.a + v then x.2.a + v else 0) ≤ 4 + (i : Int)
            split <;> omega
        · exact ⟨_, rfl, b1, b2, fun _ _ h => h⟩
      · exact iteF ⟨_, rfl, b1, b2, fun _ _ h => h⟩
    · rintro σ1 H2 ⟨a, rfl, ha0, ha1, sm⟩
      have sl2 := sl.same sm
      refine ⟨_, rfl, .inl ⟨rfl, _, SqL.of sl2.1⟩, _, rfl, _, rfl, (by show 4 ≤ sizeLine; decide), fun pt hpt => ?_⟩
      have st := Same.new hpt (.tup [V.str "r", V.int a, V.int a, V.int 0])
      have sl3 := sl2.same st
      refine ⟨pf, _, _, rfl, rfl, sl3.1, by rw [List.length_map]; omega, ?_⟩
      refine ⟨ps ++ [(pt, ⟨"r", a, a, 0⟩)], _, _, _, rfl, by rw [List.length_append, hpl]; rfl, ⟨by rw [upd_same, List.map_append]; rfl, fun x hx => ?_⟩, fun x hx => ?_, fun b o h1 h2 => ?_⟩
      · rcases List.mem_append.mp hx with hx | hx
        · rw [upd_ne (ne_of (sl3.2 x hx) sl3.1 (by intro y; cases y))]
          exact sl3.2 x hx
        · rw [List.mem_singleton.mp hx, upd_ne (Ne.symm (ne_of_none sl2.1 hpt))]
          exact upd_same
      · rcases List.mem_append.mp hx with hx | hx
        · exact (hsh x hx).mono (by omega)
        · rw [List.mem_singleton.mp hx]
          exact ⟨rfl, rfl, ha0, by show a ≤ ((3 + (i + 1) : Nat) : Int); omega, .inl rfl⟩
      · rw [upd_ne h1]
        exact st _ _ (sm _ _ (bt _ _ h1 h2))
  · rintro σ H' ⟨ps, o3, o4, o5, rfl, hpl, sl, hsh, bt⟩
    have hlx' := bt _ _ npl hlx
    refine ⟨fun σ1 H2 => ∃ (ps2 : List (Addr × Clip)) (o3' o4' o5' : Option V), σ1 = [some (.int c), some (.ref lx), some (.ref pf), o3', o4', o5'] ∧ ps2.length = N ∧ SLs H2 pf ps2 ∧ (∀ x ∈ ps2, ShOk 12 x.2) ∧ Bt pf H1 H2, ?_, ?_⟩
    · refine ⟨_, rfl, lx, _, _, .int ns[18], rfl, rfl, SqL.of hlx', atI_nat (j := 18) (get_int (by omega)), _, _, rfl, rfl, (by show (0 : Int) < 4; decide), rfl, _, rfl, ?_⟩
      refine ite2 (fun _ => ?_) (fun _ => ?_)
      · have hl1 : ((ps.map fun x => V.ref x.1).length : Int) = (N : Int) := by rw [List.length_map, hpl]
        refine ⟨_, rfl, lx, _, _, .int ns[17], rfl, rfl, SqL.of hlx', atI_nat (j := 17) (get_int (by omega)), _, rfl, pf, _, rfl, .inl (SqL.of sl.1), _, _, rfl, rfl, _, _, rfl, rfl, (by show (0 : Int) < ((ps.map fun x => V.ref x.1).length : Int) - 1; rw [hl1]; omega), _, _, rfl, rfl, ?_⟩
        obtain ⟨k, hk, hkN⟩ : ∃ k : Nat, (1 : Int) + ns[17] % (((ps.map fun x => V.ref x.1).length : Int) - 1) = (k : Int) ∧ k < N := by
          rw [hl1]
          have h1 := Int.emod_nonneg ns[17] (show (N : Int) - 1 ≠ 0 by omega)
          have h2 := Int.emod_lt_of_pos ns[17] (show (0 : Int) < (N : Int) - 1 by omega)
          exact ⟨((1 : Int) + ns[17] % ((N : Int) - 1)).toNat, by omega, by omega⟩
        have hkp : k < ps.length := by omega
        have hz := List.getElem?_eq_getElem hkp
        have hm := List.getElem_mem hkp
        generalize ps[k] = z at hz hm
        have hzt := sl.2 z hm
        have hzs := hsh z hm
        refine ⟨_, rfl, _, rfl, pf, _, _, .ref z.1, rfl, rfl, SqL.of sl.1, ?_, _, rfl, z.1, _, rfl, hzt, fun p1 H3 s3 hp1 => ?_⟩
        · show atI _ ((1 : Int) + ns[17] % (((ps.map fun x => V.ref x.1).length : Int) - 1)) = _
          rw [hk]
          exact atI_nat (by rw [List.getElem?_map, hz]; rfl)
        refine ⟨(by show 1 ≤ sizeLine; decide), fun p2 hp2 => ?_⟩
        have s4 := Same.new hp2 (.tup [V.int 1])
        refine ⟨p1, p2, _, _, rfl, rfl, s4 _ _ hp1, upd_same, (by show 3 + 1 ≤ sizeLine; decide), fun p3 H5 s5 hp3 => ?_⟩
        have S5 := (s3.trans s4).trans s5
        have sl5 := sl.same S5
        refine ⟨_, rfl, _, rfl, pf, _, _, k, rfl, rfl, sl5.1, ?_, ?_⟩
        · show ixN _ ((1 : Int) + ns[17] % (((ps.map fun x => V.ref x.1).length : Int) - 1)) = _
          rw [hk]
          exact ixN_nat (by rw [List.length_map]; exact hkp)
        have n3 : p3 ≠ pf := ne_of hp3 sl5.1 (by intro y; cases y)
        refine ⟨ps.set k (p3, ⟨z.2.reel, z.2.a, z.2.b, 1⟩), _, _, _, rfl, by rw [List.length_set]; exact hpl, ⟨by rw [upd_same, List.map_set], fun x hx => ?_⟩, fun x hx => ?_, fun b o h1 h2 => ?_⟩
        · rcases List.mem_or_eq_of_mem_set hx with hx | rfl
          · rw [upd_ne (ne_of (sl5.2 x hx) sl5.1 (by intro y; cases y))]
            exact sl5.2 x hx
          · rw [upd_ne n3]
            exact hp3
        · rcases List.mem_or_eq_of_mem_set hx with hx | rfl
          · exact (hsh x hx).mono (by omega)
          · exact ⟨hzs.r, hzs.e, hzs.a0, by have := hzs.a1; show z.2.a ≤ _; omega, .inr rfl⟩
        · rw [upd_ne h1]
          exact S5 _ _ (bt _ _ h1 h2)
      · exact ⟨ps, _, _, _, rfl, hpl, sl, fun x hx => (hsh x hx).mono (by omega), bt⟩
    · rintro σ1 H2 ⟨ps2, o3', o4', o5', rfl, hpl2, sl2, hsh2, bt2⟩
      exact ⟨_, rfl, q pf ps2 H2 (fun b o h => bt2 _ _ (ne_of_none h hpf0) (s1 _ _ h)) hpf0 sl2 (by omega) (by omega) hsh2⟩
end
end K26

set_option linter.all false
set_option maxRecDepth 100000
set_option maxHeartbeats 1000000
namespace K26
open PySem L2 G KS
section
variable {P : Program} {w : World} {K : PySem.W.Frag} {mg : Str → Option Value} {base : Heap}
def LLs (H : Hp) (p : Addr) (xs : List (Addr × List Int)) : Prop := H p = some (.lst (xs.map fun x => V.ref x.1)) ∧ ∀ x ∈ xs, H x.1 = some (.lst (x.2.map V.int))
theorem LLs.same {H H' : Hp} {p : Addr} {xs : List (Addr × List Int)} (h : LLs H p xs) (s : Same H H') : LLs H' p xs := ⟨s _ _ h.1, fun x hx => s _ _ (h.2 x hx)⟩
def cnd (x s : Int) (l : List Int) : Bool := (l.any fun v => decide (v ≤ x)) && l.any fun v => decide (x ≤ v + s)
def hitF (x s : Int) (v : Int) : Bool := decide (v ≤ x) && decide (x ≤ v + s)
theorem cnd_of {x s : Int} {l : List Int} (h : l.any (hitF x s) = true) : cnd x s l = true := by
  obtain ⟨v, hv, h⟩ := List.any_eq_true.mp h
  unfold hitF at h
  rw [Bool.and_eq_true] at h
  unfold cnd
  rw [Bool.and_eq_true]
  exact ⟨List.any_eq_true.mpr ⟨v, hv, h.1⟩, List.any_eq_true.mpr ⟨v, hv, h.2⟩⟩
def pOf (x s : Int) (xs : List (Addr × List Int)) : V → Bool
  | .ref a => match xs.find? fun y => decide (y.1 = a) with
    | some y => cnd x s y.2
    | none => false
  | _ => false
theorem ints_inj : ∀ {l m : List Int}, l.map V.int = m.map V.int → l = m
  | [], [], _ => rfl
  | a :: l, b :: m, h => by
    rw [List.map_cons, List.map_cons] at h
    injection h with h1 h2
    rw [V.int.inj h1, ints_inj h2]
  | [], _ :: _, h => by cases h
  | _ :: _, [], h => by cases h
theorem pOf_eq {H : Hp} {p : Addr} {xs : List (Addr × List Int)} (h : LLs H p xs) {x s : Int} {y : Addr × List Int} (hy : y ∈ xs) : pOf x s xs (.ref y.1) = cnd x s y.2 := by
  show (match xs.find? (fun z => decide (z.1 = y.1)) with | some y => cnd x s y.2 | none => false) = _
  cases e : xs.find? fun z => decide (z.1 = y.1) with
  | none =>
    have := List.find?_eq_none.mp e y hy
    simp at this
  | some z =>
    have h1 : z.1 = y.1 := by simpa using List.find?_some e
    have h2 := List.mem_of_find?_eq_some e
    have h3 := h.2 z h2
    rw [h1, h.2 y hy] at h3
    have h4 := HO.lst.inj (Option.some.inj h3)
    show cnd x s z.2 = _
    rw [ints_inj h4]
theorem cnt_pOf {H : Hp} {p : Addr} {xs : List (Addr × List Int)} (h : LLs H p xs) (x s : Int) : (xs.filter fun y => y.2.any (hitF x s)).length ≤ ((xs.map fun y => V.ref y.1).filter (pOf x s xs)).length := by
  rw [List.filter_map, List.length_map]
  have : ∀ l : List (Addr × List Int), (∀ y ∈ l, y ∈ xs) → (l.filter fun y => y.2.any (hitF x s)).length ≤ (l.filter (pOf x s xs ∘ fun y => V.ref y.1)).length := by
    intro l
    induction l with
    | nil => intro _; exact Nat.le_refl _
    | cons y l ih =>
      intro hl
      have ih := ih fun z hz => hl z (List.mem_cons_of_mem _ hz)
      rw [List.filter_cons, List.filter_cons]
      by_cases hy : y.2.any (hitF x s) = true
      · have : (pOf x s xs ∘ fun y => V.ref y.1) y = true := (pOf_eq h (hl y (List.mem_cons_self ..))).trans (cnd_of hy)
        rw [if_pos hy, if_pos this, List.length_cons, List.length_cons]
        omega
      · rw [if_neg hy]
        split
        · rw [List.length_cons]; omega
        · exact ih
  exact this xs fun y hy => hy
def spMost : Sp := fun vs H Q _ => ∃ (pS : Addr) (xs : List (Addr × List Int)) (spoil : Int), vs = [.ref pS, .int spoil] ∧ LLs H pS xs ∧ xs.length ≤ 1000 ∧ (∀ x ∈ xs, x.2 ≠ [] ∧ x.2.length ≤ 1000) ∧
  ∀ (M : Int) (H' : Hp), Same H H' → (∀ f : Nat, f < 24 → (((xs.filter fun x => x.2.any (hitF (f : Int) spoil)).length : Nat) : Int) ≤ M) → Q (.int M) H'
theorem scMost : FnScope ["_law_strips", "_law_spoil", "_law_most_here", "_law_frame"] ["_law_strips", "_law_spoil"] (defScope s__law_most) := ⟨rfl, rfl, rfl, by decide +kernel, rfl, by decide +kernel, by decide +kernel⟩
theorem ok_most {f : Addr} {fd : FuncData} (F : Fun K "_law_most" "_law_most" s__law_most f fd) (n_range : mg "range" = none) (n_max : mg "max" = none) (n_min : mg "min" = none) (n_len : mg "len" = none) : FnOk P w K mg base CX0 1 f fd ["_law_strips", "_law_spoil"] spMost := by
  refine F.ok scMost (fun vs H Q E h => ?_) (fun cdv A outer s H vs Q E hr h => ?_)
  · obtain ⟨pS, xs, spoil, rfl, _⟩ := h
    rfl
  obtain ⟨pS, xs, spoil, rfl, hl, hn, hx, q⟩ := h
  refine useQ (ss_cons (s_set (i := 2) scMost.nd e_int)
    (ss_cons (s_for PassesOwn.never rfl (i_rng1 n_range e_int) (g_namec (i := 3) scMost.nd)
      (ss_one (s_set (i := 2) scMost.nd (e_b (call_max2 rfl) n_max (by decide +kernel) (a_cons (e_v 2) (a_cons (e_b call_len_seq n_len PySem.boot_len (a_cons (e_compF ["_law_frame", "_law_spoil"] [3, 1] [("_law_spoil", s.heap.objs.size + 1), ("_law_frame", s.heap.objs.size + 2)] rfl ⟨rfl, rfl, rfl, rfl, ⟨rfl, rfl, rfl, rfl, trivial⟩⟩ ⟨rfl, ⟨rfl, trivial⟩⟩ (i_list (e_v 0)) (fun _ _ _ _ => (t_chain op_le op_le (e_b (call_minK (K := K) rfl rfl) n_min (by decide +kernel) (a_cons (e_n 0) a_nil)) (e_n 1) (e_op op_add (e_b (call_maxK (K := K) rfl rfl) n_max (by decide +kernel) (a_cons (e_n 0) a_nil)) (e_n 2)))) (fun _ _ _ _ => (e_n 0))) a_nil)) a_nil))))))
    (ss_one (s_ret (e_v 2))))) ?_
  have zl : sizeLine = 16777216 := sizeLine_eq
  refine ⟨(24 : Int), rfl, by omega, by omega, for_range (lo := 0) (n := 24) (fun i σ H' => ∃ (M : Int) (o3 : Option V), σ = [some (.ref pS), some (.int spoil), some (.int M), o3] ∧ Same H H' ∧ ∀ f : Nat, f < i → (((xs.filter fun x => x.2.any (hitF (f : Int) spoil)).length : Nat) : Int) ≤ M)
    ⟨0, none, rfl, (fun _ _ h => h), (fun f hf => by omega)⟩ ?_ ?_⟩
  · rintro i σ H' hi ⟨M, o3, rfl, hS, hM⟩
    rw [Int.zero_add]
    have hl' := hl.same hS
    refine ⟨_, rfl, _, rfl, pS, rfl, ⟨_, SqL.of hl'.1⟩, ?_⟩
    refine compF_list (K := K) (pOf (i : Int) spoil xs) (fun v => v) (SqL.of hl'.1) (by rw [List.length_map]; omega) ?_ ?_ ?_
    · intro v H2 R s2 hv hR
      obtain ⟨y, hy, rfl⟩ := List.mem_map.mp hv
      have hyl := s2 _ _ (hl'.2 y hy)
      have hy0 : 0 < y.2.length := List.length_pos_iff.mpr (hx y hy).1
      refine ⟨_, rfl, y.1, y.2, rfl, SqL.of hyl, hy0, fun m hm hmin => ⟨_, rfl, _, _, rfl, rfl, _, rfl, ?_⟩⟩
      have eP := pOf_eq hl (x := (i : Int)) (s := spoil) hy
      refine ite2 (fun z => ?_) (fun z => ?_)
      · have z := of_decide_eq_true z
        refine ⟨_, rfl, y.1, y.2, rfl, SqL.of hyl, hy0, fun m' hm' hmax => ⟨_, rfl, _, _, rfl, rfl, _, _, rfl, rfl, _, rfl, ?_⟩⟩
        have e : pOf (i : Int) spoil xs (.ref y.1) = decide ((i : Int) ≤ m' + spoil) := by
          rw [eP]
          unfold cnd
          have h1 : (y.2.any fun v => decide (v ≤ (i : Int))) = true := List.any_eq_true.mpr ⟨m, hm, decide_eq_true z⟩
          rw [h1, Bool.true_and]
          by_cases h2 : (i : Int) ≤ m' + spoil
          · rw [decide_eq_true h2]
            exact List.any_eq_true.mpr ⟨m', hm', decide_eq_true h2⟩
          · rw [decide_eq_false h2, List.any_eq_false]
            intro v hv
            have := hmax v hv
            simp only [decide_eq_true_eq]
            omega
        rw [← e]
        exact hR _ (Same.refl _)
      · have z : ¬ m ≤ (i : Int) := fun y => z (decide_eq_true y)
        have e : pOf (i : Int) spoil xs (.ref y.1) = false := by
          rw [eP]
          unfold cnd
          have h1 : (y.2.any fun v => decide (v ≤ (i : Int))) = false := by
            rw [List.any_eq_false]
            intro v hv
            have := hmin v hv
            simp only [decide_eq_true_eq]
            omega
          rw [h1, Bool.false_and]
        have := hR H2 (Same.refl _)
        rw [e] at this
        exact ⟨_, rfl, this⟩
    · intro v H2 R s2 hv hp hR
      exact ⟨_, rfl, hR _ (Same.refl _)⟩
    · intro D H2 s2 hD hDl
      refine ⟨D, _, rfl, .inl (SqL.of hDl), _, _, rfl, ?_⟩
      refine ⟨_, _, rfl, hS.trans s2, fun f hf => ?_⟩
      have hc := cnt_pOf hl (i : Int) spoil
      rw [List.map_id'] 
      rcases Nat.lt_or_ge f i with h | h
      · have := hM f h
        split <;> omega
      · have e : f = i := by omega
        subst e
        split <;> omega
  · rintro σ H' ⟨M, o3, rfl, hS, hM⟩
    exact ⟨_, rfl, q M H' hS hM⟩
end
end K26

set_option linter.all false
set_option maxRecDepth 100000
set_option maxHeartbeats 1000000
namespace K26
open PySem L2 G KS
section
variable {P : Program} {w : World} {K : PySem.W.Frag} {mg : Str → Option Value} {base : Heap}
def msOf (ps : List (Addr × Clip)) : List (Int × Int) := ps.map fun x => (x.2.a, x.2.f)
structure GoodC (ms : List (Int × Int)) (xs : List (Addr × List Int)) : Prop where
  cut : CutR ms (turnL (xs.map (·.2)))
  ne : xs ≠ []
  le : xs.length ≤ ms.length
  all : ∀ x ∈ xs, x.2 ≠ [] ∧ x.2.length ≤ ms.length ∧ UT x.2
theorem GoodC.new {ms : List (Int × Int)} {xs : List (Addr × List Int)} (h : GoodC ms xs) (m : Int × Int) (p : Addr) : GoodC (ms ++ [m]) (xs ++ [(p, [m.1])]) := by
  refine ⟨?_, by simp, by rw [List.length_append, List.length_append]; have := h.le; simp; omega, fun x hx => ?_⟩
  · rw [List.map_append]
    exact .step h.cut (cut_new _ m)
  · rcases List.mem_append.mp hx with hx | hx
    · obtain ⟨a, b, c⟩ := h.all x hx
      exact ⟨a, by rw [List.length_append]; omega, c⟩
    · rw [List.mem_singleton.mp hx]
      exact ⟨by simp, by rw [List.length_append]; simp, UT.one _⟩
theorem GoodC.ext {ms : List (Int × Int)} {L : List (Addr × List Int)} {x : Addr × List Int} (h : GoodC ms (L ++ [x])) {M : List Int} {z : Int} (e : x.2 = M ++ [z]) (m : Int × Int) (p : Addr) (hf : m.2 ≤ 0) (h1 : (m.1 - z).natAbs = 1)
    (h2 : ∀ h : 1 < x.2.length, m.1 - z = x.2[1] - x.2[0]) : GoodC (ms ++ [m]) (L ++ [(p, x.2 ++ [m.1])]) := by
  obtain ⟨a0, b0, c0⟩ := h.all x (by simp)
  have hc := h.cut
  rw [List.map_append] at hc
  refine ⟨?_, by simp, by have := h.le; rw [List.length_append] at this ⊢; rw [List.length_append]; simp at this ⊢; omega, fun y hy => ?_⟩
  · rw [List.map_append]
    exact .step hc (cut_ext _ _ m hf (goes_of e c0 h1 h2))
  · rcases List.mem_append.mp hy with hy | hy
    · obtain ⟨a, b, c⟩ := h.all y (by simp [hy])
      exact ⟨a, by rw [List.length_append]; omega, c⟩
    · rw [List.mem_singleton.mp hy]
      exact ⟨by simp, by show (x.2 ++ [m.1]).length ≤ _; rw [List.length_append, List.length_append]; simp; omega, c0.snoc e h2⟩
def FL (H : Hp) (pf : Addr) (ms : List (Int × Int)) (ys : List (Addr × List (Addr × List Int))) : Prop := H pf = some (.lst (ys.map fun y => V.ref y.1)) ∧ ∀ y ∈ ys, LLs H y.1 y.2 ∧ GoodC ms y.2
theorem FL.same {H H' : Hp} {pf : Addr} {ms : List (Int × Int)} {ys : List (Addr × List (Addr × List Int))} (h : FL H pf ms ys) (s : Same H H') : FL H' pf ms ys := ⟨s _ _ h.1, fun y hy => ⟨(h.2 y hy).1.same s, (h.2 y hy).2⟩⟩
def FM (H : Hp) (pm : Addr) (ms : List (Int × Int)) (zs : List (Addr × List (Addr × List Int))) : Prop := FL H pm ms zs ∧ ∀ y ∈ zs, y.1 ≠ pm ∧ ∀ x ∈ y.2, x.1 ≠ pm
theorem FM.same {H H' : Hp} {pf : Addr} {ms : List (Int × Int)} {ys : List (Addr × List (Addr × List Int))} (h : FM H pf ms ys) (s : Same H H') : FM H' pf ms ys := ⟨h.1.same s, h.2⟩
theorem FM.push {H : Hp} {pm : Addr} {ms : List (Int × Int)} {zs : List (Addr × List (Addr × List Int))} (h : FM H pm ms zs) {y : Addr × List (Addr × List Int)} (hy : LLs H y.1 y.2) (g : GoodC ms y.2) (a1 : y.1 ≠ pm) (a2 : ∀ x ∈ y.2, x.1 ≠ pm) :
    FM (upd H pm (.lst ((zs.map fun y => V.ref y.1) ++ [.ref y.1]))) pm ms (zs ++ [y]) := by
  have one : ∀ z : Addr × List (Addr × List Int), z.1 ≠ pm → (∀ x ∈ z.2, x.1 ≠ pm) → LLs H z.1 z.2 → LLs (upd H pm (.lst ((zs.map fun y => V.ref y.1) ++ [.ref y.1]))) z.1 z.2 := fun z h1 h2 h3 =>
    ⟨by rw [upd_ne h1]; exact h3.1, fun x hx => by rw [upd_ne (h2 x hx)]; exact h3.2 x hx⟩
  refine ⟨⟨by rw [upd_same, List.map_append]; rfl, fun z hz => ?_⟩, fun z hz => ?_⟩
  · rcases List.mem_append.mp hz with hz | hz
    · obtain ⟨b1, b2⟩ := h.2 z hz
      exact ⟨one z b1 b2 (h.1.2 z hz).1, (h.1.2 z hz).2⟩
    · rw [List.mem_singleton.mp hz]
      exact ⟨one y a1 a2 hy, g⟩
  · rcases List.mem_append.mp hz with hz | hz
    · exact h.2 z hz
    · rw [List.mem_singleton.mp hz]
      exact ⟨a1, a2⟩
theorem cutInit (l : List V) (x : V) : cutV (l ++ [x]) none (some (-1)) = l := by
  unfold cutV
  have e : HT.sIx (l ++ [x]).length (l ++ [x]).length (some (-1)) = l.length := by
    unfold HT.sIx
    simp only [List.length_append, List.length_cons, List.length_nil]
    rw [if_pos (by decide)]
    omega
  rw [e, HT.sIx_none, List.drop_zero, Nat.sub_zero, List.take_left]
def spCut : Sp := fun vs H Q _ => ∃ (pc : Addr) (ps : List (Addr × Clip)), vs = [.ref pc] ∧ SLs H pc ps ∧ 1 ≤ ps.length ∧ ps.length ≤ 8 ∧ ∀ (l : Addr) (ys : List (Addr × List (Addr × List Int))) (H' : Hp), Same H H' → FL H' l (msOf ps) ys → Q (.ref l) H'
theorem scCt : FnScope ["_law_clips", "_law_found", "_law_clip", "_law_more", "_law_strips", "_law_last", "_law_steps"] ["_law_clips"] (defScope s__law_cuttings) := ⟨rfl, rfl, rfl, by decide +kernel, rfl, by decide +kernel, by decide +kernel⟩
theorem ok_cut {f : Addr} {fd : FuncData} (F : Fun K "_law_cuttings" "_law_cuttings" s__law_cuttings f fd) (n_len : mg "len" = none) (n_abs : mg "abs" = none) : FnOk P w K mg base CX0 1 f fd ["_law_clips"] spCut := by
  refine F.ok scCt (fun vs H Q E h => ?_) (fun cdv A outer s H vs Q E hr h => ?_)
  · obtain ⟨pc, ps, rfl, _⟩ := h
    rfl
  obtain ⟨pc, ps, rfl, sl, hn1, hn8, q⟩ := h
  refine useQ (ss_cons (s_set (i := 1) scCt.nd (e_lst (a_cons (e_lst (a_cons (e_lst (a_cons (e_ix ix_tup (e_ix ix_list (e_v 0) e_int) e_int) a_nil)) a_nil)) a_nil)))
    (ss_cons (s_for PassesOwn.never rfl (i_list (e_sl sl_list (e_v 0) (o_some e_int) o_none)) (g_name (i := 2) scCt.nd)
      (ss_cons (s_set (i := 3) scCt.nd (e_lst a_nil))
      (ss_cons (s_for PassesOwn.never rfl (i_list (e_v 1)) (g_name (i := 4) scCt.nd)
        (ss_cons (s_cut (s_expr (e_append (e_v 3) (e_op op_cat (e_v 4) (e_lst (a_cons (e_lst (a_cons (e_ix ix_tup (e_v 2) e_int) a_nil)) a_nil))))))
        (ss_cons (s_set (i := 5) scCt.nd (e_ix ix_list (e_v 4) (e_un un_neg e_int)))
        (ss_cons (s_set (i := 6) scCt.nd (e_lst (a_cons (e_op op_sub (e_ix ix_tup (e_v 2) e_int) (e_ix ix_list (e_v 5) (e_un un_neg e_int))) a_nil)))
        (ss_cons (s_cut (s_if (t_cmp op_gt (e_b call_len_seq n_len PySem.boot_len (a_cons (e_v 5) a_nil)) e_int)
          (ss_one (s_expr (e_append (e_v 6) (e_op op_sub (e_ix ix_list (e_v 5) e_int) (e_ix ix_list (e_v 5) e_int)))))
          ss_nil))
        (ss_one (s_if (t_w (w_and (t_cmp op_eq (e_ix ix_tup (e_v 2) e_int) e_int) (w_and (t_cmp op_eq (e_ix ix_list (e_v 6) e_int) (e_ix ix_list (e_v 6) (e_un un_neg e_int))) (w_and1 (t_cmp op_eq (e_b call_abs n_abs (by decide +kernel) (a_cons (e_ix ix_list (e_v 6) e_int) a_nil)) e_int)))))
          (ss_one (s_expr (e_append (e_v 3) (e_op op_cat (e_sl sl_list (e_v 4) o_none (o_some (e_un un_neg e_int))) (e_lst (a_cons (e_op op_cat (e_v 5) (e_lst (a_cons (e_ix ix_tup (e_v 2) e_int) a_nil))) a_nil))))))
          ss_nil)))))))
      (ss_one (s_set (i := 1) scCt.nd (e_v 3))))))
    (ss_one (s_ret (e_v 1))))) ?_
  have zl : sizeLine = 16777216 := sizeLine_eq
  obtain ⟨c0, cs, rfl⟩ : ∃ c0 cs, ps = c0 :: cs := by
    cases ps with
    | nil => simp at hn1
    | cons a b => exact ⟨a, b, rfl⟩
  have hc0 := sl.2 c0 (by simp)
  refine ⟨_, rfl, pc, _, _, .ref c0.1, rfl, rfl, SqL.of sl.1, atI_nat (j := 0) rfl, c0.1, _, _, .int c0.2.a, rfl, rfl, SqT.of hc0, atI_nat (j := 1) rfl, (by show 1 ≤ sizeLine; decide), fun p1 hp1 => ⟨(by show 1 ≤ sizeLine; decide), fun p2 hp2 => ⟨(by show 1 ≤ sizeLine; decide), fun p3 hp3 => ?_⟩⟩⟩
  have t1 := Same.new hp1 (.lst [V.int c0.2.a])
  have t2 := Same.new hp2 (.lst [V.ref p1])
  have t3 := Same.new hp3 (.lst [V.ref p2])
  have T3 := (t1.trans t2).trans t3
  refine ⟨_, rfl, _, rfl, pc, _, rfl, SqL.of (T3 _ _ sl.1), fun pd hpd => ?_⟩
  have t4 := Same.new hpd (.lst (cutV ((c0 :: cs).map fun x => V.ref x.1) (some 1) none))
  have ed : cutV ((c0 :: cs).map fun x => V.ref x.1) (some 1) none = cs.map fun x => V.ref x.1 := cut_drop (fun x : Addr × Clip => V.ref x.1) (c0 :: cs) 1
  have T4 := T3.trans t4
  have hpd4 : upd (upd (upd (upd H p1 (.lst [V.int c0.2.a])) p2 (.lst [V.ref p1])) p3 (.lst [V.ref p2])) pd (.lst (cutV ((c0 :: cs).map fun x => V.ref x.1) (some 1) none)) pd = some (.lst (cs.map fun x => V.ref x.1)) := by rw [upd_same, ed]
  have fl0 : FL (upd (upd (upd (upd H p1 (.lst [V.int c0.2.a])) p2 (.lst [V.ref p1])) p3 (.lst [V.ref p2])) pd (.lst (cutV ((c0 :: cs).map fun x => V.ref x.1) (some 1) none))) p3 (msOf ((c0 :: cs).take (0 + 1))) [(p2, [(p1, [c0.2.a])])] := by
    refine ⟨t4 _ _ upd_same, fun y hy => ?_⟩
    rw [List.mem_singleton.mp hy]
    refine ⟨⟨t4 _ _ (t3 _ _ upd_same), fun x hx => ?_⟩, ⟨.one (c0.2.a, c0.2.f), by simp, by simp [msOf], fun x hx => ?_⟩⟩
    · rw [List.mem_singleton.mp hx]
      exact t4 _ _ (t3 _ _ (t2 _ _ upd_same))
    · rw [List.mem_singleton.mp hx]
      exact ⟨by simp, by simp [msOf], UT.one _⟩
  generalize upd (upd (upd (upd H p1 (.lst [V.int c0.2.a])) p2 (.lst [V.ref p1])) p3 (.lst [V.ref p2])) pd (.lst (cutV ((c0 :: cs).map fun x => V.ref x.1) (some 1) none)) = H0 at T4 hpd4 fl0 ⊢
  have hlc : cs.length ≤ 7 := by simp at hn8; omega
  refine ⟨pd, rfl, ⟨_, SqL.of hpd4⟩, for_list (K := K) (a := pd) (xs := cs.map fun x => V.ref x.1) (fun i σ H' => ∃ (pf : Addr) (ys : List (Addr × List (Addr × List Int))) (o2 o3 o4 o5 o6 : Option V), σ = [some (.ref pc), some (.ref pf), o2, o3, o4, o5, o6] ∧ Same H0 H' ∧ FL H' pf (msOf ((c0 :: cs).take (i + 1))) ys ∧ ys.length ≤ 2 ^ i)
    ⟨p3, _, none, none, none, none, none, rfl, (fun _ _ h => h), fl0, by simp⟩ ?_ ?_ ?_⟩
  · rintro i σ H' _ ⟨pf, ys, o2, o3, o4, o5, o6, rfl, hS, _⟩
    exact SqL.of (hS _ _ hpd4)
  · rintro i x σ H' hx ⟨pf, ys, o2, o3, o4, o5, o6, rfl, hS, fl, hyl⟩
    rw [List.getElem?_map] at hx
    cases hc : cs[i]? with
    | none => rw [hc] at hx; cases hx
    | some c =>
      rw [hc] at hx
      cases hx
      have hi7 : i < 7 := by have := (List.getElem?_eq_some_iff.mp hc).1; omega
      have hct := hS _ _ (T4 _ _ (sl.2 c (List.mem_cons_of_mem _ (List.mem_of_getElem? hc))))
      have ems : msOf ((c0 :: cs).take (i + 1 + 1)) = msOf ((c0 :: cs).take (i + 1)) ++ [(c.2.a, c.2.f)] := by
        have : (c0 :: cs).take (i + 1 + 1) = (c0 :: cs).take (i + 1) ++ [c] := take_snoc (by simpa using hc)
        rw [this]
        unfold msOf
        rw [List.map_append]
        rfl
      have hml : (msOf ((c0 :: cs).take (i + 1))).length ≤ 8 := by
        unfold msOf
        rw [List.length_map, List.length_take]
        omega
      have hyl2 : ys.length ≤ 128 := Nat.le_trans hyl (Nat.pow_le_pow_right (by omega) (show i ≤ 7 by omega))
      generalize hms : msOf ((c0 :: cs).take (i + 1)) = ms at fl ems hml
      refine ⟨(by show 0 ≤ sizeLine; decide), fun pm hpm => ?_⟩
      have tm := Same.new hpm (.lst [])
      have fl1 := fl.same tm
      have hct1 := tm _ _ hct
      refine ⟨_, rfl, pf, rfl, ⟨_, SqL.of fl1.1⟩, for_list (K := K) (a := pf) (xs := ys.map fun y => V.ref y.1) (fun j σ H2 => ∃ (zs : List (Addr × List (Addr × List Int))) (o4 o5 o6 : Option V), σ = [some (.ref pc), some (.ref pf), some (.ref c.1), some (.ref pm), o4, o5, o6] ∧ FM H2 pm (ms ++ [(c.2.a, c.2.f)]) zs ∧ zs.length ≤ 2 * j ∧ Bt pm (upd H' pm (.lst [])) H2)
        ⟨[], _, _, _, rfl, ⟨⟨upd_same, fun y hy => nomatch hy⟩, fun y hy => nomatch hy⟩, Nat.zero_le _, Bt.refl _ _⟩ ?_ ?_ ?_⟩
      · rintro j σ H2 _ ⟨zs, o4, o5, o6, rfl, _, _, bt⟩
        exact SqL.of (bt _ _ (ne_of_none fl.1 hpm) fl1.1)
      · rintro j y σ H2 hy ⟨zs, o4, o5, o6, rfl, fz, hzl, bt⟩
        rw [List.getElem?_map] at hy
        cases hyj : ys[j]? with
        | none => rw [hyj] at hy; cases hy
        | some y =>
          rw [hyj] at hy
          cases hy
          have hym := List.mem_of_getElem? hyj
          have hjl : j < ys.length := (List.getElem?_eq_some_iff.mp hyj).1
          obtain ⟨ll, gc⟩ := fl.2 y hym
          have K1 : ∀ {b o}, H' b = some o → H2 b = some o := fun {b o} h => bt _ _ (ne_of_none h hpm) (tm _ _ h)
          have ll2 : LLs H2 y.1 y.2 := ⟨K1 ll.1, fun x hx => K1 (ll.2 x hx)⟩
          have hct2 := K1 hct
          have hyl1 := gc.le
          -- more.append(strips + [[clip[1]]])
          refine ⟨fun σ1 H3 => σ1 = [some (.ref pc), some (.ref pf), some (.ref c.1), some (.ref pm), some (.ref y.1), o5, o6] ∧ ∃ zs' : List (Addr × List (Addr × List Int)), FM H3 pm (ms ++ [(c.2.a, c.2.f)]) zs' ∧ zs'.length = zs.length + 1 ∧ Bt pm H2 H3, ?_, ?_⟩
          · refine ⟨_, rfl, .inl ⟨rfl, _, SqL.of fz.1.1⟩, _, rfl, _, rfl, c.1, _, _, .int c.2.a, rfl, rfl, SqT.of hct2, atI_nat (j := 1) rfl, (by show 1 ≤ sizeLine; decide), fun q1 hq1 => ⟨(by show 1 ≤ sizeLine; decide), fun q2 hq2 => ?_⟩⟩
            have u1 := Same.new hq1 (.lst [V.int c.2.a])
            have u2 := u1.trans (Same.new hq2 (.lst [V.ref q1]))
            refine ⟨y.1, q2, _, _, rfl, rfl, u2 _ _ ll2.1, upd_same, by rw [List.length_map]; show _ + 1 ≤ sizeLine; omega, fun q3 hq3 => ?_⟩
            have u3 := u2.trans (Same.new hq3 (.lst ((y.2.map fun x => V.ref x.1) ++ [V.ref q1])))
            have fz3 := fz.same u3
            refine ⟨pm, _, _, rfl, rfl, fz3.1.1, by rw [List.length_map]; omega, rfl, zs ++ [(q3, y.2 ++ [(q1, [c.2.a])])], ?_, by simp, (Bt.of u3).trans Bt.upd⟩
            have nq : ∀ {b : Addr} {o : HO}, H2 b = some o → ∀ {H9 : Hp}, Same H2 H9 → ∀ {q : Addr}, H9 q = none → q ≠ b := fun h _ s9 _ hq => Ne.symm (ne_of_none (s9 _ _ h) hq)
            have a3 : ∀ x ∈ y.2, x.1 ≠ pm := fun x hx => ne_of_none (ll.2 x hx) hpm
            refine fz3.push (y := (q3, y.2 ++ [(q1, [c.2.a])])) ⟨by rw [upd_same, List.map_append]; rfl, fun x hx => ?_⟩ (gc.new (c.2.a, c.2.f) q1) (nq fz.1.1 u2 hq3) fun x hx => ?_
            · rcases List.mem_append.mp hx with hx | hx
              · exact u3 _ _ (ll2.2 x hx)
              · rw [List.mem_singleton.mp hx]
                exact Same.new hq3 _ _ _ (Same.new hq2 _ _ _ upd_same)
            · rcases List.mem_append.mp hx with hx | hx
              · exact a3 x hx
              · rw [List.mem_singleton.mp hx]
                exact nq fz.1.1 (Same.refl _) hq1
          · rintro σ1 H3 ⟨rfl, zs', fz3, hzl3, bt3⟩
            have K2 : ∀ {b o}, H' b = some o → H3 b = some o := fun {b o} h => bt3 _ _ (ne_of_none h hpm) (K1 h)
            have ll3 : LLs H3 y.1 y.2 := ⟨K2 ll.1, fun x hx => K2 (ll.2 x hx)⟩
            have hct3 := K2 hct
            rcases snoc_cases y.2 with e0 | ⟨L, x, e0⟩
            · exact absurd e0 gc.ne
            have hxm : x ∈ y.2 := by rw [e0]; simp
            obtain ⟨x1, x2, x3⟩ := gc.all x hxm
            rcases snoc_cases x.2 with e1 | ⟨M, z, e1⟩
            · exact absurd e1 x1
            have hxl := ll3.2 x hxm
            have hyr : (y.2.map fun x => V.ref x.1) = (L.map fun x => V.ref x.1) ++ [V.ref x.1] := by rw [e0, List.map_append]; rfl
            have hxr : x.2.map V.int = M.map V.int ++ [V.int z] := by rw [e1, List.map_append]; rfl
            -- last = strips[-1]
            refine ⟨_, rfl, _, rfl, y.1, _, _, .ref x.1, rfl, rfl, SqL.of ll3.1, by rw [hyr]; exact atI_last _ _, ?_⟩
            -- steps = [clip[1] - last[-1]]
            refine ⟨_, rfl, c.1, _, _, .int c.2.a, rfl, rfl, SqT.of hct3, atI_nat (j := 1) rfl, _, rfl, _, rfl, x.1, _, _, .int z, rfl, rfl, SqL.of hxl, by rw [hxr]; exact atI_last _ _, _, _, rfl, rfl, (by show 1 ≤ sizeLine; decide), fun pt hpt => ?_⟩
            have v1 := Same.new hpt (.lst [V.int (c.2.a - z)])
            refine ⟨fun σ4 H4 => σ4 = [some (.ref pc), some (.ref pf), some (.ref c.1), some (.ref pm), some (.ref y.1), some (.ref x.1), some (.ref pt)] ∧ Same H3 H4 ∧ ∃ (sts T : List Int) (w' : Int), H4 pt = some (.lst (sts.map V.int)) ∧ sts[0]? = some (c.2.a - z) ∧ sts = T ++ [w'] ∧ ((x.2.length ≤ 1 ∧ w' = c.2.a - z) ∨ ∃ h : 1 < x.2.length, w' = x.2[1] - x.2[0]), ?_, ?_⟩
            · refine ⟨_, rfl, x.1, _, rfl, .inl (SqL.of (v1 _ _ hxl)), _, _, rfl, rfl, _, rfl, ?_⟩
              rw [List.length_map]
              refine ite2 (fun hz => ?_) (fun hz => ?_)
              · have hz : (1 : Int) < (x.2.length : Int) := of_decide_eq_true hz
                have h1l : 1 < x.2.length := by omega
                refine ⟨_, rfl, .inl ⟨rfl, _, SqL.of upd_same⟩, _, rfl, x.1, _, _, .int x.2[1], rfl, rfl, SqL.of (v1 _ _ hxl), atI_nat (j := 1) (get_int h1l), _, rfl, x.1, _, _, .int (x.2[0]'(by omega)), rfl, rfl, SqL.of (v1 _ _ hxl), atI_nat (j := 0) (get_int (by omega)), _, _, rfl, rfl, pt, _, _, rfl, rfl, upd_same, (by show 1 < sizeLine; decide), ?_⟩
                refine ⟨rfl, fun b o h => ?_, [c.2.a - z, x.2[1] - x.2[0]], [c.2.a - z], x.2[1] - x.2[0], by rw [upd_same]; rfl, rfl, rfl, .inr ⟨h1l, rfl⟩⟩
                rw [upd_ne (ne_of_none h hpt)]
                exact v1 _ _ h
              · have hz : ¬ (1 : Int) < (x.2.length : Int) := fun y => hz (decide_eq_true y)
                exact ⟨rfl, v1, [c.2.a - z], [], c.2.a - z, upd_same, rfl, rfl, .inl ⟨by omega, rfl⟩⟩
            · rintro σ4 H4 ⟨rfl, s4, sts, T, w', hst, hst0, hstT, hw⟩
              have hct4 := s4 _ _ hct3
              have fz4 := fz3.same s4
              have done : ∃ (zs : List (Addr × List (Addr × List Int))) (o4 o5 o6 : Option V), [some (V.ref pc), some (V.ref pf), some (V.ref c.1), some (V.ref pm), some (V.ref y.1), some (V.ref x.1), some (V.ref pt)] = [some (V.ref pc), some (V.ref pf), some (V.ref c.1), some (V.ref pm), o4, o5, o6] ∧ FM H4 pm (ms ++ [(c.2.a, c.2.f)]) zs ∧ zs.length ≤ 2 * (j + 1) ∧ Bt pm (upd H' pm (.lst [])) H4 :=
                ⟨zs', _, _, _, rfl, fz4, by omega, (bt.trans bt3).trans (Bt.of s4)⟩
              have hsr : sts.map V.int = T.map V.int ++ [V.int w'] := by rw [hstT, List.map_append]; rfl
              refine ⟨_, rfl, c.1, _, _, .int c.2.f, rfl, rfl, SqT.of hct4, atI_nat (j := 3) rfl, rfl, _, rfl, ?_⟩
              refine ite2 (fun hf => ?_) (fun _ => iteF done)
              have hf : c.2.f = 0 := V.int.inj (of_decide_eq_true hf)
              refine ⟨_, rfl, pt, _, _, .int (c.2.a - z), rfl, rfl, SqL.of hst, atI_nat (j := 0) (by rw [List.getElem?_map, hst0]; rfl), _, rfl, _, rfl, pt, _, _, .int w', rfl, rfl, SqL.of hst, by rw [hsr]; exact atI_last _ _, rfl, _, rfl, ?_⟩
              refine ite2 (fun hw2 => ?_) (fun _ => iteF done)
              have hw2 : c.2.a - z = w' := V.int.inj (of_decide_eq_true hw2)
              refine ⟨_, rfl, pt, _, _, .int (c.2.a - z), rfl, rfl, SqL.of hst, atI_nat (j := 0) (by rw [List.getElem?_map, hst0]; rfl), _, rfl, rfl, _, rfl, ?_⟩
              refine ite2 (fun ha => ?_) (fun _ => done)
              have ha1 : (c.2.a - z).natAbs = 1 := by
                have := V.int.inj (of_decide_eq_true ha)
                split at this <;> omega
              have ll4 : LLs H4 y.1 y.2 := ll3.same s4
              have hxl4 := s4 _ _ hxl
              refine ⟨_, rfl, .inl ⟨rfl, _, SqL.of fz4.1.1⟩, _, rfl, _, rfl, _, rfl, y.1, _, rfl, SqL.of ll4.1, fun q1 hq1 => ?_⟩
              have w1 := Same.new hq1 (.lst (cutV (y.2.map fun x => V.ref x.1) none (some (-1))))
              have eq1 : cutV (y.2.map fun x => V.ref x.1) none (some (-1)) = L.map fun x => V.ref x.1 := by rw [hyr]; exact cutInit _ _
              refine ⟨_, rfl, _, rfl, c.1, _, _, .int c.2.a, rfl, rfl, SqT.of (w1 _ _ hct4), atI_nat (j := 1) rfl, (by show 1 ≤ sizeLine; decide), fun q2 hq2 => ?_⟩
              have w2 := w1.trans (Same.new hq2 (.lst [V.int c.2.a]))
              refine ⟨x.1, q2, _, _, rfl, rfl, w2 _ _ hxl4, upd_same, by rw [List.length_map]; show _ + 1 ≤ sizeLine; omega, fun q3 hq3 => ⟨(by show 1 ≤ sizeLine; decide), fun q4 hq4 => ?_⟩⟩
              have w3 := w2.trans (Same.new hq3 (.lst (x.2.map V.int ++ [V.int c.2.a])))
              have w4 := w3.trans (Same.new hq4 (.lst [V.ref q3]))
              have hL : L.length ≤ 8 := by have := gc.le; rw [e0, List.length_append] at this; omega
              refine ⟨q1, q4, _, _, rfl, rfl, Same.new hq4 _ _ _ (Same.new hq3 _ _ _ (Same.new hq2 _ _ _ upd_same)), upd_same, by rw [eq1, List.length_map]; show _ + 1 ≤ sizeLine; omega, fun q5 hq5 => ?_⟩
              have w5 := w4.trans (Same.new hq5 (.lst (cutV (y.2.map fun x => V.ref x.1) none (some (-1)) ++ [V.ref q3])))
              have fz5 := fz4.same w5
              have nq : ∀ {H9 : Hp}, Same H4 H9 → ∀ {q : Addr}, H9 q = none → q ≠ pm := fun s9 _ hq => Ne.symm (ne_of_none (s9 _ _ fz4.1.1) hq)
              have gx : GoodC ms (L ++ [x]) := by rw [← e0]; exact gc
              have g5 := gx.ext e1 (c.2.a, c.2.f) q3 (by show c.2.f ≤ 0; omega) ha1 (fun h => by
                rcases hw with ⟨h1, _⟩ | ⟨_, h2⟩
                · omega
                · show c.2.a - z = _
                  rw [hw2, h2])
              refine ⟨pm, _, _, rfl, rfl, fz5.1.1, by rw [List.length_map]; omega, zs' ++ [(q5, L ++ [(q3, x.2 ++ [c.2.a])])], _, _, _, rfl, ?_, by rw [List.length_append]; simp; omega, ((bt.trans bt3).trans (Bt.of (s4.trans w5))).trans Bt.upd⟩
              refine fz5.push (y := (q5, L ++ [(q3, x.2 ++ [c.2.a])])) ⟨by rw [upd_same, eq1, List.map_append]; rfl, fun u hu => ?_⟩ g5 (nq w4 hq5) fun u hu => ?_
              · rcases List.mem_append.mp hu with hu | hu
                · exact w5 _ _ (ll4.2 u (by rw [e0]; simp [hu]))
                · rw [List.mem_singleton.mp hu]
                  show _ = some (HO.lst ((x.2 ++ [c.2.a]).map V.int))
                  rw [List.map_append]
                  exact Same.new hq5 _ _ _ (Same.new hq4 _ _ _ upd_same)
              · rcases List.mem_append.mp hu with hu | hu
                · exact ne_of_none (ll.2 u (by rw [e0]; simp [hu])) hpm
                · rw [List.mem_singleton.mp hu]
                  exact nq w2 hq3
      · rintro σ H2 ⟨zs, o4, o5, o6, rfl, fz, hzl, bt⟩
        refine ⟨_, rfl, pm, zs, _, _, _, _, _, rfl, fun b o h => ?_, by rw [ems]; exact fz.1, ?_⟩
        · have h' := hS _ _ h
          exact bt _ _ (ne_of_none h' hpm) (tm _ _ h')
        · rw [List.length_map] at hzl
          rw [Nat.pow_succ]
          omega
  · rintro σ H' ⟨pf, ys, o2, o3, o4, o5, o6, rfl, hS, fl, _⟩
    rw [List.length_map] at fl
    have e : (c0 :: cs).take (cs.length + 1) = c0 :: cs := List.take_of_length_le (by simp)
    rw [e] at fl
    exact ⟨_, rfl, q pf ys H' (T4.trans hS) fl⟩
end
end K26

set_option linter.all false
set_option maxRecDepth 100000
set_option maxHeartbeats 1000000
namespace K26
open PySem L2 G KS
section
variable {P : Program} {w : World} {K : PySem.W.Frag} {mg : Str → Option Value} {base : Heap}
theorem ShOk.cok {c : Clip} (h : ShOk 12 c) : COk 1000 12 c := by
  have hc : c.cnt = 1 := cnt_one h.e
  have := h.a0
  have := h.a1
  have e := h.e
  refine ⟨by rw [h.r]; decide, by rw [h.r]; decide +kernel, h.a0, h.a1, by omega, by omega, ?_, ?_, by omega⟩
  · rcases h.f with e | e <;> omega
  · rw [hc]
    rcases h.f with e | e <;> omega
theorem mom_shots : ∀ {ps : List (Addr × Clip)}, (∀ x ∈ ps, ShOk 12 x.2) → moments (ps.map (·.2)) = (msOf ps).map fun m => (⟨"r", m.1, m.2⟩ : Mo)
  | [], _ => rfl
  | x :: ps, h => by
    have hx := h x (List.mem_cons_self ..)
    rw [List.map_cons, moments_cons, mom_shots fun y hy => h y (List.mem_cons_of_mem _ hy)]
    have e : x.2 = ⟨"r", x.2.a, x.2.a, x.2.f⟩ := by
      cases hh : x.2 with
      | mk r a b f =>
        have h1 := hx.r
        have h2 := hx.e
        rw [hh] at h1 h2
        cases h1
        cases h2
        rfl
    rw [e, ms_one ⟨"r", x.2.a, x.2.f⟩]
    rfl
def spLaw (T : Addr) (K : PySem.W.Frag) : Sp := fun vs H Q _ => ∃ (a : Addr) (ns : List Int), vs = [.ref a] ∧ SqL K H a (ns.map V.int) ∧ ns.length ≤ 63 ∧ H T = some (.tbl #[]) ∧ ∀ H', Q (.bl true) H'
theorem scLaw : FnScope ["_law_script", "_law_cell_here", "_law_clips", "_law_spoil", "_law_found", "_law_need", "_law_strips"] ["_law_script"] (defScope s_law) := ⟨rfl, rfl, rfl, by decide +kernel, rfl, by decide +kernel, by decide +kernel⟩
theorem ok_law {f T : Addr} {fd : FuncData} (F : Fun K "law" "law" s_law f fd) (dShots : Def P w K mg base CX0 "_law_shots" 2 ["_law_cell_here"] spShots) (dStrips : Def P w K mg base CX0 "strips_of" 4 ["clips"] spStrips) (dNeeds : Def P w K mg base CX0 "needs" 6 ["strips", "spoil"] (spNeeds T))
    (dCut : Def P w K mg base CX0 "_law_cuttings" 1 ["_law_clips"] spCut) (dMost : Def P w K mg base CX0 "_law_most" 1 ["_law_strips", "_law_spoil"] spMost) (n_len : mg "len" = none) (n_list : mg "list" = none) : FnOk P w K mg base CX0 7 f fd ["_law_script"] (spLaw T K) := by
  refine F.ok scLaw (fun vs H Q E h => ?_) (fun cdv A outer s H vs Q E hr h => ?_)
  · obtain ⟨a, ns, rfl, _⟩ := h
    rfl
  obtain ⟨a, ns, rfl, hS, hn, hT, q⟩ := h
  refine useQ (ss_cons (s_for PassesOwn.never rfl (i_list (e_op op_cat (e_sl sl_list (e_v 0) o_none (o_some e_int)) (e_lst (a_cons e_int (a_cons e_int a_nil))))) (g_name (i := 1) scLaw.nd)
      (ss_cons (s_set (i := 2) scLaw.nd (e_call dShots hr pass0 (a_cons (e_v 1) a_nil)))
      (ss_cons (s_set (i := 3) scLaw.nd (e_op op_mod (e_op op_fdiv (e_op op_mod (e_v 1) e_int) e_int) e_int))
      (ss_cons (s_set (i := 4) scLaw.nd (e_call dStrips hr pass0 (a_cons (e_t call_list_of n_list (by decide +kernel) (a_cons (e_v 2) a_nil)) a_nil)))
      (ss_cons (s_set (i := 5) scLaw.nd (e_call dNeeds hr pass0 (a_cons (e_v 4) (a_cons (e_v 3) a_nil))))
      (ss_cons (s_if (t_w (w_or (t_cmp op_ne (e_b call_len_seq n_len PySem.boot_len (a_cons (e_v 5) a_nil)) e_int) (w_or1 (t_cmp op_ne (e_ix ix_tup (e_ix ix_list (e_v 5) e_int) e_int) e_str))))
        (ss_one (s_ret e_bl))
        ss_nil)
      (ss_one (s_for PassesOwn.never rfl (i_list (e_call dCut hr pass0 (a_cons (e_v 2) a_nil))) (g_name (i := 6) scLaw.nd)
        (ss_one (s_if (t_w (w_or (t_cmp op_lt (e_b call_len_seq n_len PySem.boot_len (a_cons (e_v 6) a_nil)) (e_b call_len_seq n_len PySem.boot_len (a_cons (e_v 4) a_nil))) (w_or1 (t_cmp op_lt (e_call dMost hr pass0 (a_cons (e_v 6) (a_cons (e_v 3) a_nil))) (e_ix ix_tup (e_ix ix_list (e_v 5) e_int) e_int)))))
          (ss_one (s_ret e_bl))
          ss_nil))))))))))
    (ss_one (s_ret e_bl))) ?_
  have zl : sizeLine = 16777216 := sizeLine_eq
  refine ⟨_, rfl, _, rfl, a, _, rfl, hS, fun p1 hp1 => ⟨(by show 2 ≤ sizeLine; decide), fun p2 hp2 => ?_⟩⟩
  obtain ⟨zs, ez, hzl⟩ := cut_ints ns none (some 10)
  have t1 := Same.new hp1 (.lst (cutV (ns.map V.int) none (some 10)))
  have t2 := t1.trans (Same.new hp2 (.lst [V.int 0, V.int 1]))
  refine ⟨p1, p2, _, _, rfl, rfl, Same.new hp2 _ _ _ upd_same, upd_same, by rw [ez, List.length_map]; show _ + 2 ≤ sizeLine; omega, fun pl hpl => ?_⟩
  have t3 := t2.trans (Same.new hpl (.lst (cutV (ns.map V.int) none (some 10) ++ [V.int 0, V.int 1])))
  have ex : cutV (ns.map V.int) none (some 10) ++ [V.int 0, V.int 1] = (zs ++ [0, 1]).map V.int := by rw [ez, List.map_append]; rfl
  refine ⟨pl, rfl, ⟨_, SqL.of upd_same⟩, for_list (K := K) (a := pl) (xs := (zs ++ [0, 1]).map V.int) (fun i σ H' => ∃ (o1 o2 o3 o4 o5 o6 : Option V), σ = [some (.ref a), o1, o2, o3, o4, o5, o6] ∧ H' pl = some (.lst ((zs ++ [0, 1]).map V.int)) ∧ TabOk T lamP lamQ H')
    ⟨none, none, none, none, none, none, rfl, by rw [upd_same, ex], (TabOk.new hT).same t3⟩ ?_ ?_ ?_⟩
  · rintro i σ H' _ ⟨o1, o2, o3, o4, o5, o6, rfl, hl, _⟩
    exact SqL.of hl
  · rintro i x σ H' hx ⟨o1, o2, o3, o4, o5, o6, rfl, hl, tab⟩
    rw [List.getElem?_map] at hx
    cases hc : (zs ++ [0, 1])[i]? with
    | none => rw [hc] at hx; cases hx
    | some c =>
      rw [hc] at hx
      cases hx
      refine ⟨_, rfl, c, rfl, fun lc ps H1 s1 hlc slc h2 h8 hsh => ?_⟩
      refine ⟨_, rfl, _, _, rfl, rfl, (by show (0 : Int) < 1000003; decide), _, _, rfl, rfl, ⟨by decide, by decide⟩, _, _, rfl, rfl, (by show (0 : Int) < 5; decide), ?_⟩
      refine ⟨_, rfl, lc, _, rfl, .inl (SqL.of slc.1), fun pc hpc => ?_⟩
      have s2 := Same.new hpc (.lst (ps.map fun x => V.ref x.1))
      have slc2 := slc.same s2
      refine ⟨pc, ps, 12, rfl, ⟨upd_same, fun x hx => ⟨slc2.2 x hx, (hsh x hx).cok⟩⟩, by omega, by omega, fun lf rs H3 s3 hlf slf ers => ?_⟩
      have em := mom_shots hsh
      rw [em] at ers
      have hab : ∀ x ∈ rs, x.2.reel = "r" ∧ 0 ≤ x.2.a ∧ x.2.a ≤ 12 ∧ 0 ≤ x.2.b ∧ x.2.b ≤ 12 := fun x hx => by
        have hm : x.2 ∈ stripsR ((msOf ps).map fun m => (⟨"r", m.1, m.2⟩ : Mo)) := by rw [← ers]; exact List.mem_map_of_mem hx
        refine ab_fold (fun c => c.reel = "r" ∧ 0 ≤ c.a ∧ c.a ≤ 12 ∧ 0 ≤ c.b ∧ c.b ≤ 12) (fun m s h1 h2 => ⟨h1.1, h1.2.1, h1.2.2.1, h2.2.1, h2.2.2.1⟩) _ [] (fun s hs => nomatch hs) (fun m hm => ?_) x.2 hm
        obtain ⟨k, hk, rfl⟩ := List.mem_map.mp hm
        unfold msOf at hk
        obtain ⟨y, hy, rfl⟩ := List.mem_map.mp hk
        have := (hsh y hy).a0
        have := (hsh y hy).a1
        exact ⟨rfl, by show 0 ≤ y.2.a; omega, by show y.2.a ≤ 12; omega, by show 0 ≤ y.2.a; omega, by show y.2.a ≤ 12; omega⟩
      have hrl : rs.length ≤ 8 := by
        have h1 := len_fold ((msOf ps).map fun m => (⟨"r", m.1, m.2⟩ : Mo)) []
        have h3 : (msOf ps).length = ps.length := by unfold msOf; rw [List.length_map]
        have h4 : rs.length = (stripsR ((msOf ps).map fun m => (⟨"r", m.1, m.2⟩ : Mo))).length := by rw [← ers, List.length_map]
        unfold stripsR at h4
        rw [List.length_map, h3, List.length_nil] at h1
        omega
      have hrn : rs.reverse ≠ [] := fun e => by
        have e2 : rs = [] := List.reverse_eq_nil_iff.mp e
        have h1 := strips_show (cs := ps.map (·.2)) (fun c hc => by
          obtain ⟨y, hy, rfl⟩ := List.mem_map.mp hc
          rcases (hsh y hy).f with e | e <;> omega)
        unfold strips at h1
        rw [em, ← ers, e2] at h1
        have h3 : (msOf ps).length = ps.length := by unfold msOf; rw [List.length_map]
        have h4 := congrArg List.length h1
        rw [List.length_map, h3] at h4
        have h5 : (moments (List.map (fun x : Addr × Clip => x.2) []).reverse).length = 0 := rfl
        rw [h5] at h4
        omega
      have S3 := (s1.trans s2).trans s3
      have hsp : 0 ≤ (c % 1000003) / 7 % 5 := Int.emod_nonneg _ (by decide)
      have sls : SLs H3 lf rs.reverse := ⟨slf.1, fun x hx => slf.2 x (List.mem_reverse.mp hx)⟩
      refine ⟨_, rfl, _, rfl, lf, rs.reverse, _, "r", rfl, sls, by rw [List.length_reverse]; omega, hrn, fun x hx => (hab x (List.mem_reverse.mp hx)).1, hsp, tab.same S3, fun D t prs m H5 bt5 tab5 hD ht pr hm => ?_⟩
      generalize hspo : (c % 1000003) / 7 % 5 = spoil at hsp pr ⊢
      obtain ⟨tps, hT3⟩ := (tab.same S3).at
      have K5 : ∀ {b : Addr} {us : List V}, H3 b = some (.lst us) → H5 b = some (.lst us) := fun {b us} h => bt5 _ _ (ne_of h hT3 (by intro y; cases y)) h
      have K5t : ∀ {b : Addr} {us : List V}, H3 b = some (.tup us) → H5 b = some (.tup us) := fun {b us} h => bt5 _ _ (ne_of h hT3 (by intro y; cases y)) h
      have hlf5 := K5 slf.1
      have slc5 : SLs H5 lc ps := ⟨K5 (s3 _ _ slc2.1), fun x hx => K5t (s3 _ _ (slc2.2 x hx))⟩
      have hl5 := K5 (S3 _ _ hl)
      refine ⟨_, rfl, D, _, rfl, .inl (SqL.of hD), rfl, _, rfl, ?_⟩
      refine iteN (by simp) ?_
      refine ⟨_, rfl, D, _, _, .ref t, rfl, rfl, SqL.of hD, atI_nat (j := 0) rfl, t, _, _, .str "r", rfl, rfl, SqT.of ht, atI_nat (j := 0) rfl, rfl, _, rfl, ?_⟩
      refine iteN (by simp) ?_
      refine ⟨_, rfl, lc, ps, rfl, slc5, by omega, h8, fun ly ys H6 s6 fl => ?_⟩
      have hml : (msOf ps).length = ps.length := by unfold msOf; rw [List.length_map]
      refine ⟨ly, rfl, ⟨_, SqL.of fl.1⟩, for_list (K := K) (a := ly) (xs := ys.map fun y => V.ref y.1) (fun j σ H7 => ∃ o6 : Option V, σ = [some (.ref a), some (.int c), some (.ref lc), some (.int spoil), some (.ref lf), some (.ref D), o6] ∧ Same H6 H7)
        ⟨o6, (by show [some (V.ref a), some (V.int c), some (V.ref lc), some (V.int (c % 1000003 / 7 % 5)), some (V.ref lf), some (V.ref D), o6] = _; rw [hspo]), fun _ _ h => h⟩ ?_ ?_ ?_⟩
      · rintro j σ H7 _ ⟨o6, rfl, s7⟩
        exact SqL.of (s7 _ _ fl.1)
      · rintro j y σ H7 hy ⟨o6, rfl, s7⟩
        rw [List.getElem?_map] at hy
        cases hyj : ys[j]? with
        | none => rw [hyj] at hy; cases hy
        | some y =>
          rw [hyj] at hy
          cases hy
          obtain ⟨ll, gc⟩ := fl.2 y (List.mem_of_getElem? hyj)
          have ll7 := ll.same s7
          have S7 := s6.trans s7
          have hgl := greedy_len (r := "r") gc.cut
          have hl1 : rs.length = (stripsR ((msOf ps).map fun m => (⟨"r", m.1, m.2⟩ : Mo))).length := by rw [← ers, List.length_map]
          have hl2 : (turnL (y.2.map (·.2))).length = y.2.length := by unfold turnL; rw [List.length_reverse, List.length_map, List.length_map]
          have hyle := gc.le
          refine ⟨_, rfl, y.1, _, rfl, .inl (SqL.of ll7.1), _, rfl, lf, _, rfl, .inl (SqL.of (S7 _ _ hlf5)), _, _, rfl, rfl, _, rfl, ?_⟩
          refine iteN (decide_eq_false ?_) ?_
          · rw [List.length_map, List.length_map, List.length_reverse]
            omega
          refine ⟨_, rfl, _, rfl, y.1, y.2, spoil, rfl, ll7, by omega, fun x hx => ⟨(gc.all x hx).1, by have := (gc.all x hx).2.1; omega⟩, fun M H8 s8 hM => ?_⟩
          refine ⟨_, rfl, D, _, _, .ref t, rfl, rfl, SqL.of (s8 _ _ (S7 _ _ hD)), atI_nat (j := 0) rfl, t, _, _, .int ((m : Nat) : Int), rfl, rfl, SqT.of (s8 _ _ (S7 _ _ ht)), atI_nat (j := 1) rfl, _, _, rfl, rfl, _, rfl, ?_⟩
          refine iteN (decide_eq_false ?_) ⟨_, rfl, s7.trans s8⟩
          obtain ⟨p, hp, rfl⟩ := hm
          obtain ⟨k, hk⟩ := List.mem_iff_getElem?.mp hp
          have hkl : k < rs.reverse.length := by
            have h1 := (List.getElem?_eq_some_iff.mp hk).1
            have h3 := pr.len
            rw [List.length_map] at h3
            omega
          have hz := List.getElem?_eq_getElem hkl
          have hzm := List.mem_reverse.mp (List.getElem_mem hkl)
          generalize rs.reverse[k] = z at hz hzm
          have hiv : (rs.reverse.map fun x => ivOf spoil x.2)[k]? = some (ivOf spoil z.2) := by rw [List.getElem?_map, hz]; rfl
          have hb := hab z hzm
          have hlo : (ivOf spoil z.2).lo ≤ (ivOf spoil z.2).hi := by
            unfold ivOf
            show (if z.2.b < z.2.a then z.2.b else z.2.a) ≤ (if z.2.a < z.2.b then z.2.b else z.2.a) + spoil
            split <;> split <;> omega
          have h1 := pr.many hiv hk hlo
          have e1 : (rs.reverse.map fun x => ivOf spoil x.2) = (rs.map (·.2)).reverse.map (ivOf spoil) := by rw [← List.map_reverse, List.map_map]; rfl
          rw [e1] at h1
          have h2' := want_le (ivOf spoil z.2).reel (ivOf spoil z.2).lo spoil hsp (rs.map (·.2))
          rw [ers] at h2'
          have h3 := greedy_few (r := "r") gc.cut _ (conv_hit (ivOf spoil z.2).lo spoil)
          rw [cnt_turn, List.filter_map, List.length_map] at h3
          have hlo0 : 0 ≤ (ivOf spoil z.2).lo ∧ (ivOf spoil z.2).lo ≤ 12 := by
            unfold ivOf
            show 0 ≤ (if z.2.b < z.2.a then z.2.b else z.2.a) ∧ (if z.2.b < z.2.a then z.2.b else z.2.a) ≤ 12
            split <;> omega
          have h4 := hM (ivOf spoil z.2).lo.toNat (by omega)
          have e4 : (((ivOf spoil z.2).lo.toNat : Nat) : Int) = (ivOf spoil z.2).lo := by omega
          rw [e4] at h4
          have e5 : (y.2.filter fun x => x.2.any (hitF (ivOf spoil z.2).lo spoil)).length = (y.2.filter ((fun l => l.any (hitX (ivOf spoil z.2).lo spoil)) ∘ fun x => x.2)).length := rfl
          rw [e5] at h4
          rw [ers] at h1
          omega
      · rintro σ H7 ⟨o6, rfl, s7⟩
        exact ⟨_, _, _, _, _, _, rfl, s7 _ _ (s6 _ _ hl5), tab5.same (s6.trans s7)⟩
  · rintro σ H' ⟨o1, o2, o3, o4, o5, o6, rfl, hl, tab⟩
    exact q H'
end
end K26

set_option linter.all false
set_option maxRecDepth 100000
set_option maxHeartbeats 4000000
namespace K26
open PySem L2 G
structure DsIn (K : PySem.W.Frag) (c T : Addr) : Prop where
  way : FunIn K "way_of" s_way_of
  nos : FunIn K "numbers_of" s_numbers_of
  num : FunIn K "_law_numbers" s__law_numbers
  can : FunIn K "can_have" s_can_have
  take : FunIn K "take_frame" s_take_frame
  strips : FunIn K "strips_of" s_strips_of
  least : FunIn K "least" s_least
  gr : FunIn K "greatest" s_greatest
  free : FunIn K "first_free" s_first_free
  put : FunIn K "put_end" s_put_end
  pr : FunT K "prints_for" s_prints_for c T
  needs : FunIn K "needs" s_needs
  shots : FunIn K "_law_shots" s__law_shots
  cut : FunIn K "_law_cuttings" s__law_cuttings
  most : FunIn K "_law_most" s__law_most
  law : FunIn K "law" s_law
structure NsIn (K : PySem.W.Frag) (t : Nat → Tok) : Prop where
  zlen : PySem.W.nsIn K mainGlobals "len" = some none
  zint : PySem.W.nsIn K mainGlobals "int" = some none
  zrng : PySem.W.nsIn K mainGlobals "range" = some none
  zabs : PySem.W.nsIn K mainGlobals "abs" = some none
  zmin : PySem.W.nsIn K mainGlobals "min" = some none
  zmax : PySem.W.nsIn K mainGlobals "max" = some none
  zlist : PySem.W.nsIn K mainGlobals "list" = some none
  zenum : PySem.W.nsIn K mainGlobals "enumerate" = some none
  zzip : PySem.W.nsIn K mainGlobals "zip" = some none
  zsort : PySem.W.nsIn K mainGlobals "sorted" = some none
theorem ns_mk {K : PySem.W.Frag}   
    (b0 : PySem.W.nsIn K mainGlobals "len" = some none) (b1 : PySem.W.nsIn K mainGlobals "int" = some none) (b2 : PySem.W.nsIn K mainGlobals "range" = some none) (b3 : PySem.W.nsIn K mainGlobals "abs" = some none) (b4 : PySem.W.nsIn K mainGlobals "min" = some none) (b5 : PySem.W.nsIn K mainGlobals "max" = some none) (b6 : PySem.W.nsIn K mainGlobals "list" = some none) (b7 : PySem.W.nsIn K mainGlobals "enumerate" = some none) (b8 : PySem.W.nsIn K mainGlobals "zip" = some none) (b9 : PySem.W.nsIn K mainGlobals "sorted" = some none) : ∃ t, NsIn K t := by
  exact ⟨fun i => [].getD i 0, b0, b1, b2, b3, b4, b5, b6, b7, b8, b9⟩
theorem all_mk {l : PySem.W.OpenLaw} {w : World} {K : PySem.W.Frag} {h : Heap} {mg : Str → Option Value} {fa : Addr} (X : K.In h) (G : h.Ns mainGlobals mg) (hfa : mg "law" = some (.ref fa)) {t : Nat → Tok} {c T : Addr} (D : DsIn K c T) (Z : NsIn K t) :
    ∃ fd : FuncData, (∀ (s : Shared) (v : Value), BindsTo s fd ⟨[v], []⟩ [("_law_script", v)]) ∧ ∀ base : Heap, K.In base → base.Ns mainGlobals mg → base.BuiltinsAt mg T → FnOk l.prog w K mg base CX0 7 fa fd ["_law_script"] (spLaw T K) := by
  have nlen := PySem.W.mg_none_of X G Z.zlen
  have nint := PySem.W.mg_none_of X G Z.zint
  have nrng := PySem.W.mg_none_of X G Z.zrng
  have nabs := PySem.W.mg_none_of X G Z.zabs
  have nmin := PySem.W.mg_none_of X G Z.zmin
  have nmax := PySem.W.mg_none_of X G Z.zmax
  have nlist := PySem.W.mg_none_of X G Z.zlist
  have nenum := PySem.W.mg_none_of X G Z.zenum
  have nzip := PySem.W.mg_none_of X G Z.zzip
  have nsort := PySem.W.mg_none_of X G Z.zsort
  obtain ⟨fl, fdl, al, FL⟩ := D.law
  have e := hfa.symm.trans (PySem.W.mg_of X G al)
  cases e
  refine ⟨fdl, fun s v => ?_, fun base kb _ hB => ?_⟩
  · obtain ⟨oc, od, kV, doc, pm, an, cdv, ct, osl, rfl, lk, hcd⟩ := FL.ex
    exact .of_eq rfl
  have C := PySem.W.codeHd_of_K kb D.pr.1
  have dWay : Def l.prog w K mg base CX0 "way_of" 1 ["clip"] spWay := Def.of X G D.way (fun f fd F => ok_way F) fun _ _ _ _ _ _ us hl => match us, hl with | [_], _ => rfl
  have dNos : Def l.prog w K mg base CX0 "numbers_of" 2 ["clip"] spFr := Def.of X G D.nos (fun f fd F => ok_nos F dWay nlist nrng) fun _ _ _ _ _ _ us hl => match us, hl with | [_], _ => rfl
  have dNum : Def l.prog w K mg base CX0 "_law_numbers" 1 ["_law_cell_here", "_law_many"] spNum := Def.of X G D.num (fun f fd F => ok_num F nabs nrng nint) fun _ _ _ _ _ _ us hl => match us, hl with | [_, _], _ => rfl
  have dCan : Def l.prog w K mg base CX0 "can_have" 2 ["strip", "reel", "number"] spCan := Def.of X G D.can (fun f fd F => ok_can F dWay nabs) fun _ _ _ _ _ _ us hl => match us, hl with | [_, _, _], _ => rfl
  have dTake : Def l.prog w K mg base CX0 "take_frame" 3 ["strips", "reel", "number"] spTake := Def.of X G D.take (fun f fd F => ok_take F dCan) fun _ _ _ _ _ _ us hl => match us, hl with | [_, _, _], _ => rfl
  have dStrips : Def l.prog w K mg base CX0 "strips_of" 4 ["clips"] spStrips := Def.of X G D.strips (fun f fd F => ok_strips F dNos dTake) fun _ _ _ _ _ _ us hl => match us, hl with | [_], _ => rfl
  have dLeast : Def l.prog w K mg base CX0 "least" 1 ["strip"] spLeast := Def.of X G D.least (fun f fd F => ok_least F nmin) fun _ _ _ _ _ _ us hl => match us, hl with | [_], _ => rfl
  have dGr : Def l.prog w K mg base CX0 "greatest" 1 ["strip"] spGr := Def.of X G D.gr (fun f fd F => ok_gr F nmax) fun _ _ _ _ _ _ us hl => match us, hl with | [_], _ => rfl
  have dFree : Def l.prog w K mg base CX0 "first_free" 1 ["ends", "frame"] spFree := Def.of X G D.free (fun f fd F => ok_free F nenum nlen) fun _ _ _ _ _ _ us hl => match us, hl with | [_, _], _ => rfl
  have dPut : Def l.prog w K mg base CX0 "put_end" 1 ["ends", "place", "end"] spPut := Def.of X G D.put (fun f fd F => ok_put F nlen) fun _ _ _ _ _ _ us hl => match us, hl with | [_, _, _], _ => rfl
  have dPr : Def l.prog w K mg base CX0 "prints_for" 5 ["strips", "spoil"] (spPr T) := Def.ofT X G D.pr (fun f fd F hc => ok_pr F hc C hB dLeast dGr dFree dPut nlen nsort nrng) fun _ _ _ _ _ _ us hl => match us, hl with | [_, _], _ => rfl
  have dNeeds : Def l.prog w K mg base CX0 "needs" 6 ["strips", "spoil"] (spNeeds T) := Def.of X G D.needs (fun f fd F => ok_needs F dPr nzip nmax nsort) fun _ _ _ _ _ _ us hl => match us, hl with | [_, _], _ => rfl
  have dShots : Def l.prog w K mg base CX0 "_law_shots" 2 ["_law_cell_here"] spShots := Def.of X G D.shots (fun f fd F => ok_shots F dNum nrng nmax nlen) fun _ _ _ _ _ _ us hl => match us, hl with | [_], _ => rfl
  have dCut : Def l.prog w K mg base CX0 "_law_cuttings" 1 ["_law_clips"] spCut := Def.of X G D.cut (fun f fd F => ok_cut F nlen nabs) fun _ _ _ _ _ _ us hl => match us, hl with | [_], _ => rfl
  have dMost : Def l.prog w K mg base CX0 "_law_most" 1 ["_law_strips", "_law_spoil"] spMost := Def.of X G D.most (fun f fd F => ok_most F nrng nmax nmin nlen) fun _ _ _ _ _ _ us hl => match us, hl with | [_, _], _ => rfl
  exact ok_law FL dShots dStrips dNeeds dCut dMost nlen nlist
end K26

set_option Elab.async false
set_option linter.all false
open PySem PySem.W PyProof.Rows
local macro_rules | `(tactic| walk_at "own def") => `(tactic| (dsimp only [L2.KOf]; (first | (refine' L2.funIn_mk ?a ?l ?c ?k; (case a => k_is); (case l => k_is); (case c => k_is); (case k => k_is)) | (refine' L2.funT_of ?a ?l ?c ?k ?e ?h; (case a => k_is); (case l => k_is); (case c => k_is); (case k => k_is); (case e => exact rfl); (case h => kernel_rfl)))))
set_option maxRecDepth 100000 in
set_option maxHeartbeats 0 in
theorem PySem.Challenge.cw_leadersplice_k26_whole_all_cuttings_holds : PySem.Challenge.rw_leadersplice_k26_whole_all_cuttings.Holds := by
  w_on; o_law; k_head; (case hw => w_witness2)
  k_fill
  refine L2.walk_ofT (c := 69) (T := 65) (l := PySem.Challenge.rw_leadersplice_k26_whole_all_cuttings) (n := 63) (k := 7) (x := "_law_script") (CX := L2.CX0) (sp := K26.spLaw 65) rfl (by decide) rfl ⟨rfl, by decide, by decide⟩ (fun w h Y => ⟨PySem.W.km_in_of Y, PySem.W.km_tabs_of Y 65 (List.mem_cons_self ..)⟩) ?P ?C ?F (fun K H a ns hl hS hT => ⟨a, ns, rfl, hS, hl, hT, fun _ => rfl⟩) (fun _ _ _ _ z => z)
  case P => exact fun w => by kernel_rfl
  case C => exact fun w => by kernel_rfl
  case F =>
    intro w mg fa h KX G hmg
    have D : K26.DsIn (L2.KOf KX) 69 65 := by
      refine ⟨?_, ?_, ?_, ?_, ?_, ?_, ?_, ?_, ?_, ?_, ?_, ?_, ?_, ?_, ?_, ?_⟩ <;> walk_at "own def"
    have Z : ∃ t, K26.NsIn (L2.KOf KX) t := by
      dsimp only [L2.KOf]
      refine' K26.ns_mk ?b0 ?b1 ?b2 ?b3 ?b4 ?b5 ?b6 ?b7 ?b8 ?b9
      (case b0 => k_is); (case b1 => k_is); (case b2 => k_is); (case b3 => k_is); (case b4 => k_is); (case b5 => k_is); (case b6 => k_is); (case b7 => k_is); (case b8 => k_is); (case b9 => k_is)
    obtain ⟨t, Z⟩ := Z
    exact K26.all_mk KX G hmg D Z
