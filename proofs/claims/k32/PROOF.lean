import PyProof.Rows.All
import Wide.All
import OpenK.AllK
import Wide.FinOn
import Lean
import PyProof.EqAt
import PyProof.EqKinds
import PyProof.TupleCall
import PyProof.StationsW
import OpenK.KCls
import OpenK.KDescr
import OpenK.KWalk
import PyProof.ExcAttrAll.ValueError
import OpenK.KMake
import PyProof.InstStoreFacts
import PyProof.ExcClass3
import PyProof.StrBlockI
import PyProof.StrBlock2
import PyProof.StrLawsIn
import PyProof.StrLawsIdx
import PyProof.Rows.ReprOcc
import KE.IntTextLaws
import PyProof.ListRange
import PyProof.Rows.Range3
import KE.KStateDown
import PyProof.MaxThree
import PyProof.Claim2
import PyProof.CompFree
import PyProof.CompUse
import PyProof.ListNew
import PyProof.WalksMore
import PyProof.ReprLoop
import KE.KRevIter
import PySem.PyData
import PyProof.SumAny
import PyProof.Rows.SumGenD
import PyProof.SeqI3
import PyProof.WalkInts
import PyProof.ZipIter
import KE.KRevSl
import KE.KxText
import PySem.Challenge.RW_leadersplice_k32_whole_rolls_show_the_fi
set_option Elab.async false
set_option Elab.async false
set_option linter.all false
set_option maxRecDepth 100000
/-! THE HAND LAYER, for ints, bools, texts, own classes, LISTS and tuples (index, slices, in, append, pop ..), calls, loops. Paste it whole ahead of your own text; what your proof does not reach may be deleted. -/
namespace L2
open PySem PySem.Spec PyProof.Rows

/-- a key: an int or a str -/
abbrev Key := Sum Int Str
def keyIs : Key → Value → Bool
  | .inl k, v => Value.isInt k v
  | .inr x, v => Value.isStrOf x v
def keyH (w : World) : Key → Int
  | .inl k => hashInt k
  | .inr x => hashStr w x
theorem keyIs_shape : ∀ {k : Key} {v : Value}, keyIs k v = true → (∃ i t, k = Sum.inl i ∧ v = Value.int i t) ∨ (∃ x t, k = Sum.inr x ∧ v = Value.str x t)
  | .inl i, v, h => by
    obtain ⟨t, e⟩ := Value.isInt_shape (k := i) (v := v) h
    exact .inl ⟨i, t, rfl, e⟩
  | .inr x, v, h => by
    obtain ⟨t, e⟩ := Value.isStrOf_shape (x := x) (v := v) h
    exact .inr ⟨x, t, rfl, e⟩
theorem key_ll (a b : Int) : decide ((Sum.inl a : Key) = Sum.inl b) = (a == b) := by
  by_cases e : a = b
  · subst e; simp
  · have h : ¬ (Sum.inl a : Key) = Sum.inl b := fun q => e (Sum.inl.inj q)
    rw [decide_eq_false h]
    exact (beq_eq_false_iff_ne.mpr e).symm
theorem key_rr (a b : Str) : decide ((Sum.inr a : Key) = Sum.inr b) = decide (a = b) := by
  by_cases e : a = b
  · subst e; simp
  · have h : ¬ (Sum.inr a : Key) = Sum.inr b := fun q => e (Sum.inr.inj q)
    rw [decide_eq_false h, decide_eq_false e]
theorem key_lr (a : Int) (b : Str) : decide ((Sum.inl a : Key) = Sum.inr b) = false := decide_eq_false (fun q => nomatch q)
theorem key_rl (a : Str) (b : Int) : decide ((Sum.inr a : Key) = Sum.inl b) = false := decide_eq_false (fun q => nomatch q)

def mixKind (prog : Program) (w : World) : PySem.KeyKind prog w Key where
  is := keyIs
  hash := keyH w
  inj := fun v a b ha hb => by
    rcases keyIs_shape ha with ⟨i, t, rfl, rfl⟩ | ⟨x, t, rfl, rfl⟩
    · rcases keyIs_shape hb with ⟨j, u, rfl, e⟩ | ⟨y, u, rfl, e⟩
      · injection e with e1 _; rw [e1]
      · exact nomatch e
    · rcases keyIs_shape hb with ⟨j, u, rfl, e⟩ | ⟨y, u, rfl, e⟩
      · exact nomatch e
      · injection e with e1 _; rw [e1]
  byValue := fun k v h => by
    rcases keyIs_shape h with ⟨i, t, rfl, rfl⟩ | ⟨x, t, rfl, rfl⟩ <;> rfl
  pyHash := fun hv h => by
    rcases keyIs_shape hv with ⟨i, t, rfl, rfl⟩ | ⟨x, t, rfl, rfl⟩
    · exact wpAny_pyHash_int h
    · exact wpAny_pyHash_str h
  eqBool := fun hu hv h => by
    rcases keyIs_shape hu with ⟨i, t, rfl, rfl⟩ | ⟨x, t, rfl, rfl⟩
    · rcases keyIs_shape hv with ⟨j, u, rfl, rfl⟩ | ⟨y, u, rfl, rfl⟩
      · rw [key_ll] at h; exact wpAny_eqBool_int h
      · rw [key_lr] at h; exact SeqAt.EqAt.int_str i t y u _ _ _ _ h
    · rcases keyIs_shape hv with ⟨j, u, rfl, rfl⟩ | ⟨y, u, rfl, rfl⟩
      · rw [key_rl] at h; exact SeqAt.EqAt.str_int x t j u _ _ _ _ h
      · rw [key_rr] at h; exact wpAny_eqBool_str h
  «strs» := fun k x t v h => by
    rcases keyIs_shape h with ⟨i, u, rfl, e⟩ | ⟨y, u, rfl, e⟩
    · exact nomatch e
    · injection e with e1 _
      subst e1
      cases v <;> rfl

end L2

namespace L2
open PySem PySem.Spec PyProof.Rows

/-- a value, without the heap -/
inductive V where
  | non | bl (b : Bool) | int (i : Int) | str (x : Str) | byt (b : Array UInt8) | flt (b : UInt64) | ref (a : Addr) | ty (n : String)
  deriving DecidableEq

def RelV : V → Value → Prop
  | .non, u => u = Value.none
  | .bl b, u => u = Value.bool b
  | .int i, u => ∃ t, u = Value.int i t
  | .str x, u => ∃ t, u = Value.str x t
  | .byt b, u => ∃ t, u = Value.bytes b t
  | .flt b, u => ∃ t, u = Value.float b t
  | .ref a, u => u = Value.ref a
  | .ty n, u => u = Value.type n

abbrev Vals : List V → List Value → Prop := Paired RelV
theorem Vals.length {xs : List V} {us : List Value} (r : Vals xs us) : xs.length = us.length := Paired.length r
theorem Vals.get : ∀ {xs : List V} {us : List Value} {i : Nat} {x : V}, Vals xs us → xs[i]? = some x → ∃ u, us[i]? = some u ∧ RelV x u
  | _, _, _, _, .nil, e => by simp at e
  | _, _, 0, _, .cons r _, e => by simp at e; subst e; exact ⟨_, rfl, r⟩
  | _, _, i + 1, x, .cons _ t, e => by
    obtain ⟨u, h1, h2⟩ := Vals.get (i := i) (x := x) t (by simpa using e)
    exact ⟨u, by simpa using h1, h2⟩
theorem Vals.set {x : V} {u : Value} (r : RelV x u) : ∀ {xs : List V} {us : List Value} (i : Nat), Vals xs us → Vals (xs.set i x) (us.set i u)
  | _, _, _, .nil => .nil
  | _, _, 0, .cons _ t => .cons r t
  | _, _, i + 1, .cons q t => .cons q (Vals.set r i t)
theorem Vals.append : ∀ {xs ys : List V} {us ws : List Value}, Vals xs us → Vals ys ws → Vals (xs ++ ys) (us ++ ws)
  | _, _, _, _, .nil, s => s
  | _, _, _, _, .cons r t, s => .cons r (Vals.append t s)
theorem Vals.take : ∀ {xs : List V} {us : List Value} (n : Nat), Vals xs us → Vals (xs.take n) (us.take n)
  | _, _, 0, _ => .nil
  | _, _, _ + 1, .nil => .nil
  | _, _, n + 1, .cons r t => .cons r (Vals.take n t)
theorem Vals.drop : ∀ {xs : List V} {us : List Value} (n : Nat), Vals xs us → Vals (xs.drop n) (us.drop n)
  | _, _, 0, r => r
  | _, _, _ + 1, .nil => .nil
  | _, _, n + 1, .cons _ t => Vals.drop n t
def RelO : Option V → Option Value → Prop
  | some v, some u => RelV v u
  | none, none => True
  | _, _ => False
def KV {κ : Type} : List (κ × V) → List (κ × Value) → Prop := Paired fun (p : κ × V) (q : κ × Value) => p.1 = q.1 ∧ RelV p.2 q.2

/-- a key of a dict (00_mix): an int or a text -/
def kV : Key → V
  | .inl i => .int i
  | .inr x => .str x

/-- what stands at a tracked address -/
inductive HO where
  /-- a list -/
  | lst (xs : List V)
  /-- a tuple (never changes) -/
  | tup (xs : List V)
  /-- a dict whose keys are ints and texts; one whose keys are tuples of ints and texts (the empty one is both) -/
  | dK (kvs : List (Key × V)) | dT (kvs : List (List Key × V))
  /-- a set of ints: its members, its size -/
  | set (S : Int → Bool) (n : Nat)
  /-- an instance of the class at C, its dict at dx, its attributes -/
  | ins (C dx : Addr) (fs : List (Str × V))
  /-- the dict of the instance at x -/
  | own (x : Addr)
  /-- the dict of an exception -/
  | xd (fs : List (Str × V))
  /-- a bound method, f of x -/
  | met (f x : Addr)
  /-- a range object lo, lo + 1, .. below hi -/
  | rng (lo hi : Int)
  /-- a thing that is known to the object (the script; a dict while a loop walks it): read, never written while it is so -/
  | frz (o : Obj) (u : HO)
  /-- a code object's table -/
  | tbl (ps : Array Value)
  /-- any other thing, by what is true of its one object (a def of one's own: SetO a S n := HO.ext fun h => ..) -/
  | ext (φ : Heap → Prop)

abbrev Hp := Addr → Option HO
def upd (H : Hp) (a : Addr) (o : HO) : Hp := fun b => if b = a then some o else H b
theorem upd_same {H : Hp} {a : Addr} {o : HO} : upd H a o a = some o := by unfold upd; rw [if_pos rfl]
theorem upd_ne {H : Hp} {a b : Addr} {o : HO} (h : b ≠ a) : upd H a o b = H b := by unfold upd; rw [if_neg h]
/-- two objects of different content stand apart -/
theorem ne_of {H : Hp} {a b : Addr} {o u : HO} (h : H a = some o) (h' : H b = some u) (d : o ≠ u) : a ≠ b := by
  intro e; subst e; rw [h] at h'; exact d (Option.some.inj h')
theorem ne_of_none {H : Hp} {a b : Addr} {o : HO} (h : H a = some o) (h' : H b = none) : a ≠ b := by
  intro e; subst e; rw [h] at h'; cases h'

section
variable (P : Program) (w : World)
def ObjOk (H : Hp) (h : Heap) (a : Addr) : HO → Prop
  | .lst xs => xs.length ≤ sizeLine ∧ ∃ (its : List Value) (n : Nat), Vals xs its ∧ h.get? a = some { cls := .type "list", data := .seq its.toArray n }
  | .tup xs => xs.length ≤ sizeLine ∧ ∃ its : List Value, Vals xs its ∧ IsTup h a its.toArray
  | .dK kvs => kvs.length ≤ sizeLine ∧ (a == sysModules) = false ∧ ∃ vs, KV kvs vs ∧ h.DictOf (mixKind P w) a vs
  | .dT kvs => kvs.length ≤ sizeLine ∧ (a == sysModules) = false ∧ ∃ xs : List (List Key × Addr × Value),
      Paired (fun (p : List Key × V) (q : List Key × Addr × Value) => p.1 = q.1 ∧ H q.2.1 = some (.tup (p.1.map kV)) ∧ RelV p.2 q.2.2) kvs xs ∧
      ∃ o es ep, h.get? a = some o ∧ o.ExactDict ∧ o.data = .dict es ep ∧ es.toList = xs.map (entryOfKey (tupleKind (mixKind P w))) ∧ (xs.map (·.1)).Nodup
  | .set S n => h.SetOf (intKind P w) a S n
  | .ins C dx fs => H dx = some (.own a) ∧ fs.length ≤ 1000 ∧ dx ≠ a ∧ h.get? a = some (PySem.W.instObj C dx) ∧
      ∃ mA, h.Ns1 dx mA ∧ (∀ f, RelO (fs.lookup f) (mA f)) ∧ PySem.Within mA (fs.map (·.1))
  | .own _ => ∃ o, h.get? a = some o
  | .xd fs => ∃ mA, h.Ns1 a mA ∧ ∀ f, RelO (fs.lookup f) (mA f)
  | .rng lo hi => ∃ t u v, h.get? a = some { cls := .type "range", data := .fields #[.int lo t, .int hi u, .int 1 v] }
  | .frz o u => h.get? a = some o ∧ ObjOk H h a u
  | .tbl ps => h.get? a = some { cls := .none, data := .fields ps }
  | .met f x => h.get? a = some (PySem.W.methodObj (.ref f) (.ref x))
  | .ext φ => φ h ∧ (∃ o, h.get? a = some o) ∧ ∀ h1 h2 : Heap, φ h1 → (∀ o, h1.get? a = some o → h2.get? a = some o) → φ h2
/-- the abstract heap is held -/
def HOk (H : Hp) (h : Heap) : Prop := ∀ a o, H a = some o → ObjOk P w H h a o
end

section
variable {P : Program} {w : World} {H H' : Hp} {h h' : Heap} {a : Addr} {o : HO}
theorem ObjOk.lt (x : ObjOk P w H h a o) : a < h.objs.size := by
  cases o with
  | lst xs => obtain ⟨_, _, _, _, e⟩ := x; exact Heap.lt_size e
  | tup xs => obtain ⟨_, _, _, p⟩ := x; exact p.lt
  | dK kvs => obtain ⟨_, _, _, _, o, _, _, e, _⟩ := x; exact Heap.lt_size e
  | dT kvs => obtain ⟨_, _, _, _, o, _, _, e, _⟩ := x; exact Heap.lt_size e
  | set S n => obtain ⟨o, _, _, _, e, _⟩ := x; exact Heap.lt_size e
  | ins C dx fs => obtain ⟨_, _, _, e, _⟩ := x; exact Heap.lt_size e
  | own y => obtain ⟨_, e⟩ := x; exact Heap.lt_size e
  | xd fs => obtain ⟨_, ⟨_, _, _, e, _⟩, _⟩ := x; exact Heap.lt_size e
  | rng lo hi => obtain ⟨_, _, _, e⟩ := x; exact Heap.lt_size e
  | frz ob u => obtain ⟨e, _⟩ := x; exact Heap.lt_size e
  | tbl ps => exact Heap.lt_size (show h.get? a = some _ from x)
  | met f y => exact Heap.lt_size (show h.get? a = some _ from x)
  | ext φ => obtain ⟨_, ⟨_, e⟩, _⟩ := x; exact Heap.lt_size e
theorem Paired.mapP {α β : Type} {F G : α → β → Prop} : ∀ {l₁ : List α} {l₂ : List β}, Paired F l₁ l₂ → (∀ a b, F a b → G a b) → Paired G l₁ l₂
  | _, _, .nil, _ => .nil
  | _, _, .cons r t, f => .cons (f _ _ r) (Paired.mapP t f)
/-- what an object's description leans on: its own object, its own dict, the tuples -/
theorem ObjOk.stay (x : ObjOk P w H h a o) (k : ∀ b u, (b = a ∨ H b = some (.own a)) → h.get? b = some u → h'.get? b = some u)
    (ho : ∀ b, H b = some (.own a) → H' b = some (.own a)) (ht : ∀ b xs, H b = some (.tup xs) → H' b = some (.tup xs)) : ObjOk P w H' h' a o := by
  induction o with
  | lst xs => obtain ⟨z, its, n, r, e⟩ := x; exact ⟨z, its, n, r, k _ _ (.inl rfl) e⟩
  | tup xs => obtain ⟨z, its, r, ob, e, c⟩ := x; exact ⟨z, its, r, ob, k _ _ (.inl rfl) e, c⟩
  | dK kvs => obtain ⟨z, y, vs, r, ob, es, ep, e, c⟩ := x; exact ⟨z, y, vs, r, ob, es, ep, k _ _ (.inl rfl) e, c⟩
  | dT kvs =>
    obtain ⟨z, y, xs, r, ob, es, ep, e, c⟩ := x
    exact ⟨z, y, xs, Paired.mapP r fun p q z => ⟨z.1, ht _ _ z.2.1, z.2.2⟩, ob, es, ep, k _ _ (.inl rfl) e, c⟩
  | set S n => obtain ⟨ob, es, ep, t, e, c⟩ := x; exact ⟨ob, es, ep, t, k _ _ (.inl rfl) e, c⟩
  | ins C dx fs =>
    obtain ⟨d, z, ne, e, mA, ⟨od, es, ep, e2, c⟩, r⟩ := x
    exact ⟨ho _ d, z, ne, k _ _ (.inl rfl) e, mA, ⟨od, es, ep, k _ _ (.inr d) e2, c⟩, r⟩
  | own y => obtain ⟨ob, e⟩ := x; exact ⟨ob, k _ _ (.inl rfl) e⟩
  | xd fs => obtain ⟨mA, ⟨od, es, ep, e, c⟩, r⟩ := x; exact ⟨mA, ⟨od, es, ep, k _ _ (.inl rfl) e, c⟩, r⟩
  | rng lo hi => obtain ⟨t, u, v, e⟩ := x; exact ⟨t, u, v, k _ _ (.inl rfl) e⟩
  | frz ob u ih => obtain ⟨e, q⟩ := x; exact ⟨k _ _ (.inl rfl) e, ih q⟩
  | tbl ps =>
    have e : h.get? a = some { cls := .none, data := .fields ps } := x
    show h'.get? a = some { cls := .none, data := .fields ps }
    exact k a _ (.inl rfl) e
  | met f y =>
    have e : h.get? a = some (PySem.W.methodObj (.ref f) (.ref y)) := x
    show h'.get? a = some (PySem.W.methodObj (.ref f) (.ref y))
    exact k a _ (.inl rfl) e
  | ext φ => obtain ⟨p, ⟨o, e⟩, st⟩ := x; exact ⟨st _ _ p fun o q => k _ _ (.inl rfl) q, ⟨o, k _ _ (.inl rfl) e⟩, st⟩
theorem HOk.lt (x : HOk P w H h) (e : H a = some o) : a < h.objs.size := (x a o e).lt
theorem HOk.fresh (x : HOk P w H h) (e : h.objs.size ≤ a) : H a = none := by
  cases q : H a with
  | none => rfl
  | some u => exact absurd (Nat.lt_of_lt_of_le (x.lt q) e) (Nat.lt_irrefl _)
/-- every object of the heap is kept -/
theorem HOk.kept (x : HOk P w H h) (k : ∀ b u, h.get? b = some u → h'.get? b = some u) : HOk P w H h' := fun a o e =>
  (x a o e).stay (fun b u _ q => k b u q) (fun _ q => q) fun _ _ q => q
/-- a new object is laid and tracked -/
theorem HOk.laid (x : HOk P w H h) (k : ∀ b u, h.get? b = some u → h'.get? b = some u) (hp : h.objs.size ≤ a) (new : ObjOk P w (upd H a o) h' a o) : HOk P w (upd H a o) h' := fun b u e => by
  have hn := x.fresh hp
  by_cases hb : b = a
  · subst hb; rw [upd_same] at e; cases e; exact new
  · rw [upd_ne hb] at e
    exact (x b u e).stay (fun c v _ q => k c v q) (fun c q => by rw [upd_ne (ne_of_none q hn)]; exact q) fun c xs q => by rw [upd_ne (ne_of_none q hn)]; exact q
end

/-- what may be read as u: it is u, or a known u -/
def Rd (H : Hp) (a : Addr) (u : HO) : Prop := H a = some u ∨ ∃ o, H a = some (.frz o u)
theorem Rd.ok {P : Program} {w : World} {H : Hp} {h : Heap} {a : Addr} {u : HO} (r : Rd H a u) (x : HOk P w H h) : ObjOk P w H h a u := by
  rcases r with r | ⟨o, r⟩
  · exact x a u r
  · obtain ⟨_, q⟩ := x a _ r
    exact q
/-- what may be written -/
def Mut : Option HO → Prop
  | some (.lst _) => True
  | some (.dK _) => True
  | some (.dT _) => True
  | some (.set _ _) => True
  | some (.ins _ _ _) => True
  | some (.ext _) => True
  | _ => False
section
variable {P : Program} {w : World} {H : Hp} {h h' : Heap} {x e : Addr} {o' : HO}
/-- the object at e is changed: x itself, or the dict of the instance x -/
theorem HOk.write (ok : HOk P w H h) (mu : Mut (H x)) (he : e = x ∨ H e = some (.own x)) (k : ∀ b u, b ≠ e → h.get? b = some u → h'.get? b = some u) (heo : ∃ u, h'.get? e = some u)
    (new : ObjOk P w (upd H x o') h' x o') : HOk P w (upd H x o') h' := fun b u q => by
  have nown : ∀ c y, H c = some (.own y) → c ≠ x := fun c y r z => by subst z; rw [r] at mu; exact mu
  have ntup : ∀ c xs, H c = some (.tup xs) → c ≠ x := fun c xs r z => by subst z; rw [r] at mu; exact mu
  by_cases hb : b = x
  · subst hb; rw [upd_same] at q; cases q; exact new
  · rw [upd_ne hb] at q
    by_cases hbe : b = e
    · have q' : H b = some (.own x) := by
        rcases he with z | z
        · exact absurd (hbe.trans z) hb
        · rw [hbe]; exact z
      rw [q] at q'; cases q'
      obtain ⟨v, hv⟩ := heo
      exact ⟨v, by rw [hbe]; exact hv⟩
    · refine (ok b u q).stay (fun c v hc r => k c v ?_ r) (fun c r => by rw [upd_ne (nown c b r)]; exact r) fun c xs r => by rw [upd_ne (ntup c xs r)]; exact r
      rcases hc with rfl | hc
      · exact hbe
      · rintro rfl
        rcases he with z | z
        · exact nown c b hc z
        · rw [hc] at z; cases z; exact hb rfl
end

/-! ### kept unless tracked; of the frames at fs (the callers') the slots may change (an exception that passes writes there); of the records at ex (iterators) nothing is said -/
structure Un (fs ex : List Addr) (H H' : Hp) (h h' : Heap) : Prop where
  keep : ∀ b o, h.get? b = some o → H b = none → b ∉ fs → b ∉ ex → h'.get? b = some o
  slot : ∀ b o, h.get? b = some o → H b = none → b ∈ fs → b ∉ ex → ∃ sl, h'.get? b = some { o with slots := sl }
  free : ∀ b o, h.get? b = some o → H b = none → b ∉ ex → H' b = none
  there : ∀ b o, h.get? b = some o → b ∉ ex → ∃ o', h'.get? b = some o'
  tups : ∀ b xs, H b = some (.tup xs) → H' b = some (.tup xs)
  frzs : ∀ b o u, H b = some (.frz o u) → H' b = some (.frz o u)
  tbls : ∀ b ps, H b = some (.tbl ps) → ∃ more, H' b = some (.tbl (ps ++ more))
section
variable {fs fs' ex ex' : List Addr} {H H1 H2 : Hp} {h h1 h2 h' : Heap} {a x e : Addr} {o : HO}
theorem Un.any (u : Un fs ex H H1 h h1) {b : Addr} {ob : Obj} (q : h.get? b = some ob) (n : H b = none) (hx : b ∉ ex) : ∃ sl, h1.get? b = some { ob with slots := sl } := by
  by_cases hb : b ∈ fs
  · exact u.slot b ob q n hb hx
  · exact ⟨ob.slots, u.keep b ob q n hb hx⟩
theorem Un.kept (k : ∀ b u, h.get? b = some u → h'.get? b = some u) : Un fs ex H H h h' :=
  ⟨fun b ob q _ _ _ => k b ob q, fun b ob q _ _ _ => ⟨ob.slots, k b ob q⟩, fun _ _ _ n _ => n, fun b ob q _ => ⟨ob, k b ob q⟩, fun _ _ q => q, fun _ _ _ q => q, fun _ ps q => ⟨#[], by rw [q]; simp⟩⟩
theorem Un.refl : Un fs ex H H h h := Un.kept fun _ _ q => q
theorem Un.laid (k : ∀ b u, h.get? b = some u → h'.get? b = some u) (hp : h.objs.size ≤ a) (hn : H a = none) : Un fs ex H (upd H a o) h h' where
  keep := fun b u q _ _ _ => k b u q
  slot := fun b u q _ _ _ => ⟨u.slots, k b u q⟩
  free := fun b u q n _ => by rw [upd_ne (Nat.ne_of_lt (Nat.lt_of_lt_of_le (Heap.lt_size q) hp))]; exact n
  there := fun b u q _ => ⟨u, k b u q⟩
  tups := fun b xs q => by rw [upd_ne (ne_of_none q hn)]; exact q
  frzs := fun b u xs q => by rw [upd_ne (ne_of_none q hn)]; exact q
  tbls := fun b ps q => ⟨#[], by rw [upd_ne (ne_of_none q hn), q]; simp⟩
theorem Un.write (mu : Mut (H x)) (he : e = x ∨ H e = some (.own x)) (k : ∀ b u, b ≠ e → h.get? b = some u → h'.get? b = some u) (heo : ∃ u, h'.get? e = some u) : Un fs ex H (upd H x o) h h' := by
  have hx : ∀ b, H b = none → b ≠ x := fun b n z => by subst z; rw [n] at mu; exact mu
  have hb : ∀ b, H b = none → b ≠ e := fun b n z => by
    subst z
    rcases he with r | r
    · exact hx b n r
    · rw [n] at r; cases r
  have hm : ∀ b u, H b = some u → ¬ Mut (some u) → b ≠ x := fun b u q nm z => by subst z; rw [q] at mu; exact nm mu
  refine ⟨fun b u q n _ _ => k b u (hb b n) q, fun b u q n _ _ => ⟨u.slots, k b u (hb b n) q⟩, fun b u q n _ => by rw [upd_ne (hx b n)]; exact n, fun b u q _ => ?_,
    fun b xs q => by rw [upd_ne (hm b _ q fun z => z)]; exact q, fun b u xs q => by rw [upd_ne (hm b _ q fun z => z)]; exact q, fun b ps q => ⟨#[], by rw [upd_ne (hm b _ q fun z => z), q]; simp⟩⟩
  by_cases hbe : b = e
  · subst hbe; exact heo
  · exact ⟨u, k b u hbe q⟩
end

/-! ### the heap without what is tracked -/
def trk (h : Heap) (H : Hp) : List Addr := (List.range h.objs.size).filter fun a => (H a).isSome
def hidT (h : Heap) (H : Hp) : Heap := PySem.W.hideAll h (trk h H)
theorem hidT_size (h : Heap) (H : Hp) : (hidT h H).objs.size = h.objs.size := PySem.W.hideAll_size _ _
theorem hidT_get {h : Heap} {H : Hp} {b : Addr} {o : Obj} (e : h.get? b = some o) (n : H b = none) : (hidT h H).get? b = some o :=
  PySem.W.hideAll_get _ e fun hm => by
    have q : (H b).isSome = true := (List.mem_filter.mp hm).2
    rw [n] at q; simp at q
theorem of_hidT {h : Heap} {H : Hp} {b : Addr} {o : Obj} (e : (hidT h H).get? b = some o) : h.get? b = some o ∧ H b = none := by
  have e' : h.get? b = some o := PySem.W.of_hideAll (trk h H) e
  refine ⟨e', ?_⟩
  cases q : H b with
  | none => rfl
  | some x =>
    have hm : b ∈ trk h H := List.mem_filter.mpr ⟨List.mem_range.mpr (Heap.lt_size e'), by simp [q]⟩
    have z : (hidT h H).get? b = none := PySem.W.hideAll_none (trk h H) hm
    rw [z] at e; cases e

/-! ### OpenK's ledger, filled with every new object but one -/
def allNews (g h : Heap) (L : Addr) : List (Addr × Obj) := (List.range h.objs.size).filterMap fun a => if a = L ∨ (g.get? a).isSome = true then none else (h.get? a).map fun o => (a, o)
def rest (g h : Heap) (L d : Addr) : List (Addr × Obj) := (allNews g h L).filter fun p => decide (p.1 ≠ d)
end L2

namespace L2
open PySem PySem.Spec PyProof.Rows

/-- the module's facts, over the base: the heap at the law's entry without what is tracked there -/
structure Mod (K : PySem.W.Frag) (mg : Str → Option Value) (base : Heap) : Prop where
  kin : K.In base
  glob : base.Ns mainGlobals mg
  blt : ∃ mb, base.Ns builtinsNs mb ∧ ∀ x : Str, x ≠ "__name__" → mb x = bootBuiltins x
  nolimit : base.NoLimit

/-- the context: a def's body (or a comprehension's block) running. base: fixed through the whole law; s₀, H₀: the entry; outer: the frames whose slots others may change (a def's callers); stack: all frames that run;
   ex: iterators that were made ahead of the entry and are walked here (a comprehension's); fn: the names whose cells were made at the entry (a def: all; a comprehension's block: its own); calm: not within an except suite; pn: pins that every state bears; xe: what is wanted of an exception that leaves the code -/
structure Cx where
  prog : Program
  w : World
  K : PySem.W.Frag
  mg : Str → Option Value
  base : Heap
  A : Around
  N : List Str
  s₀ : Shared
  H₀ : Hp
  env : Env
  outer : List Env
  stack : List Env
  ex : List Addr
  fn : Str → Bool
  calm : Bool
  pn : List (Addr × Obj)
  xe : Value → Shared → Prop
/-- the callers' frames -/
def frs (l : List Env) : List Addr := l.filterMap (·.frame)
abbrev Cx.fs (X : Cx) : List Addr := frs X.outer

def Vis (sc : Scope) (x : Str) : Prop := sc.names.lookup x = some .local ∨ sc.names.lookup x = some .cell ∨ sc.names.lookup x = some .free
def Loc (sc : Scope) (x : Str) : Prop := sc.names.lookup x = some .local ∨ sc.names.lookup x = some .cell
def Look (env : Env) (h : Heap) (m : Str → Option Value) (x : Str) (u : Value) : Prop :=
  (env.kindOf x = some .local ∧ m x = some u) ∨ ((env.kindOf x = some .cell ∨ env.kindOf x = some .free) ∧ ∃ c, env.cells.lookup x = some c ∧ h.IsCell c (some u))

structure Cx.Ok (X : Cx) : Prop where
  mod : Mod X.K X.mg X.base
  kind : X.env.scope.kind = .function
  glob : X.env.globals = mainGlobals
  blt : X.env.builtins = builtinsNs
  above : X.s₀.heap.objs.size ≤ X.env.locals
  inj : ∀ x y c, X.env.cells.lookup x = some c → X.env.cells.lookup y = some c → x = y
  has : ∀ x, (X.env.kindOf x = some .cell ∨ X.env.kindOf x = some .free) → ∃ c, X.env.cells.lookup x = some c
  cab : ∀ x c, X.fn x = true → X.env.cells.lookup x = some c → X.s₀.heap.objs.size ≤ c
  hd : X.calm = true → X.A.handled = none
  frames : X.A.frames = some X.stack
  stk : X.stack = X.outer ∨ (X.stack = X.env :: X.outer ∧ X.env.frame = some X.env.locals)
  exf : ∀ b ∈ X.ex, b ≠ X.env.locals ∧ ∀ x c, X.env.cells.lookup x = some c → c ≠ b
  bs : ∀ b o, X.base.get? b = some o → X.s₀.heap.get? b = some o ∧ X.H₀ b = none
  bsz : X.base.objs.size ≤ X.s₀.heap.objs.size
  noex : ∀ b o, X.base.get? b = some o → b ∉ X.ex
  exfs : ∀ b ∈ X.ex, b ∉ X.fs
  funs : X.s₀.heap.FunFrames X.base X.outer
  frf : ∀ b ∈ X.fs, X.H₀ b = none

structure Inv (X : Cx) (pins : List (Addr × Obj)) (σ : List (Option V)) (H : Hp) (s : Shared) : Prop where
  ok : X.Ok
  os : s.os = X.s₀.os
  bare : AllBare s.gens
  base : Un X.fs X.ex X.H₀ H X.s₀.heap s.heap
  loc : ∃ m, s.heap.Ns X.env.locals m ∧ ∀ (i : Nat) (x : Str) (v : V), X.N[i]? = some x → σ[i]? = some (some v) → Vis X.env.scope x → ∃ u, RelV v u ∧ Look X.env s.heap m x u
  cell : ∀ x c, X.env.cells.lookup x = some c → ∃ v, s.heap.IsCell c v
  free : H X.env.locals = none
  freeC : ∀ x c, X.env.cells.lookup x = some c → H c = none
  pin : ∀ p ∈ X.pn ++ pins, s.heap.get? p.1 = some p.2 ∧ H p.1 = none ∧ p.1 ≠ X.env.locals ∧ p.1 ∉ X.fs ∧ ∀ v, p.2.data ≠ .cell v
  hok : HOk X.prog X.w H s.heap
  len : σ.length = X.N.length

section
variable {X : Cx} {pins : List (Addr × Obj)} {σ : List (Option V)} {H H' : Hp} {s : Shared} {h' : Heap}

theorem Cx.Ok.nofr (ok : X.Ok) {b : Addr} {o : Obj} (e : X.base.get? b = some o) : b ∉ X.fs := fun hb => by
  have := (ok.funs.mem hb).1
  rw [e] at this; cases this
theorem Inv.bs (I : Inv X pins σ H s) : ∀ b o, X.base.get? b = some o → s.heap.get? b = some o ∧ H b = none := fun b o e =>
  ⟨I.base.keep b o (I.ok.bs b o e).1 (I.ok.bs b o e).2 (I.ok.nofr e) (I.ok.noex b o e), I.base.free b o (I.ok.bs b o e).1 (I.ok.bs b o e).2 (I.ok.noex b o e)⟩
theorem Inv.bk (I : Inv X pins σ H s) : ∀ b o, X.base.get? b = some o → s.heap.get? b = some o := fun b o e => (I.bs b o e).1
theorem Inv.mod (I : Inv X pins σ H s) : Mod X.K X.mg X.base := I.ok.mod
theorem Inv.kIn (I : Inv X pins σ H s) : X.K.In s.heap := I.ok.mod.kin.keeps I.bk
theorem Inv.lt (I : Inv X pins σ H s) : X.env.locals < s.heap.objs.size := let ⟨_, hn, _⟩ := I.loc; hn.lt
theorem Inv.sz (I : Inv X pins σ H s) : X.s₀.heap.objs.size ≤ s.heap.objs.size := Nat.le_trans I.ok.above (Nat.le_of_lt I.lt)
theorem Inv.nofs (I : Inv X pins σ H s) {a : Addr} (h : s.heap.objs.size ≤ a) : a ∉ X.fs := fun hb => by
  obtain ⟨_, o, ho, _⟩ := I.ok.funs.mem hb
  exact absurd (Nat.lt_of_lt_of_le (Heap.lt_size ho) (Nat.le_trans I.sz h)) (Nat.lt_irrefl _)
theorem Inv.cne (I : Inv X pins σ H s) : ∀ x c, X.env.cells.lookup x = some c → c ≠ X.env.locals := fun x c e z => by
  obtain ⟨v, o, ho, hd⟩ := I.cell x c e
  obtain ⟨m, ⟨o', es, ep, ho', hd', _⟩, _⟩ := I.loc
  rw [z, ho'] at ho; cases ho; rw [hd'] at hd; cases hd
theorem Inv.funs (I : Inv X pins σ H s) : s.heap.FunFrames X.base X.outer := by
  have all : ∀ (l : List Env), (∀ b ∈ frs l, b ∈ X.fs) → X.s₀.heap.FunFrames X.base l → s.heap.FunFrames X.base l := by
    intro l
    induction l with
    | nil => intro _ _; trivial
    | cons env r ih =>
      intro hs hl
      obtain ⟨hk, ⟨L, o, hf, hn, ho, hd⟩, hr⟩ := hl
      have hL : L ∈ X.fs := hs L (by unfold frs; rw [List.filterMap_cons, hf]; exact List.mem_cons_self)
      obtain ⟨sl, e⟩ := I.base.slot L o ho (I.ok.frf L hL) hL fun z => I.ok.exfs L z hL
      exact ⟨hk, ⟨L, _, hf, hn, e, hd⟩, ih (fun b hb => hs b (by unfold frs; rw [List.filterMap_cons, hf]; exact List.mem_cons_of_mem _ hb)) hr⟩
  exact all X.outer (fun _ hb => hb) I.ok.funs

/-- the frames that run, for a call -/
theorem Inv.stack (I : Inv X pins σ H s) : s.heap.FunFrames X.base X.stack := by
  rcases I.ok.stk with e | ⟨e, hf⟩
  · rw [e]; exact I.funs
  · rw [e]
    obtain ⟨m, hn, _⟩ := I.loc
    refine .cons (by rw [I.ok.kind]; decide) hf hn ?_ I.funs
    exact Heap.get?_none_of_le (Nat.le_trans I.ok.bsz I.ok.above)
theorem Inv.stkSub (I : Inv X pins σ H s) : ∀ b ∈ frs X.stack, b ∈ X.env.locals :: X.fs := fun b hb => by
  rcases I.ok.stk with e | ⟨e, hf⟩
  · rw [e] at hb; exact List.mem_cons_of_mem _ hb
  · rw [e] at hb
    unfold frs at hb
    rw [List.filterMap_cons, hf] at hb
    exact hb
theorem Inv.stkFree (I : Inv X pins σ H s) : ∀ b ∈ frs X.stack, H b = none := fun b hb => by
  rcases List.mem_cons.mp (I.stkSub b hb) with e | hb
  · rw [e]; exact I.free
  · obtain ⟨_, o, ho, _⟩ := I.ok.funs.mem hb
    exact I.base.free b o ho (I.ok.frf b hb) fun z => I.ok.exfs b z hb

/-- THE STEP: the untracked objects but the frame and the records at ch are kept (the callers' frames up to slots), the frame's map is kept, the new abstract heap is held -/
theorem Inv.step {g' : Array GenState} {t' : Nat} {d' : Drawn} {ch : List Addr} (I : Inv X pins σ H s)
    (hch : ∀ b ∈ ch, (b ∈ X.ex ∨ X.s₀.heap.objs.size ≤ b) ∧ b ≠ X.env.locals ∧ (∀ x c, X.env.cells.lookup x = some c → c ≠ b) ∧ ∀ p ∈ X.pn ++ pins, p.1 ≠ b)
    (keep : ∀ b o, b ≠ X.env.locals → b ∉ X.fs → b ∉ ch → s.heap.get? b = some o → H b = none → h'.get? b = some o)
    (slot : ∀ b o, b ≠ X.env.locals → b ∈ X.fs → b ∉ ch → s.heap.get? b = some o → H b = none → ∃ sl, h'.get? b = some { o with slots := sl }) (free : ∀ b o, b ∉ ch → s.heap.get? b = some o → H b = none → H' b = none)
    (there : ∀ b o, b ∉ ch → s.heap.get? b = some o → ∃ o', h'.get? b = some o')
    (tups : ∀ b xs, H b = some (.tup xs) → H' b = some (.tup xs)) (frzs : ∀ b o u, H b = some (.frz o u) → H' b = some (.frz o u)) (tbls : ∀ b ps, H b = some (.tbl ps) → ∃ more, H' b = some (.tbl (ps ++ more)))
    (ns : ∀ m, s.heap.Ns X.env.locals m → h'.Ns X.env.locals m) (hok : HOk X.prog X.w H' h') (hg : AllBare g') :
    Inv X pins σ H' { s with heap := h', gens := g', drawn := d', toks := t' } := by
  have neL : ∀ b o, X.s₀.heap.get? b = some o → b ≠ X.env.locals := fun b o e => Nat.ne_of_lt (Nat.lt_of_lt_of_le (Heap.lt_size e) I.ok.above)
  have neC : ∀ b o, X.s₀.heap.get? b = some o → b ∉ X.ex → b ∉ ch := fun b o e hx hb => by
    rcases (hch b hb).1 with z | z
    · exact hx z
    · exact absurd (Nat.lt_of_lt_of_le (Heap.lt_size e) z) (Nat.lt_irrefl _)
  have cellK : ∀ x c, X.env.cells.lookup x = some c → ∀ v, s.heap.IsCell c v → h'.IsCell c v := fun x c e v ⟨o, ho, hd⟩ => by
    have nch : c ∉ ch := fun z => (hch c z).2.2.1 x c e rfl
    by_cases hc : c ∈ X.fs
    · obtain ⟨sl, q⟩ := slot c o (I.cne x c e) hc nch ho (I.freeC x c e)
      exact ⟨_, q, hd⟩
    · exact ⟨o, keep c o (I.cne x c e) hc nch ho (I.freeC x c e), hd⟩
  refine ⟨I.ok, I.os, hg, ⟨fun b o e n hb hx => ?_, fun b o e n hb hx => ?_, fun b o e n hx => ?_, fun b o e hx => ?_, fun b xs e => tups b xs (I.base.tups b xs e), fun b o xs e => frzs b o xs (I.base.frzs b o xs e), fun b ps e => ?_⟩, ?_, fun x c e => ?_, ?_, fun x c e => ?_, fun p hp => ?_, hok, I.len⟩
  · exact keep b o (neL b o e) hb (neC b o e hx) (I.base.keep b o e n hb hx) (I.base.free b o e n hx)
  · obtain ⟨sl, e1⟩ := I.base.slot b o e n hb hx
    obtain ⟨sl', e2⟩ := slot b _ (neL b o e) hb (neC b o e hx) e1 (I.base.free b o e n hx)
    exact ⟨sl', e2⟩
  · obtain ⟨o', e1⟩ := I.base.there b o e hx
    exact free b o' (neC b o e hx) e1 (I.base.free b o e n hx)
  · obtain ⟨o', e1⟩ := I.base.there b o e hx
    exact there b o' (neC b o e hx) e1
  · obtain ⟨m1, e1⟩ := I.base.tbls b ps e
    obtain ⟨m2, e2⟩ := tbls b _ e1
    exact ⟨m1 ++ m2, by rw [e2, Array.append_assoc]⟩
  · obtain ⟨m, hn, hl⟩ := I.loc
    refine ⟨m, ns m hn, fun i x v e1 e2 e3 => ?_⟩
    obtain ⟨u, r, l⟩ := hl i x v e1 e2 e3
    refine ⟨u, r, ?_⟩
    rcases l with l | ⟨k, c, e, z⟩
    · exact .inl l
    · exact .inr ⟨k, c, e, cellK x c e _ z⟩
  · obtain ⟨v, z⟩ := I.cell x c e
    exact ⟨v, cellK x c e v z⟩
  · obtain ⟨m, ⟨o, _, _, ho, _⟩, _⟩ := I.loc
    exact free _ o (fun z => (hch _ z).2.1 rfl) ho I.free
  · obtain ⟨v, o, ho, hd⟩ := I.cell x c e
    exact free c o (fun z => (hch c z).2.2.1 x c e rfl) ho (I.freeC x c e)
  · obtain ⟨e, n, ne, nf, d⟩ := I.pin p hp
    have nch : p.1 ∉ ch := fun z => (hch p.1 z).2.2.2 p hp rfl
    exact ⟨keep p.1 p.2 ne nf nch e n, free p.1 p.2 nch e n, ne, nf, d⟩
/-- .. where the frame's own object is kept too -/
theorem Inv.un {t' : Nat} (I : Inv X pins σ H s) (u : Un X.fs [] H H' s.heap h') (hok : HOk X.prog X.w H' h') : Inv X pins σ H' { s with heap := h', toks := t' } := by
  obtain ⟨m, ⟨o, es, ep, ho, r⟩, _⟩ := id I.loc
  obtain ⟨sl, hL⟩ := u.any ho I.free (by simp)
  exact I.step (g' := s.gens) (d' := s.drawn) (ch := []) (fun _ z => nomatch z) (fun b o _ hb _ e n => u.keep b o e n hb (by simp)) (fun b o _ hb _ e n => u.slot b o e n hb (by simp)) (fun b o _ e n => u.free b o e n (by simp)) (fun b o _ e => u.there b o e (by simp)) u.tups u.frzs u.tbls (fun m' hm => by
    obtain ⟨o', es', ep', ho', r'⟩ := hm
    rw [ho] at ho'; cases ho'
    exact ⟨_, es', ep', hL, r'⟩) hok I.bare
/-- behind a call (or a comprehension's block): the slots of this frame may have changed too, the records at ch may have turned -/
theorem Inv.call {g' : Array GenState} {t' : Nat} {d' : Drawn} {ch : List Addr} (I : Inv X pins σ H s) (u : Un (frs X.stack) ch H H' s.heap h') (hok : HOk X.prog X.w H' h') (hg : AllBare g')
    (hch : ∀ b ∈ ch, (b ∈ X.ex ∨ X.s₀.heap.objs.size ≤ b) ∧ b ≠ X.env.locals ∧ (∀ x c, X.env.cells.lookup x = some c → c ≠ b) ∧ ∀ p ∈ X.pn ++ pins, p.1 ≠ b) :
    Inv X pins σ H' { s with heap := h', gens := g', drawn := d', toks := t' } := by
  obtain ⟨m, ⟨o, es, ep, ho, r⟩, _⟩ := id I.loc
  obtain ⟨sl, hL⟩ := u.any ho I.free fun z => (hch _ z).2.1 rfl
  exact I.step (ch := ch) hch (fun b o hL hb hc e n => u.keep b o e n (fun z => (List.mem_cons.mp (I.stkSub b z)).elim hL hb) hc) (fun b o _ _ hc e n => u.any e n hc) (fun b o hc e n => u.free b o e n hc) (fun b o hc e => u.there b o e hc) u.tups u.frzs u.tbls (fun m' hm => by
    obtain ⟨o', es', ep', ho', r'⟩ := hm
    rw [ho] at ho'; cases ho'
    exact ⟨_, es', ep', hL, r'⟩) hok hg
/-- an untracked record of ours (an iterator) has turned -/
theorem Inv.turned {t' : Nat} {it : Addr} (I : Inv X pins σ H s) (k : ∀ b o, b ≠ it → s.heap.get? b = some o → h'.get? b = some o) (hn : H it = none) (hL : it ≠ X.env.locals)
    (h1 : it ∈ X.ex ∨ X.s₀.heap.objs.size ≤ it) (h2 : ∀ x c, X.env.cells.lookup x = some c → c ≠ it) (h3 : ∀ p ∈ X.pn ++ pins, p.1 ≠ it) : Inv X pins σ H { s with heap := h', toks := t' } := by
  have nit : ∀ b u, H b = some u → b ≠ it := fun b u e z => by rw [z, hn] at e; cases e
  refine I.step (g' := s.gens) (d' := s.drawn) (ch := [it]) (fun b hb => ?_) (fun b o _ _ hc e _ => k b o (fun z => hc (by simp [z])) e) (fun b o _ _ hc e _ => ⟨o.slots, k b o (fun z => hc (by simp [z])) e⟩) (fun _ _ _ _ n => n)
    (fun b o hc e => ⟨o, k b o (fun z => hc (by simp [z])) e⟩) (fun _ _ e => e) (fun _ _ _ e => e) (fun b ps e => ⟨#[], by rw [e]; simp⟩) (fun m hm => ?_) (fun b u e => ?_) I.bare
  · have e : b = it := by simpa using hb
    subst e
    exact ⟨h1, hL, h2, h3⟩
  · obtain ⟨o, es, ep, ho, r⟩ := hm
    exact ⟨o, es, ep, k _ o (Ne.symm hL) ho, r⟩
  · refine (I.hok b u e).stay (fun c v hc q => k c v ?_ q) (fun _ q => q) fun _ _ q => q
    rcases hc with z | z
    · rw [z]; exact nit b u e
    · exact nit c _ z
theorem Inv.tok (I : Inv X pins σ H s) (t : Nat) : Inv X pins σ H { s with toks := t } := I.un (h' := s.heap) (t' := t) Un.refl I.hok
/-- all objects kept -/
theorem Inv.kept {t' : Nat} (I : Inv X pins σ H s) (k : ∀ b u, s.heap.get? b = some u → h'.get? b = some u) : Inv X pins σ H { s with heap := h', toks := t' } := I.un (Un.kept k) (I.hok.kept k)
/-- a new object laid and tracked -/
theorem Inv.laid {a : Addr} {o : HO} {t' : Nat} (I : Inv X pins σ H s) (k : ∀ b u, s.heap.get? b = some u → h'.get? b = some u) (hp : s.heap.objs.size ≤ a) (new : ObjOk X.prog X.w (upd H a o) h' a o) :
    Inv X pins σ (upd H a o) { s with heap := h', toks := t' } := I.un (Un.laid k hp (I.hok.fresh hp)) (I.hok.laid k hp new)
/-- an object written -/
theorem Inv.write {x e : Addr} {o : HO} {t' : Nat} (I : Inv X pins σ H s) (mu : Mut (H x)) (he : e = x ∨ H e = some (.own x)) (k : ∀ b u, b ≠ e → s.heap.get? b = some u → h'.get? b = some u) (heo : ∃ u, h'.get? e = some u)
    (new : ObjOk X.prog X.w (upd H x o) h' x o) : Inv X pins σ (upd H x o) { s with heap := h', toks := t' } := I.un (Un.write mu he k heo) (I.hok.write mu he k heo new)
theorem Inv.pins_of {pins' : List (Addr × Obj)} (I : Inv X pins σ H s) (h : ∀ p ∈ pins', s.heap.get? p.1 = some p.2 ∧ H p.1 = none ∧ p.1 ≠ X.env.locals ∧ p.1 ∉ X.fs ∧ ∀ v, p.2.data ≠ .cell v) : Inv X pins' σ H s :=
  ⟨I.ok, I.os, I.bare, I.base, I.loc, I.cell, I.free, I.freeC, fun p hp => (List.mem_append.mp hp).elim (fun z => I.pin p (List.mem_append_left _ z)) (h p), I.hok, I.len⟩

theorem nodup_ix {N : List Str} (hN : N.Nodup) {i j : Nat} {x : Str} (a : N[i]? = some x) (b : N[j]? = some x) : i = j := by
  obtain ⟨h1, e1⟩ := List.getElem?_eq_some_iff.mp a
  obtain ⟨h2, e2⟩ := List.getElem?_eq_some_iff.mp b
  exact (List.getElem_inj hN).mp (e1.trans e2.symm)

/-- a name is stored; what changed -/
theorem store_ok2 {M : Model} {A : Around} {E : Value → Shared → Prop} {i : Nat} {x : Str} {v : V} {u : Value} {Q : Unit → Shared → Prop} (I : Inv X pins σ H s) (hN : X.N.Nodup) (hi : X.N[i]? = some x) (hx : Loc X.env.scope x) (r : RelV v u)
    (h : ∀ s', Inv X pins (σ.set i (some v)) H s' → (∃ a, Heap.SameBut a s.heap s'.heap ∧ (a = X.env.locals ∨ X.env.cells.lookup x = some a)) → Q () s') (hf : X.fn x = true ∨ X.env.scope.names.lookup x = some .local := by first | exact .inl rfl | exact .inr rfl | assumption) : wpAny M A (storeName X.env x u) Q E s := by
  obtain ⟨m, hn, hl⟩ := id I.loc
  have hcls : (X.env.scope.kind == .class || (X.env.scope.kind == .module && X.env.locals != X.env.globals)) = false := by rw [I.ok.kind]; rfl
  have hiσ : i < σ.length := by rw [I.len]; exact (List.getElem?_eq_some_iff.mp hi).1
  have cne := I.cne
  have tracked : ∀ {a : Addr} {h' : Heap}, (∃ o, s.heap.get? a = some o ∧ H a = none) → Heap.SameBut a s.heap h' → HOk X.prog X.w H h' := fun {a h'} ha hs b ob e => by
    obtain ⟨_, _, hfree⟩ := ha
    refine (I.hok b ob e).stay (fun c w' hc q => (hs.2 c ?_).trans q) (fun _ q => q) fun _ _ q => q
    rintro rfl
    rcases hc with rfl | hc
    · rw [hfree] at e; cases e
    · rw [hfree] at hc; cases hc
  rcases hx with hk | hk
  · refine wpAny_storeName_local hk hn (fun h' hn' hs => ?_) hcls
    obtain ⟨oL, _, _, hoL, _⟩ := id hn
    refine h _ ⟨I.ok, I.os, I.bare, ⟨fun b o e n hb hx => ?_, fun b o e n hb hx => ?_, I.base.free, fun b o e hx => ?_, I.base.tups, I.base.frzs, I.base.tbls⟩, ⟨_, hn', fun j y v' e1 e2 e3 => ?_⟩, fun y c e => ?_, I.free, I.freeC, fun p hp => ?_, tracked ⟨oL, hoL, I.free⟩ hs, by simpa using I.len⟩ ⟨_, hs, .inl rfl⟩
    · exact (hs.2 b (Nat.ne_of_lt (Nat.lt_of_lt_of_le (Heap.lt_size e) I.ok.above))).trans (I.base.keep b o e n hb hx)
    · obtain ⟨sl, e1⟩ := I.base.slot b o e n hb hx
      exact ⟨sl, (hs.2 b (Nat.ne_of_lt (Nat.lt_of_lt_of_le (Heap.lt_size e) I.ok.above))).trans e1⟩
    · obtain ⟨o', e1⟩ := I.base.there b o e hx
      exact ⟨o', (hs.2 b (Nat.ne_of_lt (Nat.lt_of_lt_of_le (Heap.lt_size e) I.ok.above))).trans e1⟩
    · by_cases hj : j = i
      · subst hj
        rw [hi] at e1; cases e1
        rw [List.getElem?_set_self hiσ] at e2
        cases e2
        exact ⟨u, r, .inl ⟨hk, by simp⟩⟩
      · rw [List.getElem?_set_ne (Ne.symm hj)] at e2
        obtain ⟨u', r', q⟩ := hl j y v' e1 e2 e3
        refine ⟨u', r', ?_⟩
        rcases q with ⟨k, e⟩ | ⟨k, c, e, z⟩
        · refine .inl ⟨k, ?_⟩
          have : y ≠ x := fun e => hj (nodup_ix hN e1 (e ▸ hi))
          simp [this, e]
        · exact .inr ⟨k, c, e, z.sameBut hs (cne y c e)⟩
    · obtain ⟨w', z⟩ := I.cell y c e
      exact ⟨w', z.sameBut hs (cne y c e)⟩
    · obtain ⟨e, n, ne, nf, d⟩ := I.pin p hp
      exact ⟨(hs.2 p.1 ne).trans e, n, ne, nf, d⟩
  · have hfn : X.fn x = true := by
      rcases hf with z | z
      · exact z
      · rw [z] at hk; cases hk
    obtain ⟨c, hc⟩ := I.ok.has x (.inl hk)
    obtain ⟨w', z⟩ := I.cell x c hc
    refine wpAny_storeName_cell I.ok.kind hk hc z (fun h' hc' hs => ?_)
    obtain ⟨oc, hoc, hocd⟩ := id z
    refine h { s with heap := h' } ⟨I.ok, I.os, I.bare, ⟨fun b o e n hb hx => ?_, fun b o e n hb hx => ?_, I.base.free, fun b o e hx => ?_, I.base.tups, I.base.frzs, I.base.tbls⟩, ⟨m, hn.sameBut hs (Ne.symm (cne x c hc)), fun j y v' e1 e2 e3 => ?_⟩, fun y c' e => ?_, I.free, I.freeC, fun p hp => ?_, tracked ⟨oc, hoc, I.freeC x c hc⟩ hs, by simpa using I.len⟩ ⟨c, hs, .inr hc⟩
    · exact (hs.2 b (Nat.ne_of_lt (Nat.lt_of_lt_of_le (Heap.lt_size e) (I.ok.cab x c hfn hc)))).trans (I.base.keep b o e n hb hx)
    · obtain ⟨sl, e1⟩ := I.base.slot b o e n hb hx
      exact ⟨sl, (hs.2 b (Nat.ne_of_lt (Nat.lt_of_lt_of_le (Heap.lt_size e) (I.ok.cab x c hfn hc)))).trans e1⟩
    · obtain ⟨o', e1⟩ := I.base.there b o e hx
      exact ⟨o', (hs.2 b (Nat.ne_of_lt (Nat.lt_of_lt_of_le (Heap.lt_size e) (I.ok.cab x c hfn hc)))).trans e1⟩
    · by_cases hj : j = i
      · subst hj
        rw [hi] at e1; cases e1
        rw [List.getElem?_set_self hiσ] at e2
        cases e2
        exact ⟨u, r, .inr ⟨.inl hk, c, hc, hc'⟩⟩
      · rw [List.getElem?_set_ne (Ne.symm hj)] at e2
        obtain ⟨u', r', q⟩ := hl j y v' e1 e2 e3
        refine ⟨u', r', ?_⟩
        rcases q with q | ⟨k, c', e, z'⟩
        · exact .inl q
        · refine .inr ⟨k, c', e, z'.sameBut hs ?_⟩
          rintro rfl
          exact hj (nodup_ix hN e1 (I.ok.inj _ _ _ e hc ▸ hi))
    · by_cases hcc : c' = c
      · subst hcc; exact ⟨_, hc'⟩
      · obtain ⟨w2, z2⟩ := I.cell y c' e
        exact ⟨w2, z2.sameBut hs hcc⟩
    · obtain ⟨e, n, ne, nf, d⟩ := I.pin p hp
      refine ⟨(hs.2 p.1 ?_).trans e, n, ne, nf, d⟩
      intro q
      rw [q, hoc] at e
      have q' : oc = p.2 := Option.some.inj e
      exact d w' (by rw [← q']; exact hocd)
theorem store_ok {M : Model} {A : Around} {E : Value → Shared → Prop} {i : Nat} {x : Str} {v : V} {u : Value} {Q : Unit → Shared → Prop} (I : Inv X pins σ H s) (hN : X.N.Nodup) (hi : X.N[i]? = some x) (hx : Loc X.env.scope x) (r : RelV v u)
    (h : ∀ s', Inv X pins (σ.set i (some v)) H s' → Q () s') (hf : X.fn x = true ∨ X.env.scope.names.lookup x = some .local := by first | exact .inl rfl | exact .inr rfl | assumption) : wpAny M A (storeName X.env x u) Q E s :=
  store_ok2 I hN hi hx r (fun s' I' _ => h s' I') hf
/-- behind a call or a block, the state as it is -/
theorem Inv.call' {s' : Shared} {ch : List Addr} (I : Inv X pins σ H s) (ho : s'.os = s.os) (u : Un (frs X.stack) ch H H' s.heap s'.heap) (hok : HOk X.prog X.w H' s'.heap) (hg : AllBare s'.gens)
    (hch : ∀ b ∈ ch, (b ∈ X.ex ∨ X.s₀.heap.objs.size ≤ b) ∧ b ≠ X.env.locals ∧ (∀ x c, X.env.cells.lookup x = some c → c ≠ b) ∧ ∀ p ∈ X.pn ++ pins, p.1 ≠ b) : Inv X pins σ H' s' := by
  obtain ⟨h', g', d', t', o'⟩ := s'
  have e : o' = s.os := ho
  subst e
  exact I.call (g' := g') (t' := t') (d' := d') u hok hg hch
end

/-! ### the judgements -/
/-- an exception: its class, its own dict's address (where it has one), the abstract heap behind it -/
abbrev XK := Value → Option Addr → Hp → Prop
abbrev St := List (Option V)
abbrev VK := V → Hp → Prop
/-- an expression's reading; a test's; an argument list's -/
abbrev TE := St → Hp → VK → Prop
abbrev TT := St → Hp → (Bool → Hp → Prop) → Prop
abbrev TA := St → Hp → (List V → Hp → Prop) → Prop
/-- what is wanted behind a statement -/
structure Ends where
  nx : St → Hp → Prop
  rt : VK
  bk : St → Hp → Prop := fun _ _ => False
  ct : St → Hp → Prop := fun _ _ => False
abbrev TS := Ends → St → Hp → Prop

def EP (X : Cx) (pins : List (Addr × Obj)) (σ : St) (Q : VK) (u : Value) (s' : Shared) : Prop := ∃ v H', Inv X pins σ H' s' ∧ RelV v u ∧ Q v H'
def TP (X : Cx) (pins : List (Addr × Obj)) (σ : St) (Q : Bool → Hp → Prop) (b : Bool) (s' : Shared) : Prop := ∃ H', Inv X pins σ H' s' ∧ Q b H'
def AP (X : Cx) (pins : List (Addr × Obj)) (σ : St) (Q : List V → Hp → Prop) (us : List Value) (s' : Shared) : Prop := ∃ vs H', Inv X pins σ H' s' ∧ Vals vs us ∧ Q vs H'
def SP (X : Cx) (pins : List (Addr × Obj)) (D : Ends) (f : Flow) (s' : Shared) : Prop :=
  match f with
  | .next => ∃ σ' H', Inv X pins σ' H' s' ∧ D.nx σ' H'
  | .brk => ∃ σ' H', Inv X pins σ' H' s' ∧ D.bk σ' H'
  | .cont => ∃ σ' H', Inv X pins σ' H' s' ∧ D.ct σ' H'
  | .ret u => ∃ v σ' H', Inv X pins σ' H' s' ∧ RelV v u ∧ D.rt v H'

def PE (X : Cx) (e : Expr) (t : TE) : Prop :=
  ∀ (pins : List (Addr × Obj)) (s : Shared) (σ : St) (H : Hp) (Q : VK), Inv X pins σ H s → t σ H Q → wpAny (model X.prog X.w) X.A (eval e X.env) (EP X pins σ Q) X.xe s
def PT (X : Cx) (e : Expr) (t : TT) : Prop :=
  ∀ (pins : List (Addr × Obj)) (s : Shared) (σ : St) (H : Hp) (Q : Bool → Hp → Prop), Inv X pins σ H s → t σ H Q → wpAny (model X.prog X.w) X.A (isTrue e X.env (eval e X.env)) (TP X pins σ Q) X.xe s
/-- a test whatever its 'whole' is (and, or) -/
def PW (X : Cx) (e : Expr) (t : TT) : Prop :=
  ∀ (whole : Sem Value) (pins : List (Addr × Obj)) (s : Shared) (σ : St) (H : Hp) (Q : Bool → Hp → Prop), Inv X pins σ H s → t σ H Q → wpAny (model X.prog X.w) X.A (isTrue e X.env whole) (TP X pins σ Q) X.xe s
theorem PW.pt {X : Cx} {e : Expr} {t : TT} (h : PW X e t) : PT X e t := h _
/-- an argument list (no star), from the left -/
def PA (X : Cx) (es : List Expr) (t : TA) : Prop :=
  ∀ (pos : Pos) (pins : List (Addr × Obj)) (s : Shared) (σ : St) (H : Hp) (Q : List V → Hp → Prop), Inv X pins σ H s → t σ H Q → wpAny (model X.prog X.w) X.A (spliced (backTo pos (starEach es X.env))) (AP X pins σ Q) X.xe s
def PS (X : Cx) (st : Stmt) (t : TS) : Prop :=
  ∀ (pins : List (Addr × Obj)) (s : Shared) (σ : St) (H : Hp) (D : Ends), Inv X pins σ H s → t D σ H → wpAny (model X.prog X.w) X.A (exec st X.env) (SP X pins D) X.xe s
def PSs (X : Cx) (st : List Stmt) (t : TS) : Prop :=
  ∀ (pins : List (Addr × Obj)) (s : Shared) (σ : St) (H : Hp) (D : Ends), Inv X pins σ H s → t D σ H → wpAny (model X.prog X.w) X.A (execs st X.env) (SP X pins D) X.xe s
/-- weaken the end -/
theorem thn {α : Type} {t : Sem α} {Q Q' : α → Shared → Prop} {M : Model} {A : Around} {E : Value → Shared → Prop} {s : Shared} (h : wpAny M A t Q E s) (hQ : ∀ a s, Q a s → Q' a s) : wpAny M A t Q' E s := wpAny_mono h hQ fun _ _ x => x
end L2

namespace L2
open PySem PySem.Spec PyProof.Rows
section
variable {X : Cx}

/-! ### names and constants -/
def tVar (i : Nat) : TE := fun σ H Q => ∃ v, σ[i]? = some (some v) ∧ Q v H
def tC (v : V) : TE := fun _ H Q => Q v H
theorem pe_var {i : Nat} {x : Str} {pos : Pos} (hN : X.N[i]? = some x) (hv : Vis X.env.scope x) (hd : (x == ("__debug__" : Str)) = false := by decide) (hcd : (x == ("__classdict__" : Str)) = false := by decide) : PE X (.Name x pos) (tVar i) := by
  intro pins s σ H Q I h
  obtain ⟨v, e, h⟩ := h
  obtain ⟨m, hn, hl⟩ := I.loc
  obtain ⟨u, r, l⟩ := hl i x v hN e hv
  have fin : EP X pins σ Q u s := ⟨v, H, I, r, h⟩
  rcases l with ⟨hk, hm⟩ | ⟨hk, c, hc, hcell⟩
  · exact wpAny_Name (wpAny_loadName_local I.ok.kind hk hn hm fin) hd
  · rcases hk with hk | hk
    · exact wpAny_Name (wpAny_loadName_cell I.ok.kind hk hc hcell fin) hd
    · exact wpAny_Name (wpAny_loadName_free I.ok.kind hk hc hcell fin hcd) hd
theorem pe_int {i j pos} : PE X (.Constant (.int i) j pos) (tC (.int i)) := fun _ _ _ H _ I h => wpAny_Constant_int ⟨.int i, H, I.tok _, ⟨_, rfl⟩, h⟩
theorem pe_bl {b j pos} : PE X (.Constant (.bool b) j pos) (tC (.bl b)) := fun _ _ _ H _ I h => Constant_bool ⟨.bl b, H, I, rfl, h⟩
theorem pe_non {j pos} : PE X (.Constant .none j pos) (tC .non) := fun _ _ _ H _ I h => Constant_none ⟨.non, H, I, rfl, h⟩
theorem pe_str {x j pos} : PE X (.Constant (.str x) j pos) (tC (.str x)) := fun _ _ _ H _ I h => Calls.Constant_str ⟨.str x, H, I.tok _, ⟨_, rfl⟩, h⟩

/-- a global name of the def -/
def Gl (X : Cx) (x : Str) : Prop := X.env.kindOf x = some .globalImplicit
theorem ld_glob {E : Value → Shared → Prop} {pins : List (Addr × Obj)} {s : Shared} {σ : St} {H : Hp} {x : Str} {u : Value} {pos : Pos} {Q : Value → Shared → Prop} (I : Inv X pins σ H s) (hg : Gl X x) (hm : X.mg x = some u) (h : Q u s)
    (hd : (x == ("__debug__" : Str)) = false := by decide) : wpAny (model X.prog X.w) X.A (eval (.Name x pos) X.env) Q E s :=
  Calls.Name_function_global I.ok.kind hg (Calls.loadGlobal_global (by rw [I.ok.glob]; exact I.mod.glob.keeps I.bk) hm h) hd
theorem ld_blt {E : Value → Shared → Prop} {pins : List (Addr × Obj)} {s : Shared} {σ : St} {H : Hp} {x : Str} {u : Value} {pos : Pos} {Q : Value → Shared → Prop} (I : Inv X pins σ H s) (hg : Gl X x) (hm : X.mg x = none) (hv : bootBuiltins x = some u) (h : Q u s)
    (hn : x ≠ "__name__" := by decide) (hd : (x == ("__debug__" : Str)) = false := by decide) : wpAny (model X.prog X.w) X.A (eval (.Name x pos) X.env) Q E s := by
  obtain ⟨mb, h1, h2⟩ := I.mod.blt
  exact Calls.Name_function_global I.ok.kind hg (Calls.loadGlobal_builtin (by rw [I.ok.glob]; exact I.mod.glob.keeps I.bk) hm (by rw [I.ok.blt]; exact h1.keeps I.bk) ((h2 x hn).trans hv) h) hd
theorem pe_bltn {x : Str} {v : V} {u : Value} {pos : Pos} (hg : Gl X x) (hm : X.mg x = none) (hv : bootBuiltins x = some u) (r : RelV v u) (hn : x ≠ "__name__" := by decide) (hd : (x == ("__debug__" : Str)) = false := by decide) : PE X (.Name x pos) (tC v) :=
  fun _ _ _ H _ I h => ld_blt I hg hm hv ⟨v, H, I, r, h⟩ hn hd

/-! ### arithmetic -/
/-- two ints -/
def t2I (ta tb : TE) (k : Int → Int → Hp → Prop) : St → Hp → Prop := fun σ H => ta σ H fun x H1 => tb σ H1 fun y H2 => ∃ i j, x = .int i ∧ y = .int j ∧ k i j H2
def tAdd (ta tb : TE) : TE := fun σ H Q => t2I ta tb (fun i j H2 => Q (.int (i + j)) H2) σ H
def tSub (ta tb : TE) : TE := fun σ H Q => t2I ta tb (fun i j H2 => Q (.int (i - j)) H2) σ H
/-- the left factor below 2^64 -/
def tMul (ta tb : TE) : TE := fun σ H Q => t2I ta tb (fun i j H2 => (-(2 ^ 64) < i ∧ i < 2 ^ 64) ∧ Q (.int (i * j)) H2) σ H
variable {a b : Expr} {ta tb : TE} {pos : Pos}
/-! ### comparisons -/
def PC (X : Cx) (op : CmpOp) (a b : Expr) (t : TE) : Prop :=
  ∀ (pins : List (Addr × Obj)) (s : Shared) (σ : St) (H : Hp) (Q : VK), Inv X pins σ H s → t σ H Q →
    wpAny (model X.prog X.w) X.A (eval a X.env) (fun v s₁ => wpAny (model X.prog X.w) X.A (eval b X.env) (fun u s₂ => wpAny (model X.prog X.w) X.A (compareOp op v u) (EP X pins σ Q) X.xe s₂) X.xe s₁) X.xe s
theorem nobehind (b : Expr) {op : CmpOp} (h : op ≠ .In) (h2 : op ≠ .NotIn) : behindInMarks op b = false := by
  have e1 : (op == CmpOp.In) = false := by cases op <;> first | rfl | exact absurd rfl h
  have e2 : (op == CmpOp.NotIn) = false := by cases op <;> first | rfl | exact absurd rfl h2
  cases b <;> simp [behindInMarks, e1, e2]
def tCmp (p : Int → Int → Bool) (ta tb : TE) : TE := fun σ H Q => t2I ta tb (fun i j H2 => Q (.bl (p i j)) H2) σ H
abbrev tLt : TE → TE → TE := tCmp fun i j => decide (i < j)
abbrev tLe : TE → TE → TE := tCmp fun i j => decide (i ≤ j)
abbrev tGt : TE → TE → TE := tCmp fun i j => decide (j < i)
abbrev tGe : TE → TE → TE := tCmp fun i j => decide (j ≤ i)
abbrev tEqI : TE → TE → TE := tCmp fun i j => decide (i = j)
abbrev tNeI : TE → TE → TE := tCmp fun i j => !decide (i = j)
/-- is None -/
def tIsN (ta : TE) : TE := fun σ H Q => ta σ H fun x H1 => Q (.bl (decide (x = .non))) H1
def tNotN (ta : TE) : TE := fun σ H Q => ta σ H fun x H1 => Q (.bl (!decide (x = .non))) H1
theorem RelV.none_iff {x : V} {v : Value} (r : RelV x v) : (v == Value.none) = decide (x = .non) := by
  cases x with
  | non => cases r; rfl
  | bl _ => cases r; rfl
  | int _ => obtain ⟨t, rfl⟩ := r; rfl
  | str _ => obtain ⟨t, rfl⟩ := r; rfl
  | byt _ => obtain ⟨t, rfl⟩ := r; rfl
  | flt _ => obtain ⟨t, rfl⟩ := r; rfl
  | ref _ => cases r; rfl
  | ty _ => cases r; rfl
theorem pc_notN {j pos'} (ha : PE X a ta) : PC X .IsNot a (.Constant .none j pos') (tNotN ta) := by
  intro pins s σ H Q I h
  refine thn (ha pins s σ H _ I h) fun v s1 ⟨x, H1, I1, r1, q1⟩ => ?_
  exact Constant_none (isnot_none_gen ⟨.bl _, H1, I1, by rw [r1.none_iff]; rfl, q1⟩)
/-- a comparison as a value, as a test -/
def tB (t : TE) : TT := fun σ H Q => t σ H fun x H1 => ∃ c, x = .bl c ∧ Q c H1
theorem pt_cmp {op : CmpOp} {t : TE} (h : PC X op a b t) (h1 : behindInMarks op b = false := by first | exact nobehind _ (by decide) (by decide) | rfl) : PT X (.Compare a [op] [b] pos) (tB t) := by
  intro pins s σ H Q I hw
  refine wpAny_isTrue_Compare1 (thn (h pins s σ H _ I hw) fun v s1 h1 => thn h1 fun u s2 h2 => thn h2 fun c s3 ⟨x, H1, I1, r1, q1⟩ => ?_) h1
  obtain ⟨d, rfl, q⟩ := q1
  cases r1
  exact wpAny_truthy_bool ⟨H1, I1, q⟩
/-- an expression whose value is a bool, as a test -/
theorem pt_val {e : Expr} {t : TE} (h : PE X e t) (he : ∀ whole, isTrue e X.env whole = (do let v ← whole; standAt e.pos; holding [v] (truthy v)) := by intro _; rfl) : PT X e (tB t) := by
  intro pins s σ H Q I hw
  refine isTrue_plain (thn (h pins s σ H _ I hw) fun v s1 ⟨x, H1, I1, r1, q1⟩ => ?_) (he _)
  obtain ⟨d, rfl, q⟩ := q1
  cases r1
  exact wpAny_truthy_bool ⟨H1, I1, q⟩

/-! ### and, or, not -/
variable {tA tB' : TT} {rest : List Expr}
def tAnd (t u : TT) : TT := fun σ H Q => t σ H fun c H1 => if c = true then u σ H1 Q else Q false H1
def tOr (t u : TT) : TT := fun σ H Q => t σ H fun c H1 => if c = true then Q true H1 else u σ H1 Q
def tNot (t : TT) : TT := fun σ H Q => t σ H fun c H1 => Q (!c) H1
theorem pw_and1 (ha : PT X a tA) : PW X (.BoolOp .And [a] pos) tA := by
  intro wh pins s σ H Q I h
  refine isTrue_and (thn (ha pins s σ H Q I h) fun c s1 e => ?_)
  cases c with
  | true => exact isTrue_and_nil e
  | false => exact e
theorem pw_or1 (ha : PT X a tA) : PW X (.BoolOp .Or [a] pos) tA := by
  intro wh pins s σ H Q I h
  refine isTrue_or (thn (ha pins s σ H Q I h) fun c s1 e => ?_)
  cases c with
  | false => exact isTrue_or_nil e
  | true => exact e
theorem pw_and (ha : PT X a tA) (hb : PW X (.BoolOp .And (b :: rest) pos) tB') : PW X (.BoolOp .And (a :: b :: rest) pos) (tAnd tA tB') := by
  intro wh pins s σ H Q I h
  refine isTrue_and (thn (ha pins s σ H _ I h) fun c s1 ⟨H1, I1, q1⟩ => ?_)
  cases c with
  | true => exact hb wh pins s1 σ H1 Q I1 q1
  | false => exact ⟨H1, I1, q1⟩
theorem pw_or (ha : PT X a tA) (hb : PW X (.BoolOp .Or (b :: rest) pos) tB') : PW X (.BoolOp .Or (a :: b :: rest) pos) (tOr tA tB') := by
  intro wh pins s σ H Q I h
  refine isTrue_or (thn (ha pins s σ H _ I h) fun c s1 ⟨H1, I1, q1⟩ => ?_)
  cases c with
  | true => exact ⟨H1, I1, q1⟩
  | false => exact hb wh pins s1 σ H1 Q I1 q1
theorem pt_not (ha : PT X a tA) : PT X (.UnaryOp .Not a pos) (tNot tA) := by
  intro pins s σ H Q I h
  exact isTrue_not (ha pins s σ H (fun c H1 => Q (!c) H1) I h)
/-- .. as values (bools) -/
def tAndV (ta tb : TE) : TE := fun σ H Q => ta σ H fun x H1 => ∃ c, x = .bl c ∧ if c = true then tb σ H1 Q else Q (.bl false) H1
def tOrV (ta tb : TE) : TE := fun σ H Q => ta σ H fun x H1 => ∃ c, x = .bl c ∧ if c = true then Q (.bl true) H1 else tb σ H1 Q
def tNotV (ta : TE) : TE := fun σ H Q => ta σ H fun x H1 => ∃ c, x = .bl c ∧ Q (.bl (!c)) H1
theorem pe_one {op} {t : TE} (h : PE X a t) : PE X (.BoolOp op [a] pos) t := fun pins s σ H Q I hw => BoolOp_one (h pins s σ H Q I hw)
theorem pe_or (ha : PE X a ta) (hb : PE X (.BoolOp .Or (b :: rest) pos) tb) : PE X (.BoolOp .Or (a :: b :: rest) pos) (tOrV ta tb) := by
  intro pins s σ H Q I h
  refine BoolOp_or (thn (ha pins s σ H _ I h) fun v s1 ⟨x, H1, I1, r1, q1⟩ => ?_)
  obtain ⟨c, rfl, q1⟩ := q1
  cases r1
  refine wpAny_truthy_bool ?_
  cases c with
  | false => exact hb pins s1 σ H1 Q I1 q1
  | true => exact ⟨.bl true, H1, I1, rfl, q1⟩
/-- a if t else b -/
def tIf (t : TT) (ta tb : TE) : TE := fun σ H Q => t σ H fun c H1 => if c = true then ta σ H1 Q else tb σ H1 Q
theorem pe_ifExp {c : Expr} (hc : PT X c tA) (ha : PE X a ta) (hb : PE X b tb) : PE X (.IfExp c a b pos) (tIf tA ta tb) := by
  intro pins s σ H Q I h
  refine wpAny_IfExp (thn (hc pins s σ H _ I h) fun d s1 ⟨H1, I1, q1⟩ => ?_)
  cases d with
  | true => exact ha pins s1 σ H1 Q I1 q1
  | false => exact hb pins s1 σ H1 Q I1 q1
end
end L2

namespace L2
open PySem PySem.Spec PyProof.Rows

/-! ### a list, a tuple that is read: tracked, frozen, or an object of the module -/
def SqL (K : PySem.W.Frag) (H : Hp) (a : Addr) (xs : List V) : Prop :=
  Rd H a (.lst xs) ∨
    ∃ (o : Obj) (its : Array Value) (n : Nat), K.lookup a = some o ∧ o.cls = .type "list" ∧ o.dict = none ∧ o.data = .seq its n ∧ its.size ≤ sizeLine ∧ Vals xs its.toList
def SqT (K : PySem.W.Frag) (H : Hp) (a : Addr) (xs : List V) : Prop :=
  Rd H a (.tup xs) ∨
    ∃ (o : Obj) (its : Array Value) (n : Nat), K.lookup a = some o ∧ o.cls = .type "tuple" ∧ o.data = .seq its n ∧ its.size ≤ sizeLine ∧ Vals xs its.toList
def absV : Value → Option V
  | .none => some .non
  | .bool b => some (.bl b)
  | .int i _ => some (.int i)
  | .str x _ => some (.str x)
  | .bytes b _ => some (.byt b)
  | .float b _ => some (.flt b)
  | .ref a => some (.ref a)
  | .type n => some (.ty n)
  | _ => none
theorem RelV.abs {x : V} {u : Value} (r : RelV x u) : absV u = some x := by
  cases x with
  | non => cases r; rfl
  | bl _ => cases r; rfl
  | int _ => obtain ⟨t, rfl⟩ := r; rfl
  | str _ => obtain ⟨t, rfl⟩ := r; rfl
  | byt _ => obtain ⟨t, rfl⟩ := r; rfl
  | flt _ => obtain ⟨t, rfl⟩ := r; rfl
  | ref _ => cases r; rfl
  | ty _ => cases r; rfl
theorem RelV.inj {x y : V} {u : Value} (r : RelV x u) (q : RelV y u) : x = y := Option.some.inj (r.abs.symm.trans q.abs)
theorem Vals.inj : ∀ {xs ys : List V} {us : List Value}, Vals xs us → Vals ys us → xs = ys
  | _, _, _, .nil, .nil => rfl
  | _, _, _, .cons r t, .cons r' t' => by rw [r.inj r', Vals.inj t t']
section
variable {X : Cx} {pins : List (Addr × Obj)} {σ : St} {H : Hp} {s : Shared} {a : Addr} {xs ys : List V}
theorem SqL.of {K : PySem.W.Frag} (h : H a = some (.lst xs)) : SqL K H a xs := .inl (.inl h)
theorem SqT.of {K : PySem.W.Frag} (h : H a = some (.tup xs)) : SqT K H a xs := .inl (.inl h)
theorem Inv.list (I : Inv X pins σ H s) (h : SqL X.K H a xs) : ∃ its : List Value, Vals xs its ∧ PlainL s.heap a its.toArray ∧ xs.length ≤ sizeLine := by
  rcases h with h | ⟨o, its, n, hk, hc, hd, hs, hz, r⟩
  · obtain ⟨z, its, n, r, e⟩ := h.ok I.hok
    exact ⟨its, r, ⟨_, n, e, rfl, rfl, rfl⟩, z⟩
  · refine ⟨its.toList, r, ⟨o, n, I.kIn a o hk, hc, hd, by simpa using hs⟩, ?_⟩
    have e := r.length
    simp only [Array.length_toList] at e
    omega
theorem Inv.tuple (I : Inv X pins σ H s) (h : SqT X.K H a xs) : ∃ its : List Value, Vals xs its ∧ IsTup s.heap a its.toArray ∧ xs.length ≤ sizeLine := by
  rcases h with h | ⟨o, its, n, hk, hc, hs, hz, r⟩
  · obtain ⟨z, its, r, p⟩ := h.ok I.hok
    exact ⟨its, r, p, z⟩
  · refine ⟨its.toList, r, ⟨o, I.kIn a o hk, hc, n, by simpa using hs⟩, ?_⟩
    have e := r.length
    simp only [Array.length_toList] at e
    omega
theorem Inv.list_inj (I : Inv X pins σ H s) (h : SqL X.K H a xs) (h' : SqL X.K H a ys) : xs = ys := by
  obtain ⟨its, r, ⟨o, n, e, _, _, d⟩, _⟩ := I.list h
  obtain ⟨its', r', ⟨o', n', e', _, _, d'⟩, _⟩ := I.list h'
  rw [e] at e'; cases e'
  rw [d] at d'
  injection d' with d1 _
  have : its = its' := by simpa using congrArg Array.toList d1
  subst this
  exact r.inj r'
theorem Inv.tuple_inj (I : Inv X pins σ H s) (h : SqT X.K H a xs) (h' : SqT X.K H a ys) : xs = ys := by
  obtain ⟨its, r, ⟨o, e, _, n, d⟩, _⟩ := I.tuple h
  obtain ⟨its', r', ⟨o', e', _, n', d'⟩, _⟩ := I.tuple h'
  rw [e] at e'; cases e'
  rw [d] at d'
  injection d' with d1 _
  have : its = its' := by simpa using congrArg Array.toList d1
  subst this
  exact r.inj r'
end

/-! ### another wish about exceptions -/
abbrev Cx.wish (X : Cx) (E : Value → Shared → Prop) : Cx := { X with xe := E }
/-- no exception leaves -/
abbrev Cx.nox (X : Cx) : Cx := X.wish fun _ _ => False
theorem Cx.Ok.wish {X : Cx} (ok : X.Ok) (E : Value → Shared → Prop) : (X.wish E).Ok :=
  ⟨ok.mod, ok.kind, ok.glob, ok.blt, ok.above, ok.inj, ok.has, ok.cab, ok.hd, ok.frames, ok.stk, ok.exf, ok.bs, ok.bsz, ok.noex, ok.exfs, ok.funs, ok.frf⟩
theorem Cx.Ok.unwish {X : Cx} {E : Value → Shared → Prop} (ok : (X.wish E).Ok) : X.Ok :=
  ⟨ok.mod, ok.kind, ok.glob, ok.blt, ok.above, ok.inj, ok.has, ok.cab, ok.hd, ok.frames, ok.stk, ok.exf, ok.bs, ok.bsz, ok.noex, ok.exfs, ok.funs, ok.frf⟩
section
variable {X : Cx} {pins : List (Addr × Obj)} {σ : St} {H : Hp} {s : Shared} {E : Value → Shared → Prop}
theorem Inv.wish (I : Inv X pins σ H s) (E : Value → Shared → Prop) : Inv (X.wish E) pins σ H s := ⟨I.ok.wish E, I.os, I.bare, I.base, I.loc, I.cell, I.free, I.freeC, I.pin, I.hok, I.len⟩
theorem Inv.unwish (I : Inv (X.wish E) pins σ H s) : Inv X pins σ H s := ⟨I.ok.unwish, I.os, I.bare, I.base, I.loc, I.cell, I.free, I.freeC, I.pin, I.hok, I.len⟩
theorem SP.unwish {D : Ends} {f : Flow} {s' : Shared} (h : SP (X.wish E) pins D f s') : SP X pins D f s' := by
  cases f with
  | next => obtain ⟨σ', H', I, q⟩ := h; exact ⟨σ', H', I.unwish, q⟩
  | brk => obtain ⟨σ', H', I, q⟩ := h; exact ⟨σ', H', I.unwish, q⟩
  | cont => obtain ⟨σ', H', I, q⟩ := h; exact ⟨σ', H', I.unwish, q⟩
  | ret u => obtain ⟨v, σ', H', I, r, q⟩ := h; exact ⟨v, σ', H', I.unwish, r, q⟩
theorem PSs.nox {st : List Stmt} {t : TS} (h : PSs X.nox st t) : PSs X st t := fun pins s σ H D I hw =>
  wpAny_mono (h pins s σ H D (I.wish _) hw) (fun _ _ q => q.unwish) fun _ _ z => False.elim z
end

/-! ### blocks and small statements -/
section
variable {X : Cx} {st : Stmt} {rest : List Stmt} {t u : TS} {e : Expr} {te : TE} {pos : Pos}
def tNext : TS := fun D σ H => D.nx σ H
def tSeq (t u : TS) : TS := fun D σ H => t { D with nx := u D } σ H
theorem pss_nil : PSs X [] tNext := fun _ _ σ H _ I h => wpAny_execs_nil ⟨σ, H, I, h⟩
theorem pss_cons (h1 : PS X st t) (h2 : PSs X rest u) : PSs X (st :: rest) (tSeq t u) := by
  intro pins s σ H D I h
  refine wpAny_execs_cons (thn (h1 pins s σ H { D with nx := u D } I h) fun f s1 q => ?_)
  cases f with
  | next =>
    obtain ⟨σ', H', I', q⟩ := q
    exact h2 pins s1 σ' H' D I' q
  | ret v => exact q
  | brk => exact q
  | cont => exact q
theorem pss_one (h1 : PS X st t) : PSs X [st] t := by
  intro pins s σ H D I h
  refine wpAny_execs_cons (thn (h1 pins s σ H D I h) fun f s1 q => ?_)
  cases f with
  | next => exact wpAny_execs_nil q
  | ret v => exact q
  | brk => exact q
  | cont => exact q
def tBreak : TS := fun D σ H => D.bk σ H
def tCont : TS := fun D σ H => D.ct σ H
/-- in a def's body nothing is shown -/
theorem Inv.quiet {pins : List (Addr × Obj)} {σ : St} {H : Hp} {s : Shared} (I : Inv X pins σ H s) : interactive X.env = false := by simp [interactive, I.ok.kind]
/-- an expression whose value is dropped -/
def tDrop (te : TE) : TS := fun D σ H => te σ H fun _ H1 => D.nx σ H1
theorem ps_expr (he : PE X e te) (hs : swapsWith e none pos.line X.env = pure false := by rfl) : PS X (.Expr e pos) (tDrop te) := by
  intro pins s σ H D I h
  exact wpAny_Expr_any (thn (he pins s σ H _ I h) fun v s1 ⟨x, H1, I1, r1, q1⟩ => ⟨σ, H1, I1, q1⟩) I.quiet hs
def tRet (te : TE) : TS := fun D σ H => te σ H D.rt
theorem ps_ret (he : PE X e te) : PS X (.Return (some e) pos) (tRet te) := by
  intro pins s σ H D I h
  exact wpAny_Return_some (thn (he pins s σ H _ I h) fun v s1 ⟨x, H1, I1, r1, q1⟩ => ⟨x, σ, H1, I1, r1, q1⟩)
def tRetN : TS := fun D _ H => D.rt .non H
def tIfS (c : TT) (t u : TS) : TS := fun D σ H => c σ H fun b H1 => if b = true then t D σ H1 else u D σ H1
theorem ps_if {c : Expr} {a b : List Stmt} {tc : TT} (hc : PT X c tc) (ha : PSs X a t) (hb : PSs X b u) : PS X (.If c a b pos) (tIfS tc t u) := by
  intro pins s σ H D I h
  refine wpAny_If (thn (hc pins s σ H _ I h) fun d s1 ⟨H1, I1, q1⟩ => ?_)
  cases d with
  | true => exact ha pins s1 σ H1 D I1 q1
  | false => exact hb pins s1 σ H1 D I1 q1
/-- code that the proof never comes to -/
def tNever : TS := fun _ _ _ => False
end

/-! ### targets -/
abbrev TG := V → St → Hp → (St → Hp → Prop) → Prop
abbrev TGs := List V → St → Hp → (St → Hp → Prop) → Prop
def PG (X : Cx) (target : Expr) (t : TG) : Prop :=
  ∀ (pins : List (Addr × Obj)) (s : Shared) (σ : St) (H : Hp) (v : V) (u : Value) (Q : St → Hp → Prop), Inv X pins σ H s → RelV v u → t v σ H Q →
    wpAny (model X.prog X.w) X.A (assign target X.env u) (fun _ s' => ∃ σ' H', Inv X pins σ' H' s' ∧ Q σ' H') X.xe s
/-- several targets, one after another -/
def PGs (X : Cx) (ts : List Expr) (t : TGs) : Prop :=
  ∀ (pins : List (Addr × Obj)) (s : Shared) (σ : St) (H : Hp) (vs : List V) (us : List Value) (Q : St → Hp → Prop), Inv X pins σ H s → Vals vs us → t vs σ H Q →
    wpAny (model X.prog X.w) X.A (assignInOrder ((assignEach ts X.env).map (·.2)) us) (fun _ s' => ∃ σ' H', Inv X pins σ' H' s' ∧ Q σ' H') X.xe s
/-- o[i] = v, by values -/
abbrev TSet := V → V → V → Hp → (Hp → Prop) → Prop
def PSet (X : Cx) (t : TSet) : Prop :=
  ∀ (pins : List (Addr × Obj)) (s : Shared) (σ : St) (H : Hp) (o i v : V) (ov iv u : Value) (Q : Hp → Prop), Inv X pins σ H s → RelV o ov → RelV i iv → RelV v u → t o i v H Q →
    wpAny (model X.prog X.w) X.A (setItem ov iv u) (fun _ s' => ∃ H', Inv X pins σ H' s' ∧ Q H') X.xe s
/-- a op= b, by values -/
abbrev TIp := V → V → Hp → VK → Prop
def PIp (X : Cx) (op : Operator) (t : TIp) : Prop :=
  ∀ (pins : List (Addr × Obj)) (s : Shared) (σ : St) (H : Hp) (x y : V) (v u : Value) (Q : VK), Inv X pins σ H s → RelV x v → RelV y u → t x y H Q →
    wpAny (model X.prog X.w) X.A (inplaceOp op v u) (EP X pins σ Q) X.xe s
section
variable {X : Cx} {pos : Pos}
def gName (i : Nat) : TG := fun v σ H Q => Q (σ.set i (some v)) H
theorem pg_name {i : Nat} {x : Str} (hN : X.N.Nodup) (hi : X.N[i]? = some x) (hx : Loc X.env.scope x) (hf : X.fn x = true ∨ X.env.scope.names.lookup x = some .local := by first | exact .inl rfl | exact .inr rfl | assumption) : PG X (.Name x pos) (gName i) := by
  intro pins s σ H v u Q I r h
  exact wpAny_assign_Name (store_ok I hN hi hx r (fun s' I' => ⟨_, H, I', h⟩) hf)
def gNil : TGs := fun vs σ H Q => vs = [] ∧ Q σ H
def gCons (t : TG) (u : TGs) : TGs := fun vs σ H Q => ∃ v r, vs = v :: r ∧ t v σ H fun σ' H' => u r σ' H' Q
theorem pgs_nil : PGs X [] gNil := by
  intro pins s σ H vs us Q I r h
  obtain ⟨e, h⟩ := h
  subst e
  cases r
  exact assignInOrder_nil ⟨σ, H, I, h⟩
theorem pgs_cons {e : Expr} {es : List Expr} {t : TG} {u : TGs} (h1 : PG X e t) (h2 : PGs X es u)
    (hs : (assignEach (e :: es) X.env).map (·.2) = assign e X.env :: (assignEach es X.env).map (·.2) := by rfl) : PGs X (e :: es) (gCons t u) := by
  intro pins s σ H vs us Q I r h
  obtain ⟨v, vr, e1, h⟩ := h
  subst e1
  cases r with
  | cons r rr =>
    rw [hs]
    refine assignInOrder_cons (thn (h1 pins s σ H _ _ _ I r h) fun _ s1 ⟨σ1, H1, I1, q1⟩ => ?_)
    exact h2 pins s1 σ1 H1 _ _ Q I1 rr q1
/-- (a, b, ..) = a tuple of that length -/
def gTup (K : PySem.W.Frag) (n : Nat) (t : TGs) : TG := fun v σ H Q => ∃ a xs, v = .ref a ∧ SqT K H a xs ∧ xs.length = n ∧ t xs σ H Q
theorem pg_tup {es : List Expr} {k : Nat} {t : TGs} {n : Nat} (hc : X.calm = true) (h : PGs X es t)
    (hn : (assignEach es X.env).length = n := by rfl) (hst : (assignEach es X.env).findIdx? (·.1) = none := by rfl) : PG X (.Tuple es k pos) (gTup X.K n t) := by
  intro pins s σ H v u Q I r hw
  obtain ⟨a, xs, e1, hq, hl, hw⟩ := hw
  subst e1
  cases r
  obtain ⟨its, rv, ht, hz⟩ := I.tuple hq
  refine assign_Tuple_tuple (I.ok.hd hc) ht (by simp [hn, ← hl, rv.length]) hst fun h' hx => ?_
  have I1 : Inv X pins σ H { s with heap := h' } := I.kept (t' := s.toks) fun b o e => hx b o (Nat.ne_of_lt (Heap.lt_size e)) e
  exact h pins _ σ H xs _ Q I1 (by simpa using rv) hw
/-- o[i] = .. -/
def gSub (to ti : TE) (t : TSet) : TG := fun v σ H Q => to σ H fun o H1 => ti σ H1 fun i H2 => t o i v H2 fun H3 => Q σ H3
theorem pg_sub {o i : Expr} {to ti : TE} {t : TSet} (ho : PE X o to) (hi : PE X i ti) (hs : PSet X t)
    (ha : ∀ v, assign (.Subscript o i pos) X.env v = (do
      let ov ← holding [v] (eval o X.env)
      let iv ← holding [v, ov] (eval i X.env)
      standAt pos
      holding [v, ov, iv] (setItem ov iv v)
      release [v, ov, iv] []) := by intro _; rfl) : PG X (.Subscript o i pos) (gSub to ti t) := by
  intro pins s σ H v u Q I r h
  rw [ha]
  refine wpAny_bind (wpAny_holding (thn (ho pins s σ H _ I h) fun ov s1 ⟨x, H1, I1, r1, q1⟩ => ?_))
  refine wpAny_bind (wpAny_holding (thn (hi pins s1 σ H1 _ I1 q1) fun iv s2 ⟨y, H2, I2, r2, q2⟩ => ?_))
  refine wpAny_bind (wpAny_standAt (wpAny_bind (wpAny_holding (thn (hs pins s2 σ H2 x y v ov iv u _ I2 r1 r2 r q2) fun _ s3 ⟨H3, I3, q3⟩ => ?_))))
  exact wpAny_release ⟨σ, H3, I3, q3⟩
/-- target = value -/
def tAsg (te : TE) (g : TG) : TS := fun D σ H => te σ H fun x H1 => g x σ H1 D.nx
theorem ps_asg {tg e : Expr} {te : TE} {g : TG} (he : PE X e te) (hg : PG X tg g) (hs : swapsWithSole [tg] e pos.line X.env = pure false := by rfl) (hw : swappedStores [tg] e X.env = pure none := by rfl)
    (h1 : (assignEach [tg] X.env).map (·.2) = [assign tg X.env] := by rfl) : PS X (.Assign [tg] e pos) (tAsg te g) := by
  intro pins s σ H D I h
  refine wpAny_Assign_stores (thn (he pins s σ H _ I h) fun v s1 ⟨x, H1, I1, r1, q1⟩ => ?_) hs hw
  rw [h1]
  exact thn (hg pins s1 σ H1 x v _ I1 r1 q1) fun _ s2 q => q
/-- name = value -/
theorem ps_set {i : Nat} {x : Str} {e : Expr} {te : TE} {pos' : Pos} (hN : X.N.Nodup) (hi : X.N[i]? = some x) (hx : Loc X.env.scope x) (he : PE X e te) (hs : swapsWith e (some (.Name x pos')) pos.line X.env = pure false := by rfl) (hf : X.fn x = true ∨ X.env.scope.names.lookup x = some .local := by first | exact .inl rfl | exact .inr rfl | assumption) :
    PS X (.Assign [.Name x pos'] e pos) (tAsg te (gName i)) := by
  intro pins s σ H D I h
  refine wpAny_Assign_Name (thn (he pins s σ H _ I h) fun v s1 ⟨y, H1, I1, r1, q1⟩ => ?_) hs
  exact store_ok I1 hN hi hx r1 (fun s2 I2 => ⟨_, H1, I2, q1⟩) hf
/-- a, b = x, y with plain local names: stored from the right; the pair itself is not tracked (the opening rows as in PyProof/Rows/TupAssign.lean:23) -/
def tPar (i j : Nat) (ta : TA) : TS := fun D σ H => ta σ H fun vs H1 => ∃ v w, vs = [v, w] ∧ D.nx ((σ.set i (some v)).set j (some w)) H1
theorem ps_par {i j : Nat} {x y : Str} {a b : Expr} {ta : TA} {px py pt : Pos} {kt k2 pt2} (hc : X.calm = true) (hN : X.N.Nodup) (hi : X.N[i]? = some x) (hj : X.N[j]? = some y) (hij : i ≠ j)
    (hx : X.env.scope.names.lookup x = some .local) (hy : X.env.scope.names.lookup y = some .local) (ha : PA X [a, b] ta)
    (hw : swappedStores [.Tuple [.Name x px, .Name y py] kt pt] (.Tuple [a, b] k2 pt2) X.env = pure (some [x, y]))
    (hs : swapsWithSole [.Tuple [.Name x px, .Name y py] kt pt] (.Tuple [a, b] k2 pt2) pos.line X.env = pure false := by rfl) :
    PS X (.Assign [.Tuple [.Name x px, .Name y py] kt pt] (.Tuple [a, b] k2 pt2) pos) (tPar i j ta) := by
  intro pins s σ H D I h
  rw [exec_Assign_arm]
  refine wpAny_bind (wpAny_standAt ?_)
  rw [hs]
  refine wpAny_bind (wpAny_pure ?_)
  rw [if_neg (by decide)]
  refine wpAny_bind (Tuple_ (thn (ha _ pins s σ H _ I h) fun us s1 ⟨vs, H1, I1, r1, q1⟩ => ?_))
  obtain ⟨v, w, e1, q1⟩ := q1
  subst e1
  obtain ⟨u1, u2, rfl, rv, rw'⟩ : ∃ u1 u2, us = [u1, u2] ∧ RelV v u1 ∧ RelV w u2 := by
    cases r1 with
    | cons p q =>
      cases q with
      | cons p' q' =>
        cases q'
        exact ⟨_, _, rfl, p, p'⟩
  refine wpAny_newObj_type ?_ (by show 2 ≤ sizeLine; decide)
  have I2 : Inv X pins σ H1 { s1 with heap := s1.heap.push { cls := .type "tuple", data := .seq [u1, u2].toArray } } := I1.kept (t' := s1.toks) fun b o e => Heap.get?_push_of_some _ e
  rw [hw]
  refine wpAny_bind (wpAny_pure ?_)
  show wpAny (model X.prog X.w) X.A (do rule "assign.swapped-stores"; let items ← unpackItems (.ref s1.heap.objs.size) 2 none; assignInOrder [fun v => bindName X.env y v, fun v => bindName X.env x v] items.reverse; pure Flow.next) _ _ _
  refine wpAny_bind (wpAny_rule (wpAny_bind (unpackItems_tuple (items := #[u1, u2]) (I.ok.hd hc) (IsTup.new s1.heap _) fun h' hx' => ?_)))
  have I3 := I2.kept (h' := h') (t' := s1.toks) fun b o e => hx' b o (Nat.ne_of_lt (Heap.lt_size e)) e
  show wpAny _ _ (assignInOrder [fun v => bindName X.env y v, fun v => bindName X.env x v] [u2, u1] >>= fun _ => pure Flow.next) _ _ _
  refine wpAny_bind (assignInOrder_cons (wpAny_bindName (store_ok I3 hN hj (.inl hy) rw' (fun s2 I4 => ?_) (.inr hy))))
  refine assignInOrder_cons (wpAny_bindName (store_ok I4 hN hi (.inl hx) rv (fun s3 I5 => assignInOrder_nil (wpAny_pure ?_)) (.inr hx)))
  rw [List.set_comm _ _ (Ne.symm hij)] at I5
  exact ⟨_, H1, I5, q1⟩
/-- name op= e -/
def tAug (i : Nat) (te : TE) (ti : TIp) : TS := fun D σ H => ∃ x, σ[i]? = some (some x) ∧ te σ H fun y H1 => ti x y H1 fun z H2 => D.nx (σ.set i (some z)) H2
/-- o[i] op= e -/
def tAugS (to ti te : TE) (tget : V → V → Hp → VK → Prop) (tip : TIp) (tset : TSet) : TS := fun D σ H => to σ H fun o H1 => ti σ H1 fun i H2 => tget o i H2 fun x H3 => te σ H3 fun y H4 => tip x y H4 fun z H5 => tset o i z H5 fun H6 => D.nx σ H6
/-- o[i], by values -/
def PGet (X : Cx) (t : V → V → Hp → VK → Prop) : Prop :=
  ∀ (pins : List (Addr × Obj)) (s : Shared) (σ : St) (H : Hp) (o i : V) (ov iv : Value) (Q : VK), Inv X pins σ H s → RelV o ov → RelV i iv → t o i H Q →
    wpAny (model X.prog X.w) X.A (getItem ov iv) (EP X pins σ Q) X.xe s
/-- ints -/
def ipI (f : Int → Int → Int) : TIp := fun x y H Q => ∃ i j, x = .int i ∧ y = .int j ∧ Q (.int (f i j)) H
end

/-! ### while -/
section
variable {X : Cx} {pos : Pos}
/-- the invariant W with its measure -/
def tWhile (c : TT) (tb : TS) : TS := fun D σ H => ∃ W : Nat → St → Hp → Prop, (∃ m, W m σ H) ∧ ∀ m σ H, W m σ H →
  c σ H fun b H1 => if b = true then ∃ N : St → Hp → Prop, (∀ σ' H', N σ' H' → ∃ m', m' < m ∧ W m' σ' H') ∧ tb { D with nx := N, ct := N, bk := D.nx } σ H1 else D.nx σ H1
end

/-! ### what a loop or a comprehension walks -/
/-- at turn i: it yields x (the heap may grow), or it stops -/
structure It where
  go : Nat → Hp → Prop
  yld : Nat → Hp → V → Hp → Prop
  stop : Nat → Hp → Prop
/-- the iterator's own objects may turn: they are not the frame's, not pinned, younger than the entry (or a comprehension's own) -/
def FpOk (X : Cx) (pins : List (Addr × Obj)) (H : Hp) (b : Addr) : Prop :=
  H b = none ∧ b ≠ X.env.locals ∧ b ∉ X.fs ∧ (b ∈ X.ex ∨ X.s₀.heap.objs.size ≤ b) ∧ (∀ x c, X.env.cells.lookup x = some c → c ≠ b) ∧ ∀ p ∈ X.pn ++ pins, p.1 ≠ b
theorem Inv.fpOk {X : Cx} {pins : List (Addr × Obj)} {σ : St} {H H' : Hp} {s : Shared} {b : Addr} (I : Inv X pins σ H s) (hb : s.heap.objs.size ≤ b) (hn : H' b = none) : FpOk X pins H' b := by
  refine ⟨hn, Nat.ne_of_gt (Nat.lt_of_lt_of_le I.lt hb), I.nofs hb, .inr (Nat.le_trans I.sz hb), fun x c e z => ?_, fun p hp z => ?_⟩
  · obtain ⟨v, q⟩ := I.cell x c e
    exact absurd (Nat.lt_of_lt_of_le q.lt (by rw [z]; exact hb)) (Nat.lt_irrefl _)
  · exact absurd (Nat.lt_of_lt_of_le (Heap.lt_size (I.pin p hp).1) (by rw [z]; exact hb)) (Nat.lt_irrefl _)
structure Turn (P : Program) (w : World) (K : PySem.W.Frag) (tg : Expr) (J : It) (fp : List Addr) (it : Addr) (tn : Nat → Heap → Prop) : Prop where
  mem : it ∈ fp
  obj : ∀ i h, tn i h → ∀ b ∈ fp, ∃ o, h.get? b = some o ∧ ∀ v, o.data ≠ .cell v
  keep : ∀ i h h', tn i h → (∀ b ∈ fp, ∀ o, h.get? b = some o → h'.get? b = some o) → tn i h'
  item : ∀ (X : Cx), X.prog = P → X.w = w → X.K = K → X.calm = true → ∀ (i : Nat) (pins : List (Addr × Obj)) (s : Shared) (σ : St) (H : Hp) (E : Value → Shared → Prop), Inv X pins σ H s → (∀ b ∈ fp, FpOk X pins H b) → tn i s.heap → J.go i H →
    wpAny (model P w) X.A (pyNext (.ref it)) (fun r s1 => ∃ u, r = some u ∧
      wpAny (model P w) X.A (letOwnedTupleGo tg (.ref it) u) (fun _ s2 => ∃ x H', Inv X pins σ H' s2 ∧ RelV x u ∧ J.yld i H x H' ∧ tn (i + 1) s2.heap ∧ ∀ b ∈ fp, H' b = none) E s1) E s
  done : ∀ (X : Cx), X.prog = P → X.w = w → X.K = K → X.calm = true → ∀ (i : Nat) (pins : List (Addr × Obj)) (s : Shared) (σ : St) (H : Hp) (E : Value → Shared → Prop), Inv X pins σ H s → (∀ b ∈ fp, FpOk X pins H b) → tn i s.heap → J.stop i H →
    wpAny (model P w) X.A (pyNext (.ref it)) (fun r s1 => r = none ∧ Inv X pins σ H s1) E s
  self : ∀ (A : Around) (i : Nat) (s : Shared) (Q : Value → Shared → Prop) (E : Value → Shared → Prop), tn i s.heap → Q (.ref it) s → wpAny (model P w) A (pyIter (.ref it)) Q E s
abbrev TI := St → Hp → (It → Hp → Prop) → Prop
/-- an iterator has come -/
def PIE (X : Cx) (pins : List (Addr × Obj)) (σ : St) (tg : Expr) (R : It → Hp → Prop) (itv : Value) (s2 : Shared) : Prop :=
  ∃ (it : Addr) (fp : List Addr) (tn : Nat → Heap → Prop) (J : It) (H' : Hp), itv = .ref it ∧ Inv X pins σ H' s2 ∧ Turn X.prog X.w X.K tg J fp it tn ∧ tn 0 s2.heap ∧ (∀ b ∈ fp, FpOk X pins H' b) ∧ R J H'
def PI (X : Cx) (tg iter : Expr) (wi : TI) : Prop :=
  ∀ (pins : List (Addr × Obj)) (s : Shared) (σ : St) (H : Hp) (R : It → Hp → Prop), Inv X pins σ H s → wi σ H R →
    wpAny (model X.prog X.w) X.A (eval iter X.env) (fun v s1 => wpAny (model X.prog X.w) X.A (pyIter v) (PIE X pins σ tg R) X.xe s1) X.xe s

/-- the step ahead of the store is nothing for an iterator that keeps no tuple -/
theorem go_of {M : Model} {A : Around} {E : Value → Shared → Prop} {s : Shared} {tg : Expr} {it : Addr} {u : Value} {o : Obj} {n : String} {vs : Array Value} {Q : Unit → Shared → Prop} (ho : s.heap.get? it = some o) (hc : o.cls = .type n) (hd : o.data = .fields vs)
    (hn : ["enumerate", "zip", "dict_itemiterator", "dict_reverseitemiterator", "odict_iterator", "itertools.zip_longest", "itertools.pairwise"].contains n = false) (hQ : Q () s) : wpAny M A (letOwnedTupleGo tg (.ref it) u) Q E s := by
  unfold letOwnedTupleGo
  cases tg <;> first
    | exact wpAny_pure hQ
    | (cases u <;> first
        | exact wpAny_pure hQ
        | (refine wpAny_bind (wpAny_load ho ?_)
           rw [hc, hd]
           show wpAny M A (if (["enumerate", "zip", "dict_itemiterator", "dict_reverseitemiterator", "odict_iterator", "itertools.zip_longest", "itertools.pairwise"].contains n && vs[0]? == some (rawInt _)) = true then _ else _) Q E s
           rw [if_neg (by intro h; rw [hn, Bool.false_and] at h; cases h)]
           exact wpAny_pure hQ))

/-- the list at a, as it stands at each turn (a loop may append to it) -/
def Itl (K : PySem.W.Frag) (a : Addr) : It :=
  ⟨fun i H => ∃ xs x, SqL K H a xs ∧ xs[i]? = some x, fun i H x H' => H' = H ∧ ∀ xs, SqL K H a xs → xs[i]? = some x, fun i H => ∃ xs, SqL K H a xs ∧ xs.length ≤ i⟩
def Itt (K : PySem.W.Frag) (a : Addr) : It :=
  ⟨fun i H => ∃ xs x, SqT K H a xs ∧ xs[i]? = some x, fun i H x H' => H' = H ∧ ∀ xs, SqT K H a xs → xs[i]? = some x, fun i H => ∃ xs, SqT K H a xs ∧ xs.length ≤ i⟩
/-- lo, lo + 1, .. (n of them) -/
def Itr (lo : Int) (n : Nat) : It := ⟨fun i _ => i < n, fun i H x H' => H' = H ∧ x = .int (lo + i), fun i _ => n ≤ i⟩
theorem turn_list {P : Program} {w : World} {K : PySem.W.Frag} {tg : Expr} (a it : Addr) : Turn P w K tg (Itl K a) [it] it (fun i h => h.IsListIter it a i) where
  mem := by simp
  obj := fun i h st b hb => by
    have e : b = it := by simpa using hb
    subst e
    obtain ⟨o, e, c, d⟩ := st
    exact ⟨o, e, fun v z => by rw [d] at z; cases z⟩
  keep := fun i h h' st k => st.at fun o e => k it (by simp) o e
  item := by
    intro X hP hw hK hc i pins s σ H E I hf st hg
    subst hP hw hK
    obtain ⟨xs, x, hq, hx⟩ := hg
    obtain ⟨its, rv, p, hz⟩ := I.list hq
    obtain ⟨u, hu, ru⟩ := rv.get hx
    obtain ⟨f0, f1, f2, f3, f4, f5⟩ := hf it (by simp)
    refine wpAny_pyNext_list_item st p.isList (x := u) (by simpa using hu) fun h' st' sb => ?_
    have I1 : Inv X pins σ H { s with heap := h' } := I.turned (t' := s.toks) (fun b o hb e => (sb.2 b hb).trans e) f0 f1 f3 f4 f5
    obtain ⟨o, e, c, d⟩ := id st'
    exact ⟨u, rfl, go_of (s := { s with heap := h' }) e c d (by decide) ⟨x, H, I1, ru, ⟨rfl, fun ys hy => by rw [I.list_inj hy hq]; exact hx⟩, st', fun b hb => (hf b hb).1⟩⟩
  done := by
    intro X hP hw hK hc i pins s σ H E I hf st hg
    subst hP hw hK
    obtain ⟨xs, hq, hx⟩ := hg
    obtain ⟨its, rv, p, hz⟩ := I.list hq
    obtain ⟨f0, f1, f2, f3, f4, f5⟩ := hf it (by simp)
    have hl := rv.length
    exact wpAny_pyNext_list_end (I.ok.hd hc) st p.isList (by simp; omega) fun h' eb => ⟨rfl, I.turned (t' := s.toks) (fun b o hb e => eb b o hb e) f0 f1 f3 f4 f5⟩
  self := fun _ _ _ _ _ st h => wpAny_pyIter_listiter st h
theorem turn_tuple {P : Program} {w : World} {K : PySem.W.Frag} {tg : Expr} (a it : Addr) : Turn P w K tg (Itt K a) [it] it (fun i h => h.IsTupleIter it a i) where
  mem := by simp
  obj := fun i h st b hb => by
    have e : b = it := by simpa using hb
    subst e
    obtain ⟨o, e, c, d⟩ := st
    exact ⟨o, e, fun v z => by rw [d] at z; cases z⟩
  keep := fun i h h' st k => st.at fun o e => k it (by simp) o e
  item := by
    intro X hP hw hK hc i pins s σ H E I hf st hg
    subst hP hw hK
    obtain ⟨xs, x, hq, hx⟩ := hg
    obtain ⟨its, rv, p, hz⟩ := I.tuple hq
    obtain ⟨u, hu, ru⟩ := rv.get hx
    obtain ⟨f0, f1, f2, f3, f4, f5⟩ := hf it (by simp)
    refine wpAny_pyNext_tuple_item st (show s.heap.IsTuple a its.toArray from p) (x := u) (by simpa using hu) fun h' st' sb => ?_
    have I1 : Inv X pins σ H { s with heap := h' } := I.turned (t' := s.toks) (fun b o hb e => (sb.2 b hb).trans e) f0 f1 f3 f4 f5
    obtain ⟨o, e, c, d⟩ := id st'
    exact ⟨u, rfl, go_of (s := { s with heap := h' }) e c d (by decide) ⟨x, H, I1, ru, ⟨rfl, fun ys hy => by rw [I.tuple_inj hy hq]; exact hx⟩, st', fun b hb => (hf b hb).1⟩⟩
  done := by
    intro X hP hw hK hc i pins s σ H E I hf st hg
    subst hP hw hK
    obtain ⟨xs, hq, hx⟩ := hg
    obtain ⟨its, rv, p, hz⟩ := I.tuple hq
    obtain ⟨f0, f1, f2, f3, f4, f5⟩ := hf it (by simp)
    have hl := rv.length
    exact wpAny_pyNext_tuple_end (I.ok.hd hc) st (show s.heap.IsTuple a its.toArray from p) (by simp; omega) fun h' eb => ⟨rfl, I.turned (t' := s.toks) (fun b o hb e => eb b o hb e) f0 f1 f3 f4 f5⟩
  self := fun _ _ _ _ _ st h => wpAny_pyIter_tupleiter st h
theorem turn_range {P : Program} {w : World} {K : PySem.W.Frag} {tg : Expr} (it : Addr) (lo : Int) (n : Nat) : Turn P w K tg (Itr lo n) [it] it (fun i h => IsRangeIter h it (lo + (i : Nat) * 1) ((n : Int) - (i : Nat)) 1) where
  mem := by simp
  obj := fun i h st b hb => by
    have e : b = it := by simpa using hb
    subst e
    exact ⟨_, st, fun v z => by
      have z' : Data.fields _ = Data.cell v := z
      cases z'⟩
  keep := fun i h h' st k => k it (by simp) _ st
  item := by
    intro X hP hw hK hc i pins s σ H E I hf st hg
    subst hP hw hK
    obtain ⟨f0, f1, f2, f3, f4, f5⟩ := hf it (by simp)
    have W := Walks.range (prog := X.prog) (w := X.w) (I.ok.hd hc) it lo 1 n
    refine W.item i s _ _ hg st fun v h' tk hv st' kk => ?_
    obtain ⟨t, rfl⟩ := hv
    have I1 : Inv X pins σ H { s with heap := h', toks := tk } := I.turned (fun b o hb e => kk b o (by simpa using hb) e) f0 f1 f3 f4 f5
    refine ⟨_, rfl, go_of (s := { s with heap := h', toks := tk }) (n := "range_iterator") st' rfl rfl (by decide) ⟨.int (lo + i), H, I1, ⟨t, ?_⟩, ⟨rfl, rfl⟩, st', fun b hb => (hf b hb).1⟩⟩
    rw [Int.mul_one]
  done := by
    intro X hP hw hK hc i pins s σ H E I hf st hg
    subst hP hw hK
    obtain ⟨f0, f1, f2, f3, f4, f5⟩ := hf it (by simp)
    exact wpAny_pyNext_range_end (I.ok.hd hc) st (by have : n ≤ i := hg; omega) fun h' eb => ⟨rfl, I.turned (t' := s.toks) (fun b o hb e => eb b o hb e) f0 f1 f3 f4 f5⟩
  self := fun _ _ _ _ _ st h => wpAny_pyIter_rangeiter st h
end L2

namespace L2
open PySem PySem.Spec PyProof.Rows
section
variable {X : Cx} {tg : Expr}
def iList (K : PySem.W.Frag) (tl : TE) : TI := fun σ H R => tl σ H fun x H1 => ∃ a, x = .ref a ∧ (∃ xs, SqL K H1 a xs) ∧ R (Itl K a) H1
def iTup (K : PySem.W.Frag) (tl : TE) : TI := fun σ H R => tl σ H fun x H1 => ∃ a, x = .ref a ∧ (∃ xs, SqT K H1 a xs) ∧ R (Itt K a) H1
theorem pi_list {l : Expr} {tl : TE} (hl : PE X l tl) : PI X tg l (iList X.K tl) := by
  intro pins s σ H R I h
  refine thn (hl pins s σ H _ I h) fun v s1 ⟨x, H1, I1, r1, q1⟩ => ?_
  obtain ⟨a, e, ⟨xs, hq⟩, q⟩ := q1
  subst e
  cases r1
  obtain ⟨its, rv, p, hz⟩ := I1.list hq
  refine wpAny_pyIter_list p.isList ?_
  refine ⟨s1.heap.objs.size, [s1.heap.objs.size], _, _, H1, rfl, I1.kept (t' := s1.toks) fun b o e => Heap.get?_push_of_some _ e, turn_list a _, ⟨_, Heap.get?_push_size _ rfl, rfl, rfl⟩, fun b hb => ?_, q⟩
  have e : b = s1.heap.objs.size := by simpa using hb
  subst e
  exact I1.fpOk (Nat.le_refl _) (I1.hok.fresh (Nat.le_refl _))
theorem pi_tup {l : Expr} {tl : TE} (hl : PE X l tl) : PI X tg l (iTup X.K tl) := by
  intro pins s σ H R I h
  refine thn (hl pins s σ H _ I h) fun v s1 ⟨x, H1, I1, r1, q1⟩ => ?_
  obtain ⟨a, e, ⟨xs, hq⟩, q⟩ := q1
  subst e
  cases r1
  obtain ⟨its, rv, p, hz⟩ := I1.tuple hq
  refine wpAny_pyIter_tuple (show s1.heap.IsTuple a its.toArray from p) ?_
  refine ⟨s1.heap.objs.size, [s1.heap.objs.size], _, _, H1, rfl, I1.kept (t' := s1.toks) fun b o e => Heap.get?_push_of_some _ e, turn_tuple a _, ⟨_, Heap.get?_push_size _ rfl, rfl, rfl⟩, fun b hb => ?_, q⟩
  have e : b = s1.heap.objs.size := by simpa using hb
  subst e
  exact I1.fpOk (Nat.le_refl _) (I1.hok.fresh (Nat.le_refl _))
/-- a range object just made, walked -/
theorem range_it {pins : List (Addr × Obj)} {σ : St} {H : Hp} {s : Shared} {R : It → Hp → Prop} {E : Value → Shared → Prop} {lo hi : Int} {t u v : Tok} {tk : Nat} (I : Inv X pins σ H s) (h1 : -(2 ^ 62) ≤ lo) (h2 : lo < 2 ^ 62) (h3 : -(2 ^ 62) ≤ hi) (h4 : hi < 2 ^ 62)
    (q : R (Itr lo (hi - lo).toNat) H) : wpAny (model X.prog X.w) X.A (pyIter (.ref s.heap.objs.size)) (PIE X pins σ tg R) E { s with heap := s.heap.push { cls := .type "range", data := .fields #[.int lo t, .int hi u, .int 1 v] }, toks := tk } := by
  refine wpAny_pyIter_range (IsRange.new ..) (small_one h1 h2 h3 h4) ?_
  have I1 : Inv X pins σ H { s with heap := s.heap.push { cls := .type "range", data := .fields #[.int lo t, .int hi u, .int 1 v] }, toks := tk } := I.kept fun b o e => Heap.get?_push_of_some _ e
  refine ⟨(s.heap.push { cls := .type "range", data := .fields #[.int lo t, .int hi u, .int 1 v] }).objs.size, [(s.heap.push { cls := .type "range", data := .fields #[.int lo t, .int hi u, .int 1 v] }).objs.size], _, _, H, rfl,
    I1.kept (t' := tk) fun b o e => Heap.get?_push_of_some _ e, turn_range _ lo (hi - lo).toNat, ?_, fun b hb => ?_, q⟩
  · have e1 : lo + ((0 : Nat) : Int) * 1 = lo := by simp
    have e2 : (((hi - lo).toNat : Nat) : Int) - ((0 : Nat) : Int) = Builtin.Range.rangeSize lo hi 1 := by rw [rangeSize_one]; split <;> omega
    show IsRangeIter _ _ (lo + ((0 : Nat) : Int) * 1) ((((hi - lo).toNat : Nat) : Int) - ((0 : Nat) : Int)) 1
    rw [e1, e2]
    exact Heap.get?_push_size _ rfl
  · have e : b = (s.heap.push { cls := .type "range", data := .fields #[.int lo t, .int hi u, .int 1 v] }).objs.size := by simpa using hb
    subst e
    exact I1.fpOk (Nat.le_refl _) (I1.hok.fresh (Nat.le_refl _))
def iRng1 (ta : TA) : TI := fun σ H R => ta σ H fun vs H1 => ∃ j : Int, vs = [.int j] ∧ -(2 ^ 62) ≤ j ∧ j < 2 ^ 62 ∧ R (Itr 0 j.toNat) H1
def iRng2 (ta : TA) : TI := fun σ H R => ta σ H fun vs H1 => ∃ i j : Int, vs = [.int i, .int j] ∧ (-(2 ^ 62) ≤ i ∧ i < 2 ^ 62 ∧ -(2 ^ 62) ≤ j ∧ j < 2 ^ 62) ∧ R (Itr i (j - i).toNat) H1
theorem pi_range1 {a : Expr} {ta : TA} {p pos : Pos} (hg : Gl X "range") (hm : X.mg "range" = none) (ha : PA X [a] ta) (hs : starEach [a] X.env = [(false, eval a X.env)] := by rfl) : PI X tg (.Call (.Name "range" p) [a] [] pos) (iRng1 ta) := by
  intro pins s σ H R I h
  refine Call_ (ld_blt I hg hm boot_range (PyProof.Rows.callWith_type1 (thn (ha pos pins s σ H _ I h) fun us s1 ⟨vs, H1, I1, r1, q1⟩ => ?_) hs rfl))
  obtain ⟨j, e, q1, q2, q⟩ := q1
  subst e
  cases r1 with
  | cons r rr =>
    cases rr
    obtain ⟨t, rfl⟩ := r
    exact call_range_1 (range_it I1 (by omega) (by omega) q1 q2 (by simpa using q))
theorem pi_range2 {a b : Expr} {ta : TA} {p pos : Pos} (hg : Gl X "range") (hm : X.mg "range" = none) (ha : PA X [a, b] ta) (hs : starEach [a, b] X.env = [(false, eval a X.env), (false, eval b X.env)] := by rfl) (hs2 : starEach [b] X.env = [(false, eval b X.env)] := by rfl) :
    PI X tg (.Call (.Name "range" p) [a, b] [] pos) (iRng2 ta) := by
  intro pins s σ H R I h
  refine Call_ (ld_blt I hg hm boot_range (PyProof.Rows.callWith_type1 (thn (ha pos pins s σ H _ I h) fun us s1 ⟨vs, H1, I1, r1, q1⟩ => ?_) (by rw [hs, hs2]) (by rw [hs2]; rfl)))
  obtain ⟨i, j, e, ⟨q1, q2, q3, q4⟩, q⟩ := q1
  subst e
  cases r1 with
  | cons r rr =>
    cases rr with
    | cons r' rr =>
      cases rr
      obtain ⟨t, rfl⟩ := r
      obtain ⟨t', rfl⟩ := r'
      exact call_range_2 (range_it I1 q1 q2 q3 q4 q)

/-! ### for -/
/-- W: the invariant by the turn and a measure; N: what the body is to reach -/
def tFor (wi : TI) (g : TG) (tb : TS) : TS := fun D σ H => wi σ H fun J H1 => ∃ W : Nat → Nat → St → Hp → Prop, (∃ m, W 0 m σ H1) ∧ ∀ i m σ H, W i m σ H →
  (J.stop i H ∧ D.nx σ H) ∨ (J.go i H ∧ ∃ N : St → Hp → Prop, (∀ σ' H', N σ' H' → ∃ m', m' < m ∧ W (i + 1) m' σ' H') ∧ ∀ x H', J.yld i H x H' → g x σ H' fun σ2 H2 => tb { D with nx := N, ct := N, bk := D.nx } σ2 H2)
/-- the records at fp as they stand -/
def pinsAt (fp : List Addr) (h : Heap) : List (Addr × Obj) := fp.filterMap fun b => (h.get? b).map fun o => (b, o)
theorem mem_pinsAt {fp : List Addr} {h : Heap} {b : Addr} {o : Obj} (hb : b ∈ fp) (e : h.get? b = some o) : (b, o) ∈ pinsAt fp h := List.mem_filterMap.mpr ⟨b, hb, by rw [e]; rfl⟩
theorem of_pinsAt {fp : List Addr} {h : Heap} {p : Addr × Obj} (hp : p ∈ pinsAt fp h) : p.1 ∈ fp ∧ h.get? p.1 = some p.2 := by
  obtain ⟨b, hb, e⟩ := List.mem_filterMap.mp hp
  cases q : h.get? b with
  | none => rw [q] at e; cases e
  | some o =>
    rw [q] at e
    have e' : (b, o) = p := Option.some.inj e
    subst e'
    exact ⟨hb, q⟩
theorem Inv.pinned {pins : List (Addr × Obj)} {σ : St} {H : Hp} {s : Shared} {fp : List Addr} (I : Inv X pins σ H s) (hf : ∀ b ∈ fp, FpOk X pins H b) (ho : ∀ b ∈ fp, ∃ o, s.heap.get? b = some o ∧ ∀ v, o.data ≠ .cell v) : Inv X (pins ++ pinsAt fp s.heap) σ H s :=
  I.pins_of fun p hp => (List.mem_append.mp hp).elim (fun z => I.pin p (List.mem_append_right _ z)) fun z => by
    obtain ⟨hb, e⟩ := of_pinsAt z
    obtain ⟨f0, f1, f2, _⟩ := hf p.1 hb
    obtain ⟨o, e', d⟩ := ho p.1 hb
    rw [e] at e'; cases e'
    exact ⟨e, f0, f1, f2, d⟩
theorem Inv.unpinned {pins pl : List (Addr × Obj)} {σ : St} {H : Hp} {s : Shared} (I : Inv X (pins ++ pl) σ H s) : Inv X pins σ H s := I.pins_of fun p hp => I.pin p (List.mem_append_right _ (List.mem_append_left _ hp))
theorem ps_for {iter : Expr} {body : List Stmt} {wi : TI} {g : TG} {tb : TS} {pos : Pos} (hp : PassesOwn (model X.prog X.w) X.A X.env X.xe) (hc : X.calm = true) (hi : PI X tg iter wi) (hg : PG X tg g) (hb : PSs X body tb)
    (hs : ∀ x, foldedSetIterable iter X.env x = pure x := by intro _; rfl) : PS X (.For tg iter body [] pos) (tFor wi g tb) := by
  intro pins s σ H D I h
  refine wpAny_For (thn (hi pins s σ H _ I h) fun v s1 h1 => thn h1 fun itv s2 h2 => ?_) hs
  obtain ⟨it, fp, tn, J, H2, e, I2, T, st2, f2, W, ⟨m0, w0⟩, turn⟩ := h2
  subst e
  -- what stays true of the iterator's objects through the loop
  have stat : ∀ {H' : Hp}, (∀ b ∈ fp, H' b = none) → ∀ b ∈ fp, FpOk X pins H' b := fun hn b hb => ⟨hn b hb, (f2 b hb).2⟩
  refine codeAny_forLoop_any (fun n s' => ∃ i σ' H', Inv X pins σ' H' s' ∧ tn i s'.heap ∧ (∀ b ∈ fp, H' b = none) ∧ W i n σ' H') ?_ m0 ⟨0, σ, H2, I2, st2, fun b hb => (f2 b hb).1, w0⟩
  rintro n s3 ⟨i, σ3, H3, I3, st3, fr3, w3⟩
  rcases turn i n σ3 H3 w3 with ⟨stop, qn⟩ | ⟨go, N, hN, step⟩
  · refine wpAny_passesOwn hp (thn (T.done X rfl rfl rfl hc i pins s3 σ3 H3 X.xe I3 (stat fr3) st3 stop) fun r s4 ⟨hr, I4⟩ => ?_)
    subst hr
    exact wpAny_execs_nil ⟨σ3, H3, I4, qn⟩
  · refine wpAny_passesOwn hp (thn (T.item X rfl rfl rfl hc i pins s3 σ3 H3 X.xe I3 (stat fr3) st3 go) fun r s4 ⟨u, hr, h4⟩ => ?_)
    subst hr
    refine wpAny_passesOwn hp (thn h4 fun _ s5 ⟨x, H5, I5, r5, y5, st5, fr5⟩ => ?_)
    have I5' := I5.pinned (stat fr5) (T.obj _ _ st5)
    refine wpAny_passesOwn hp (thn (hg _ s5 σ3 H5 x u _ I5' r5 (step x H5 y5)) fun _ s6 ⟨σ6, H6, I6, q6⟩ => ?_)
    refine wpAny_passesOwn hp (thn (hb _ s6 σ6 H6 _ I6 q6) fun f s7 q7 => ?_)
    have again : ∀ {σ7 : St} {H7 : Hp}, Inv X (pins ++ pinsAt fp s5.heap) σ7 H7 s7 → N σ7 H7 → ∃ m, m < n ∧ ∃ i σ' H', Inv X pins σ' H' s7 ∧ tn i s7.heap ∧ (∀ b ∈ fp, H' b = none) ∧ W i m σ' H' := fun {σ7 H7} I7 n7 => by
      obtain ⟨m', hm, w7⟩ := hN σ7 H7 n7
      refine ⟨m', hm, i + 1, σ7, H7, I7.unpinned, T.keep _ _ _ st5 fun b hb o e => (I7.pin (b, o) (List.mem_append_right _ (List.mem_append_right _ (mem_pinsAt hb e)))).1, fun b hb => ?_, w7⟩
      obtain ⟨o, e, d⟩ := T.obj _ _ st5 b hb
      exact (I7.pin (b, o) (List.mem_append_right _ (List.mem_append_right _ (mem_pinsAt hb e)))).2.1
    cases f with
    | next => obtain ⟨σ7, H7, I7, n7⟩ := q7; exact again I7 n7
    | cont => obtain ⟨σ7, H7, I7, n7⟩ := q7; exact again I7 n7
    | brk => obtain ⟨σ7, H7, I7, q7⟩ := q7; exact ⟨σ7, H7, I7.unpinned, q7⟩
    | ret v => obtain ⟨x7, σ7, H7, I7, r7, q7⟩ := q7; exact ⟨x7, σ7, H7, I7.unpinned, r7, q7⟩
end

/-! ### the forms one uses -/
/-- over a list that the body leaves as it is -/
theorem for_list {K : PySem.W.Frag} {a : Addr} {xs : List V} {g : TG} {tb : TS} {D : Ends} {σ : St} {H : Hp} (Pv : Nat → St → Hp → Prop) (h0 : Pv 0 σ H) (hl : ∀ i σ H, i ≤ xs.length → Pv i σ H → SqL K H a xs)
    (hs : ∀ i x σ H, xs[i]? = some x → Pv i σ H → g x σ H fun σ2 H2 => tb { D with nx := Pv (i + 1), ct := Pv (i + 1), bk := D.nx } σ2 H2) (hd : ∀ σ H, Pv xs.length σ H → D.nx σ H) :
    ∃ W : Nat → Nat → St → Hp → Prop, (∃ m, W 0 m σ H) ∧ ∀ i m σ H, W i m σ H →
      ((Itl K a).stop i H ∧ D.nx σ H) ∨ ((Itl K a).go i H ∧ ∃ N : St → Hp → Prop, (∀ σ' H', N σ' H' → ∃ m', m' < m ∧ W (i + 1) m' σ' H') ∧ ∀ x H', (Itl K a).yld i H x H' → g x σ H' fun σ2 H2 => tb { D with nx := N, ct := N, bk := D.nx } σ2 H2) := by
  refine ⟨fun i m σ H => m = xs.length - i ∧ i ≤ xs.length ∧ Pv i σ H, ⟨xs.length, by simp, Nat.zero_le _, h0⟩, ?_⟩
  rintro i m σ H ⟨rfl, hi, p⟩
  have q := hl i σ H hi p
  by_cases hlt : i < xs.length
  · refine .inr ⟨⟨xs, xs[i], q, by simp [hlt]⟩, Pv (i + 1), fun σ' H' p' => ⟨xs.length - (i + 1), by omega, rfl, hlt, p'⟩, fun x H' y => ?_⟩
    obtain ⟨e, y⟩ := y
    subst e
    exact hs i x σ _ (y xs q) p
  · have e : i = xs.length := by omega
    subst e
    exact .inl ⟨⟨xs, q, Nat.le_refl _⟩, hd σ H p⟩
theorem for_range {lo : Int} {n : Nat} {g : TG} {tb : TS} {D : Ends} {σ : St} {H : Hp} (Pv : Nat → St → Hp → Prop) (h0 : Pv 0 σ H)
    (hs : ∀ i σ H, i < n → Pv i σ H → g (.int (lo + i)) σ H fun σ2 H2 => tb { D with nx := Pv (i + 1), ct := Pv (i + 1), bk := D.nx } σ2 H2) (hd : ∀ σ H, Pv n σ H → D.nx σ H) :
    ∃ W : Nat → Nat → St → Hp → Prop, (∃ m, W 0 m σ H) ∧ ∀ i m σ H, W i m σ H →
      ((Itr lo n).stop i H ∧ D.nx σ H) ∨ ((Itr lo n).go i H ∧ ∃ N : St → Hp → Prop, (∀ σ' H', N σ' H' → ∃ m', m' < m ∧ W (i + 1) m' σ' H') ∧ ∀ x H', (Itr lo n).yld i H x H' → g x σ H' fun σ2 H2 => tb { D with nx := N, ct := N, bk := D.nx } σ2 H2) := by
  refine ⟨fun i m σ H => m = n - i ∧ i ≤ n ∧ Pv i σ H, ⟨n, by simp, Nat.zero_le _, h0⟩, ?_⟩
  rintro i m σ H ⟨rfl, hi, p⟩
  by_cases hlt : i < n
  · refine .inr ⟨hlt, Pv (i + 1), fun σ' H' p' => ⟨n - (i + 1), by omega, rfl, hlt, p'⟩, fun x H' y => ?_⟩
    obtain ⟨e, y⟩ := y
    subst e y
    exact hs i σ _ hlt p
  · have e : i = n := by omega
    subst e
    exact .inl ⟨Nat.le_refl _, hd σ H p⟩
end L2

namespace L2
open PySem PySem.Spec PyProof.Rows

abbrev R2 := V → V → Hp → VK → Prop
/-- a two-place operation on values: f is binaryOp op, inplaceOp op or compareOp op -/
def OpR (X : Cx) (f : Value → Value → Sem Value) (r : R2) : Prop :=
  ∀ (pins : List (Addr × Obj)) (s : Shared) (σ : St) (H : Hp) (x y : V) (v u : Value) (Q : VK), Inv X pins σ H s → RelV x v → RelV y u → r x y H Q →
    wpAny (model X.prog X.w) X.A (f v u) (EP X pins σ Q) X.xe s
/-- a one-place operation -/
def UnR (X : Cx) (f : Value → Sem Value) (r : V → Hp → VK → Prop) : Prop :=
  ∀ (pins : List (Addr × Obj)) (s : Shared) (σ : St) (H : Hp) (x : V) (v : Value) (Q : VK), Inv X pins σ H s → RelV x v → r x H Q →
    wpAny (model X.prog X.w) X.A (f v) (EP X pins σ Q) X.xe s
/-- a call of a value that is known (a builtin, a type) with values -/
def CallR (X : Cx) (f : Value) (r : List V → Hp → VK → Prop) : Prop :=
  ∀ (pins : List (Addr × Obj)) (s : Shared) (σ : St) (H : Hp) (xs : List V) (us : List Value) (Q : VK), Inv X pins σ H s → Vals xs us → r xs H Q →
    wpAny (model X.prog X.w) X.A (call f us) (EP X pins σ Q) X.xe s
/-- a value's truth -/
def TruR (X : Cx) (r : V → Hp → (Bool → Hp → Prop) → Prop) : Prop :=
  ∀ (pins : List (Addr × Obj)) (s : Shared) (σ : St) (H : Hp) (x : V) (v : Value) (Q : Bool → Hp → Prop), Inv X pins σ H s → RelV x v → r x H Q →
    wpAny (model X.prog X.w) X.A (truthy v) (TP X pins σ Q) X.xe s

def tOp (r : R2) (ta tb : TE) : TE := fun σ H Q => ta σ H fun x H1 => tb σ H1 fun y H2 => r x y H2 Q
def tUn (r : V → Hp → VK → Prop) (ta : TE) : TE := fun σ H Q => ta σ H fun x H1 => r x H1 Q
/-- ints in, under C, and a value out -/
def rI (C : Int → Int → Prop) (g : Int → Int → V) : R2 := fun x y H Q => ∃ i j, x = .int i ∧ y = .int j ∧ C i j ∧ Q (g i j) H
def rI0 (g : Int → Int → V) : R2 := fun x y H Q => ∃ i j, x = .int i ∧ y = .int j ∧ Q (g i j) H
def rU (g : Int → V) : V → Hp → VK → Prop := fun x H Q => ∃ i, x = .int i ∧ Q (g i) H

section
variable {X : Cx} {a b c : Expr} {ta tb tc : TE} {pos : Pos}

theorem binT (ha : PE X a ta) (hb : PE X b tb) {pins : List (Addr × Obj)} {s : Shared} {σ : St} {H : Hp} {R : V → V → Hp → Prop} (I : Inv X pins σ H s)
    (h : ta σ H fun x H1 => tb σ H1 fun y H2 => R x y H2) {Q : Value → Shared → Prop} {f : Value → Value → Sem Value}
    (hf : ∀ v u s2 x y H2, Inv X pins σ H2 s2 → RelV x v → RelV y u → R x y H2 → wpAny (model X.prog X.w) X.A (f v u) Q X.xe s2) :
    wpAny (model X.prog X.w) X.A (eval a X.env) (fun v s₁ => wpAny (model X.prog X.w) X.A (eval b X.env) (fun u s₂ => wpAny (model X.prog X.w) X.A (f v u) Q X.xe s₂) X.xe s₁) X.xe s := by
  refine thn (ha pins s σ H _ I h) fun v s1 ⟨x, H1, I1, r1, q1⟩ => ?_
  refine thn (hb pins s1 σ H1 _ I1 q1) fun u s2 ⟨y, H2, I2, r2, q2⟩ => ?_
  exact hf v u s2 x y H2 I2 r1 r2 q2

theorem pe_op {op : Operator} {r : R2} (ho : OpR X (binaryOp op) r) (ha : PE X a ta) (hb : PE X b tb) : PE X (.BinOp a op b pos) (tOp r ta tb) := by
  intro pins s σ H Q I h
  exact wpAny_BinOp (binT ha hb I h fun v u s2 x y H2 I2 rx ry q => ho pins s2 σ H2 x y v u Q I2 rx ry q)
theorem pe_un {op : UnaryOp} {r : V → Hp → VK → Prop} (ho : UnR X (unaryOp op) r) (ha : PE X a ta) : PE X (.UnaryOp op a pos) (tUn r ta) := by
  intro pins s σ H Q I h
  exact UnaryOp_ (thn (ha pins s σ H _ I h) fun v s1 ⟨x, H1, I1, r1, q1⟩ => ho pins s1 σ H1 x v Q I1 r1 q1)
/-! ### ints -/
theorem opI {f : Value → Value → Sem Value} {C : Int → Int → Prop} {g : Int → Int → Int}
    (rule : ∀ (i j : Int) (t u : Tok) (s : Shared) (Q : Value → Shared → Prop) (E : Value → Shared → Prop), C i j → Q (.int (g i j) s.toks) { s with toks := s.toks + 1 } → wpAny (model X.prog X.w) X.A (f (.int i t) (.int j u)) Q E s) :
    OpR X f (rI C fun i j => .int (g i j)) := by
  intro pins s σ H x y v u Q I rx ry h
  obtain ⟨i, j, rfl, rfl, hc, q⟩ := h
  obtain ⟨t, rfl⟩ := rx
  obtain ⟨t', rfl⟩ := ry
  exact rule i j t t' s _ _ hc ⟨.int (g i j), H, I.tok _, ⟨_, rfl⟩, q⟩
theorem opI0 {f : Value → Value → Sem Value} {g : Int → Int → Int}
    (rule : ∀ (i j : Int) (t u : Tok) (s : Shared) (Q : Value → Shared → Prop) (E : Value → Shared → Prop), Q (.int (g i j) s.toks) { s with toks := s.toks + 1 } → wpAny (model X.prog X.w) X.A (f (.int i t) (.int j u)) Q E s) :
    OpR X f (rI0 fun i j => .int (g i j)) := by
  intro pins s σ H x y v u Q I rx ry h
  obtain ⟨i, j, rfl, rfl, q⟩ := h
  obtain ⟨t, rfl⟩ := rx
  obtain ⟨t', rfl⟩ := ry
  exact rule i j t t' s _ _ ⟨.int (g i j), H, I.tok _, ⟨_, rfl⟩, q⟩
theorem opB0 {f : Value → Value → Sem Value} {g : Int → Int → Bool}
    (rule : ∀ (i j : Int) (t u : Tok) (s : Shared) (Q : Value → Shared → Prop) (E : Value → Shared → Prop), Q (.bool (g i j)) s → wpAny (model X.prog X.w) X.A (f (.int i t) (.int j u)) Q E s) :
    OpR X f (rI0 fun i j => .bl (g i j)) := by
  intro pins s σ H x y v u Q I rx ry h
  obtain ⟨i, j, rfl, rfl, q⟩ := h
  obtain ⟨t, rfl⟩ := rx
  obtain ⟨t', rfl⟩ := ry
  exact rule i j t t' s _ _ ⟨.bl (g i j), H, I, rfl, q⟩

def CDiv (i j : Int) : Prop := 0 < j ∧ j < 1073741824
def CDivN (i j : Int) : Prop := j ≠ 0 ∧ j.natAbs < 1073741824
def CPow (i j : Int) : Prop := 0 ≤ j ∧ j ≤ 1000000 ∧ i.natAbs < 2 ^ 64
def CMul (i j : Int) : Prop := (-(2 ^ 64) < i ∧ i < 2 ^ 64) ∨ (-(2 ^ 64) < j ∧ j < 2 ^ 64)
theorem CMul.ok {i j : Int} (h : CMul i j) : IntMulOk i j := by
  rcases h with ⟨h1, h2⟩ | ⟨h1, h2⟩
  · exact .of_left (intBits_le_64 h1 h2)
  · exact .of_right (intBits_le_64 h1 h2)
theorem op_add : OpR X (binaryOp .Add) (rI0 fun i j => .int (i + j)) := opI0 fun _ _ _ _ _ _ _ q => add_int q
theorem op_sub : OpR X (binaryOp .Sub) (rI0 fun i j => .int (i - j)) := opI0 fun _ _ _ _ _ _ _ q => sub_int q
theorem op_mul : OpR X (binaryOp .Mult) (rI CMul fun i j => .int (i * j)) := opI fun _ _ _ _ _ _ _ hc q => mul_int q hc.ok
/-- // by a positive divisor -/
theorem op_fdiv : OpR X (binaryOp .FloorDiv) (rI CDiv fun i j => .int (i / j)) := opI fun i j _ _ _ _ _ hc q => by
  have h1 : (0 : Int) < j := hc.1
  have h2 : j < 1073741824 := hc.2
  exact floordiv_int (by omega) (by rw [Int.fdiv_eq_ediv_of_nonneg i (by omega)]; exact q) (.inl (PyProof.noPylong_small (by omega)))
/-- % by a positive divisor of any size -/
theorem op_mod : OpR X (binaryOp .Mod) (rI (fun _ j => 0 < j) fun i j => .int (i % j)) := opI fun i j _ _ _ _ _ hc q => by
  have h1 : (0 : Int) < j := hc
  exact mod_int' (by omega) (by rw [Int.fmod_eq_emod_of_nonneg i (by omega)]; exact q)
theorem op_pow : OpR X (binaryOp .Pow) (rI CPow fun i j => .int (i ^ j.toNat)) := opI fun _ _ _ _ _ _ _ hc q => pow_int_small hc.1 hc.2.1 hc.2.2 q
theorem unI {f : Value → Sem Value} {g : Int → Int}
    (rule : ∀ (i : Int) (t : Tok) (s : Shared) (Q : Value → Shared → Prop) (E : Value → Shared → Prop), Q (.int (g i) s.toks) { s with toks := s.toks + 1 } → wpAny (model X.prog X.w) X.A (f (.int i t)) Q E s) :
    UnR X f (rU fun i => .int (g i)) := by
  intro pins s σ H x v Q I rx h
  obtain ⟨i, rfl, q⟩ := h
  obtain ⟨t, rfl⟩ := rx
  exact rule i t s _ _ ⟨.int (g i), H, I.tok _, ⟨_, rfl⟩, q⟩
theorem un_neg : UnR X (unaryOp .USub) (rU fun i => .int (-i)) := unI fun _ _ _ _ _ q => neg_int q
/-! ### bools among ints: n += (a < b) -/
end

/-! ### comparisons -/
/-- the scalars that == tells apart as data does -/
def scal : V → V → Bool
  | .non, .non => true | .non, .int _ => true | .int _, .non => true | .non, .bl _ => true | .bl _, .non => true | .non, .str _ => true | .str _, .non => true
  | .int _, .int _ => true | .bl _, .bl _ => true | .str _, .str _ => true | .byt _, .byt _ => true
  | .int _, .str _ => true | .str _, .int _ => true | .bl _, .str _ => true | .str _, .bl _ => true
  | _, _ => false
def rEq : R2 := fun x y H Q => scal x y = true ∧ Q (.bl (decide (x = y))) H
def rNe : R2 := fun x y H Q => scal x y = true ∧ Q (.bl (!decide (x = y))) H

theorem dec_int {i j : Int} : decide (V.int i = V.int j) = (i == j) := by
  rw [Bool.eq_iff_iff]
  simp
theorem dec_bl {i j : Bool} : decide (V.bl i = V.bl j) = (i == j) := by
  rw [Bool.eq_iff_iff]
  simp
theorem dec_str {i j : Str} : decide (V.str i = V.str j) = (i == j) := by
  rw [Bool.eq_iff_iff]
  simp
theorem dec_byt {i j : Array UInt8} : decide (V.byt i = V.byt j) = (i.toList == j.toList) := by
  rw [Bool.eq_iff_iff]
  cases i
  cases j
  simp

section
variable {X : Cx} {a b c : Expr} {ta tb tc : TE} {pos : Pos}
theorem fin_bl {pins : List (Addr × Obj)} {σ : St} {H : Hp} {s : Shared} {Q : VK} {k k' : Bool} (I : Inv X pins σ H s) (q : Q (.bl k) H) (e : k = k') : EP X pins σ Q (.bool k') s := by
  subst e
  exact ⟨.bl k, H, I, rfl, q⟩
theorem op_eq : OpR X (compareOp .Eq) rEq := by
  intro pins s σ H x y v u Q I rx ry h
  obtain ⟨hs, q⟩ := h
  cases x with
  | non =>
    cases rx
    cases y with
    | non => cases ry; exact PySem.EqNone.eq_none_none (fin_bl I q (by simp))
    | bl j => cases ry; exact PySem.EqNone.eq_none_bool (fin_bl I q (by simp))
    | int j => obtain ⟨t', rfl⟩ := ry; exact PySem.EqNone.eq_none_int (fin_bl I q (by simp))
    | str j => obtain ⟨t', rfl⟩ := ry; exact PySem.EqNone.eq_none_str (fin_bl I q (by simp))
    | _ => exact absurd (show false = true from hs) Bool.false_ne_true
  | bl i =>
    cases rx
    cases y with
    | non => cases ry; exact PySem.EqNone.eq_bool_none (fin_bl I q (by simp))
    | bl j => cases ry; exact eq_bool (fin_bl I q dec_bl)
    | str j => obtain ⟨t', rfl⟩ := ry; exact PySem.EqMixed.eq_bool_str (fin_bl I q (by simp))
    | _ => exact absurd (show false = true from hs) Bool.false_ne_true
  | int i =>
    obtain ⟨t, rfl⟩ := rx
    cases y with
    | non => cases ry; exact PySem.EqNone.eq_int_none (fin_bl I q (by simp))
    | int j => obtain ⟨t', rfl⟩ := ry; exact eq_int (fin_bl I q dec_int)
    | str j => obtain ⟨t', rfl⟩ := ry; exact PySem.EqMixed.eq_int_str (fin_bl I q (by simp))
    | _ => exact absurd (show false = true from hs) Bool.false_ne_true
  | str i =>
    obtain ⟨t, rfl⟩ := rx
    cases y with
    | non => cases ry; exact PySem.EqNone.eq_str_none (fin_bl I q (by simp))
    | bl j => cases ry; exact PySem.EqMixed.eq_str_bool (fin_bl I q (by simp))
    | int j => obtain ⟨t', rfl⟩ := ry; exact PySem.EqMixed.eq_str_int (fin_bl I q (by simp))
    | str j => obtain ⟨t', rfl⟩ := ry; exact eq_str (fin_bl I q dec_str)
    | _ => exact absurd (show false = true from hs) Bool.false_ne_true
  | byt i =>
    obtain ⟨t, rfl⟩ := rx
    cases y with
    | byt j => obtain ⟨t', rfl⟩ := ry; exact PySem.W.eq_bytes (fin_bl I q dec_byt)
    | _ => exact absurd (show false = true from hs) Bool.false_ne_true
  | _ => cases y <;> exact absurd (show false = true from hs) Bool.false_ne_true
theorem op_ne : OpR X (compareOp .NotEq) rNe := by
  intro pins s σ H x y v u Q I rx ry h
  obtain ⟨hs, q⟩ := h
  cases x with
  | non =>
    cases rx
    cases y with
    | non => cases ry; exact PySem.EqNone.ne_none_none (fin_bl I q (by simp))
    | bl j => cases ry; exact PySem.EqNone.ne_none_bool (fin_bl I q (by simp))
    | int j => obtain ⟨t', rfl⟩ := ry; exact PySem.EqNone.ne_none_int (fin_bl I q (by simp))
    | str j => obtain ⟨t', rfl⟩ := ry; exact PySem.EqNone.ne_none_str (fin_bl I q (by simp))
    | _ => exact absurd (show false = true from hs) Bool.false_ne_true
  | bl i =>
    cases rx
    cases y with
    | non => cases ry; exact PySem.EqNone.ne_bool_none (fin_bl I q (by simp))
    | bl j => cases ry; exact ne_bool (fin_bl I q (congrArg not dec_bl))
    | str j => obtain ⟨t', rfl⟩ := ry; exact PySem.EqMixed.ne_bool_str (fin_bl I q (by simp))
    | _ => exact absurd (show false = true from hs) Bool.false_ne_true
  | int i =>
    obtain ⟨t, rfl⟩ := rx
    cases y with
    | non => cases ry; exact PySem.EqNone.ne_int_none (fin_bl I q (by simp))
    | int j => obtain ⟨t', rfl⟩ := ry; exact ne_int (fin_bl I q (congrArg not dec_int))
    | str j => obtain ⟨t', rfl⟩ := ry; exact PySem.EqMixed.ne_int_str (fin_bl I q (by simp))
    | _ => exact absurd (show false = true from hs) Bool.false_ne_true
  | str i =>
    obtain ⟨t, rfl⟩ := rx
    cases y with
    | non => cases ry; exact PySem.EqNone.ne_str_none (fin_bl I q (by simp))
    | bl j => cases ry; exact PySem.EqMixed.ne_str_bool (fin_bl I q (by simp))
    | int j => obtain ⟨t', rfl⟩ := ry; exact PySem.EqMixed.ne_str_int (fin_bl I q (by simp))
    | str j => obtain ⟨t', rfl⟩ := ry; exact ne_str (fin_bl I q (congrArg not dec_str))
    | _ => exact absurd (show false = true from hs) Bool.false_ne_true
  | byt i =>
    obtain ⟨t, rfl⟩ := rx
    cases y with
    | byt j => obtain ⟨t', rfl⟩ := ry; exact PySem.W.ne_bytes (fin_bl I q (congrArg not dec_byt))
    | _ => exact absurd (show false = true from hs) Bool.false_ne_true
  | _ => cases y <;> exact absurd (show false = true from hs) Bool.false_ne_true

theorem op_lt : OpR X (compareOp .Lt) (rI0 fun i j => .bl (decide (i < j))) := opB0 fun _ _ _ _ _ _ _ q => lt_int q
theorem op_gt : OpR X (compareOp .Gt) (rI0 fun i j => .bl (decide (j < i))) := opB0 fun _ _ _ _ _ _ _ q => gt_int q
theorem op_ge : OpR X (compareOp .GtE) (rI0 fun i j => .bl (decide (j ≤ i))) := opB0 fun _ _ _ _ _ _ _ q => ge_int q
/-- is, is not of two objects that are tracked lists or instances -/
def isObj : HO → Bool
  | .lst _ => true
  | .ins _ _ _ => true
  | _ => false
theorem nomark (b : Expr) {op : CmpOp} (h : op ≠ .In := by decide) (h2 : op ≠ .NotIn := by decide) : behindInMarks op b = false := by
  have e1 : (op == CmpOp.In) = false := by cases op <;> first | rfl | exact absurd rfl h
  have e2 : (op == CmpOp.NotIn) = false := by cases op <;> first | rfl | exact absurd rfl h2
  cases b <;> simp [behindInMarks, e1, e2]
/-- a comparison as a value; hm: nomark b, or (for in, not in) by with_unfolding_all rfl -/
theorem pe_cmpR {op : CmpOp} {r : R2} (ho : OpR X (compareOp op) r) (ha : PE X a ta) (hb : PE X b tb) (hm : behindInMarks op b = false) : PE X (.Compare a [op] [b] pos) (tOp r ta tb) := by
  intro pins s σ H Q I h
  exact wpAny_Compare1 (binT ha hb I h fun v u s2 x y H2 I2 rx ry q => ho pins s2 σ H2 x y v u Q I2 rx ry q) hm
/-- a reading of a value as a test -/
def tTest (t : TE) : TT := fun σ H Q => t σ H fun x H' => ∃ k, x = .bl k ∧ Q k H'
theorem pt_cmpR {op : CmpOp} {r : R2} (ho : OpR X (compareOp op) r) (ha : PE X a ta) (hb : PE X b tb) (hm : behindInMarks op b = false) : PT X (.Compare a [op] [b] pos) (tTest (tOp r ta tb)) := by
  intro pins s σ H Q I h
  refine wpAny_isTrue_Compare1 (thn (ha pins s σ H _ I h) fun v s1 ⟨x, H1, I1, r1, q1⟩ => thn (hb pins s1 σ H1 _ I1 q1) fun u s2 ⟨y, H2, I2, r2, q2⟩ =>
    thn (ho pins s2 σ H2 x y v u _ I2 r1 r2 q2) fun c s3 ⟨z, H3, I3, r3, k, e, q3⟩ => ?_) hm
  subst e
  cases r3
  exact wpAny_truthy_bool ⟨H3, I3, q3⟩
/-- a op1 b op2 c -/
def tChain (r r' : R2) (ta tb tc : TE) : TE := fun σ H Q => ta σ H fun x H1 => tb σ H1 fun y H2 => r x y H2 fun z H3 => ∃ k, z = .bl k ∧
  (if k = true then tc σ H3 fun w' H4 => r' y w' H4 Q else Q (.bl false) H3)
/-! ### truth -/
/-- a value's truth by the abstract heap -/
def TruV (K : PySem.W.Frag) (x : V) (H : Hp) (k : Bool) : Prop :=
  match x with
  | .non => k = false
  | .bl b => k = b
  | .int i => k = (i != 0)
  | .str y => y.length ≤ sizeLine ∧ k = ((y.length : Int) != 0)
  | .byt y => y.size ≤ sizeLine ∧ k = ((y.size : Int) != 0)
  | .ref p => (∃ xs, SqL K H p xs ∧ k = !xs.isEmpty) ∨ (∃ xs, SqT K H p xs ∧ k = !xs.isEmpty) ∨ ∃ kvs, H p = some (.dK kvs) ∧ k = !kvs.isEmpty
  | _ => False
theorem isEmpty_kv {κ : Type} {kvs : List (κ × V)} {vs : List (κ × Value)} (r : KV kvs vs) : (!vs.isEmpty) = !kvs.isEmpty := by
  cases r <;> rfl
theorem isEmpty_of {xs : List V} {its : List Value} (r : Vals xs its) : (!its.toArray.isEmpty) = !xs.isEmpty := by
  cases r <;> simp
theorem line63 : (sizeLine : Nat) < 2 ^ 63 := by rw [sizeLine_eq]; decide
theorem tru_ok : TruR X (fun x H Q => ∃ k, TruV X.K x H k ∧ Q k H) := by
  intro pins s σ H x v Q I rx h
  obtain ⟨k, e, q⟩ := h
  have hl := line63
  have hs : sizeLine = 16777216 := sizeLine_eq
  cases x with
  | non =>
    cases rx
    have e' : k = false := e
    subst e'
    exact truthy_none ⟨H, I, q⟩
  | bl b =>
    cases rx
    have e' : k = b := e
    subst e'
    exact wpAny_truthy_bool ⟨H, I, q⟩
  | int i =>
    obtain ⟨t, rfl⟩ := rx
    have e' : k = (i != 0) := e
    subst e'
    exact PySem.P.truthy_int ⟨H, I, q⟩
  | str y =>
    obtain ⟨t, rfl⟩ := rx
    obtain ⟨hy, e'⟩ : y.length ≤ sizeLine ∧ k = ((y.length : Int) != 0) := e
    subst e'
    exact PySem.P.truthy_str (by omega) ⟨H, I.tok _, q⟩
  | byt y =>
    obtain ⟨t, rfl⟩ := rx
    obtain ⟨hy, e'⟩ : y.size ≤ sizeLine ∧ k = ((y.size : Int) != 0) := e
    subst e'
    exact PySem.W.truthy_bytes (by omega) ⟨H, I.tok _, q⟩
  | ref p =>
    cases rx
    have e' : (∃ xs, SqL X.K H p xs ∧ k = !xs.isEmpty) ∨ (∃ xs, SqT X.K H p xs ∧ k = !xs.isEmpty) ∨ ∃ kvs, H p = some (.dK kvs) ∧ k = !kvs.isEmpty := e
    rcases e' with ⟨xs, hx, e'⟩ | ⟨xs, hx, e'⟩ | ⟨kvs, hx, e'⟩
    · subst e'
      obtain ⟨its, r, pl, hz⟩ := I.list hx
      have hlen := r.length
      exact wpAny_truthy_list pl.isList (by simp only [List.size_toArray]; omega) ⟨H, I.tok _, by rw [isEmpty_of r]; exact q⟩
    · subst e'
      obtain ⟨its, r, pl, hz⟩ := I.tuple hx
      have hlen := r.length
      exact truthy_tuple pl (by simp only [List.size_toArray]; omega) ⟨H, I.tok _, by rw [isEmpty_of r]; exact q⟩
    · subst e'
      obtain ⟨hz, hS, vs, r, m⟩ : kvs.length ≤ sizeLine ∧ (p == sysModules) = false ∧ ∃ vs, KV kvs vs ∧ s.heap.DictOf (mixKind X.prog X.w) p vs := I.hok p _ hx
      have hlen : kvs.length = vs.length := Paired.length r
      exact wpAny_truthy_dict hS m (by omega) ⟨H, I.tok _, by rw [isEmpty_kv r]; exact q⟩
  | _ => exact (show False from e).elim
/-- any expression whose test is its value's truth (a name, a call, a subscript, a field ..: he by fun _ => rfl) -/
theorem pt_truth (ha : PE X a ta) (he : ∀ whole, isTrue a X.env whole = (do let v ← whole; standAt a.pos; holding [v] (truthy v))) :
    PT X a (fun σ H Q => ta σ H fun x H' => ∃ k, TruV X.K x H' k ∧ Q k H') := by
  intro pins s σ H Q I h
  exact isTrue_plain (thn (ha pins s σ H _ I h) fun v s1 ⟨x, H1, I1, r1, q1⟩ => tru_ok pins s1 σ H1 x v Q I1 r1 q1) (he _)

/-! ### strs and bytes -/
def PlainIxT (b : Expr) : Prop := ∀ o i, subscripted b false o i = operate [o, i] (getItem o i)
/-! ### scalar builtins, by CallR -/
theorem vals1 {x : V} {us : List Value} (r : Vals [x] us) : ∃ u, us = [u] ∧ RelV x u := by
  cases r with
  | cons r1 r2 => cases r2; exact ⟨_, rfl, r1⟩
theorem vals2 {x y : V} {us : List Value} (r : Vals [x, y] us) : ∃ u w', us = [u, w'] ∧ RelV x u ∧ RelV y w' := by
  cases r with
  | cons r1 r2 =>
    cases r2 with
    | cons r3 r4 => cases r4; exact ⟨_, _, rfl, r1, r3⟩
theorem call_abs : CallR X (.builtin "abs") (fun xs H Q => ∃ i, xs = [.int i] ∧ Q (.int (if i < 0 then -i else i)) H) := by
  intro pins s σ H xs us Q I r h
  obtain ⟨i, rfl, q⟩ := h
  obtain ⟨u, rfl, t, rfl⟩ := vals1 r
  exact call_abs_int fun u tk => ⟨.int (if i < 0 then -i else i), H, I.tok _, ⟨_, rfl⟩, q⟩
theorem call_int1 : CallR X (.type "int") (fun xs H Q => (∃ i, xs = [.int i] ∧ Q (.int i) H) ∨ ∃ k, xs = [.bl k] ∧ Q (.int (if k then 1 else 0)) H) := by
  intro pins s σ H xs us Q I r h
  rcases h with ⟨i, rfl, q⟩ | ⟨k, rfl, q⟩
  · obtain ⟨u, rfl, t, rfl⟩ := vals1 r
    exact call_int_int ⟨.int i, H, I, ⟨_, rfl⟩, q⟩
  · obtain ⟨u, rfl, r1⟩ := vals1 r
    cases r1
    exact call_int_bool ⟨.int (if k then 1 else 0), H, I.tok _, ⟨_, rfl⟩, q⟩
/-- len of a str, a bytes, a list, a tuple -/
def LenV (K : PySem.W.Frag) (x : V) (H : Hp) (n : Nat) : Prop :=
  match x with
  | .str y => y.length ≤ sizeLine ∧ n = y.length
  | .byt y => y.size ≤ sizeLine ∧ n = y.size
  | .ref p => (∃ xs, SqL K H p xs ∧ n = xs.length) ∨ ∃ xs, SqT K H p xs ∧ n = xs.length
  | _ => False
end
end L2

namespace L2
open PySem PySem.Spec PyProof.Rows

/-! ### an instance, its attributes a map -/
structure ObjM (h : Heap) (x dx C : Addr) (mA : Str → Option Value) : Prop where
  obj : h.get? x = some (PySem.W.instObj C dx)
  ns : h.Ns1 dx mA
  ne : dx ≠ x

theorem lookIn_ns {h : Heap} {dx : Addr} {mA : Str → Option Value} (n : h.Ns1 dx mA) : ∃ od, h.get? dx = some od ∧ ∀ name, PySem.W.lookIn name od = some (mA name) := by
  obtain ⟨o, es, ep, ho, hd, hk, _, hm⟩ := n
  refine ⟨o, ho, fun name => ?_⟩
  have e := hm name
  unfold nsFind findBy at e
  rw [← Array.find?_toList] at e
  unfold PySem.W.lookIn
  rw [hd]
  dsimp only
  split
  · rename_i y q
    rw [q] at e
    exact congrArg some e
  · rename_i q
    rw [q] at e
    have a : es.toList.any (·.refKey) = false := by
      rw [List.any_eq_false]
      intro y hy
      obtain ⟨z, t, hkey⟩ := hk y (Array.mem_toList_iff.mp hy)
      simp [DictEntry.refKey, hkey]
    have a' : ¬ es.toList.any (·.refKey) = true := by rw [a]; exact Bool.false_ne_true
    rw [if_neg a']
    exact congrArg some e

theorem ObjM.look {h : Heap} {x dx C : Addr} {mA : Str → Option Value} (I : ObjM h x dx C mA) : ∃ od, PySem.W.InstAt h x (PySem.W.instObj C dx) C (some od) ∧ ∀ name, PySem.W.lookIn name od = some (mA name) :=
  let ⟨od, ho, hl⟩ := lookIn_ns I.ns
  ⟨od, ⟨I.obj, rfl, rfl, ho⟩, hl⟩

section
variable {prog : Program} {w : World} {A : Around} {E : Value → Shared → Prop} {s : Shared} {K : PySem.W.Frag} {x dx C f : Addr} {mA : Str → Option Value} {name : Str} {v : Value}

end

/-! ### the attributes as a list of pairs -/
def putF (f : Str) (v : V) : List (Str × V) → List (Str × V)
  | [] => [(f, v)]
  | (g, x) :: r => if g = f then (g, v) :: r else (g, x) :: putF f v r
theorem lookup_putF (f g : Str) (v : V) : ∀ fs : List (Str × V), (putF f v fs).lookup g = if g = f then some v else fs.lookup g
  | [] => by
    show List.lookup g [(f, v)] = _
    by_cases h : g = f
    · have hb : (g == f) = true := beq_iff_eq.mpr h
      simp only [List.lookup, hb, if_pos h]
    · have hb : (g == f) = false := beq_eq_false_iff_ne.mpr h
      simp only [List.lookup, hb, if_neg h]
  | (k, x) :: r => by
    have ih := lookup_putF f g v r
    rw [show putF f v ((k, x) :: r) = (if k = f then (k, v) :: r else (k, x) :: putF f v r) from rfl]
    by_cases hk : k = f
    · rw [if_pos hk]
      by_cases h : g = k
      · have hb : (g == k) = true := beq_iff_eq.mpr h
        simp only [List.lookup, hb, if_pos (h.trans hk)]
      · have hb : (g == k) = false := beq_eq_false_iff_ne.mpr h
        simp only [List.lookup, hb, if_neg (fun e : g = f => h (e.trans hk.symm))]
    · rw [if_neg hk]
      by_cases h : g = k
      · have hb : (g == k) = true := beq_iff_eq.mpr h
        simp only [List.lookup, hb, if_neg (fun e : g = f => hk (h.symm.trans e))]
      · have hb : (g == k) = false := beq_eq_false_iff_ne.mpr h
        simp only [List.lookup, hb]
        exact ih
theorem RelO.some_of {v : V} {o : Option Value} (r : RelO (some v) o) : ∃ u, o = some u ∧ RelV v u := by
  cases o with
  | none => exact (show False from r).elim
  | some u => exact ⟨u, rfl, r⟩
theorem RelO.none_of {o : Option Value} (r : RelO none o) : o = none := by
  cases o with
  | none => rfl
  | some u => exact (show False from r).elim
theorem handed_of {v : V} {u : Value} (r : RelV v u) : PySem.W.handedIn u = true := by
  cases v with
  | non => cases (show u = Value.none from r); rfl
  | bl b => cases (show u = Value.bool b from r); rfl
  | int i => obtain ⟨t, e⟩ := (show ∃ t, u = Value.int i t from r); cases e; rfl
  | str x => obtain ⟨t, e⟩ := (show ∃ t, u = Value.str x t from r); cases e; rfl
  | byt b => obtain ⟨t, e⟩ := (show ∃ t, u = Value.bytes b t from r); cases e; rfl
  | flt b => obtain ⟨t, e⟩ := (show ∃ t, u = Value.float b t from r); cases e; rfl
  | ref a => cases (show u = Value.ref a from r); rfl
  | ty n => cases (show u = Value.type n from r); rfl

section
variable {P : Program} {w : World} {H H' : Hp} {h h' : Heap} {a C dx : Addr} {fs fs' : List (Str × V)}
theorem ins_get (hok : HOk P w H h) (e : H a = some (.ins C dx fs)) : ∃ mA, ObjM h a dx C mA ∧ (∀ f, RelO (fs.lookup f) (mA f)) ∧ PySem.Within mA (fs.map (·.1)) ∧ fs.length ≤ 1000 ∧ H dx = some (.own a) := by
  obtain ⟨d, z, ne, ob, mA, n, r, q⟩ := (show ObjOk P w H h a (.ins C dx fs) from hok a _ e)
  exact ⟨mA, ⟨ob, n, ne⟩, r, q, z, d⟩
end

/-! ### what of the text a class must have -/
structure Cls (K : PySem.W.Frag) (C : Addr) : Prop where
  pg : PySem.W.plainGet K C Str.empty = true
  hd : PySem.W.hasDictIn K C = true
  po : PySem.W.plainOver K C = true
  sa : PySem.W.findIn K (.ref C) "__setattr__" = some (some (.builtin "object.__setattr__"))
theorem Cls.get {K : PySem.W.Frag} {C : Addr} (c : Cls K C) (f : Str) : PySem.W.plainGet K C f = true := c.pg
/-- no class of it has the name -/
def NoAttr (K : PySem.W.Frag) (C : Addr) (f : Str) : Prop := PySem.W.findIn K (.ref C) f = some none
/-- a constant of the class -/
structure Con (K : PySem.W.Frag) (C : Addr) (f : Str) (v : V) (u : Value) : Prop where
  at_ : PySem.W.findIn K (.ref C) f = some (some u)
  rel : RelV v u
  get : PySem.W.specialIn K u "__get__" = some none
  cp : PySem.W.copiedNames.contains f = false
/-- a method: a plain def of the class or of one above it -/
structure Meth (K : PySem.W.Frag) (C : Addr) (m : Str) (f : Addr) : Prop where
  at_ : PySem.W.findIn K (.ref C) m = some (some (.ref f))
  fn : PySem.W.isFn K (.ref f) = true
  kp : PySem.W.keepIn K (.ref f) = true

section
variable {X : Cx} {pins : List (Addr × Obj)} {σ : St} {H : Hp} {s : Shared} {a C dx : Addr} {fs : List (Str × V)} {f : Str} {v : V} {A : Around} {E : Value → Shared → Prop}

/-- e.f where nothing but the object is asked: through attributeBase (super) and the last hold -/
theorem attr_of {prog : Program} {w : World} {env : Env} {e : Expr} {f : Str} {pos : Pos} {s : Shared} {Q : Value → Shared → Prop} (hb : attributeBase e f env (eval e env) = eval e env)
    (h : wpAny (model prog w) A (eval e env) (fun o s₁ => wpAny (model prog w) A (getAttr o f true) Q E s₁) E s) : wpAny (model prog w) A (eval (.Attribute e f pos) env) Q E s :=
  Attribute_any_ h (by rw [arm_eval_Attribute, hb])
end

/-! ### readings and rules -/
/-- e.f, an attribute of the instance -/
def tFld (K : PySem.W.Frag) (ta : TE) (f : Str) : TE := fun σ H Q => ta σ H fun x H1 => ∃ a C dx fs v, x = .ref a ∧ H1 a = some (.ins C dx fs) ∧ Cls K C ∧ NoAttr K C f ∧ fs.lookup f = some v ∧ Q v H1
/-- e.f, a constant of the class -/
def tCon (K : PySem.W.Frag) (ta : TE) (f : Str) : TE := fun σ H Q => ta σ H fun x H1 => ∃ a C dx fs v u, x = .ref a ∧ H1 a = some (.ins C dx fs) ∧ Cls K C ∧ Con K C f v u ∧ fs.lookup f = none ∧ Q v H1
/-- e.f = value -/
def sFld (K : PySem.W.Frag) (ta tv : TE) (f : Str) : TS := fun D σ H => tv σ H fun y H1 => ta σ H1 fun x H2 => ∃ a C dx fs, x = .ref a ∧ H2 a = some (.ins C dx fs) ∧ Cls K C ∧ NoAttr K C f ∧ fs.length < 1000 ∧
  D.nx σ (upd H2 a (.ins C dx (putF f y fs)))
/-- an augmented operator on two values -/
def InOp (X : Cx) (op : Operator) (rd : V → V → Hp → VK → Prop) : Prop :=
  ∀ (pins : List (Addr × Obj)) (s : Shared) (σ : St) (H : Hp) (x y : V) (u v : Value) (Q : VK), Inv X pins σ H s → RelV x u → RelV y v → rd x y H Q → wpAny (model X.prog X.w) X.A (inplaceOp op u v) (EP X pins σ Q) X.xe s
/-- e.f op= value -/
def sFldAug (K : PySem.W.Frag) (ta tv : TE) (rd : V → V → Hp → VK → Prop) (f : Str) : TS := fun D σ H => ta σ H fun x H1 => ∃ a C dx fs v, x = .ref a ∧ H1 a = some (.ins C dx fs) ∧ Cls K C ∧ NoAttr K C f ∧ fs.lookup f = some v ∧
  tv σ H1 fun y H2 => rd v y H2 fun z H3 => ∃ dx' fs', H3 a = some (.ins C dx' fs') ∧ fs'.length < 1000 ∧ D.nx σ (upd H3 a (.ins C dx' (putF f z fs')))

section
variable {X : Cx} {o e value : Expr} {f : Str} {pos pos' tpos : Pos} {ta tv : TE}
def rAdd : V → V → Hp → VK → Prop := fun x y H Q => ∃ i j, x = .int i ∧ y = .int j ∧ Q (.int (i + j)) H
def rSub : V → V → Hp → VK → Prop := fun x y H Q => ∃ i j, x = .int i ∧ y = .int j ∧ Q (.int (i - j)) H
end

/-! ### isinstance -/
section
variable {X : Cx} {pins : List (Addr × Obj)} {σ : St} {H : Hp} {s : Shared} {A : Around} {E : Value → Shared → Prop} {Q : Value → Shared → Prop} {c : Value} {b : Bool}
/-- the type of a value, as the fragment's deciders take it; for an instance its class -/
inductive TyOf (K : PySem.W.Frag) (H : Hp) : V → Value → Prop where
  | non : TyOf K H .non (.type "NoneType")
  | bl (x : Bool) : TyOf K H (.bl x) (.type "bool")
  | int (i : Int) : TyOf K H (.int i) (.type "int")
  | str (x : Str) : TyOf K H (.str x) (.type "str")
  | flt (x : UInt64) : TyOf K H (.flt x) (.type "float")
  | lst {a : Addr} {xs : List V} (e : H a = some (.lst xs)) : TyOf K H (.ref a) (.type "list")
  | frz {a : Addr} {o : Obj} {xs : List V} (e : H a = some (.frz o (.lst xs))) : TyOf K H (.ref a) (.type "list")
  | tup {a : Addr} {xs : List V} (e : H a = some (.tup xs)) : TyOf K H (.ref a) (.type "tuple")
  | dK {a : Addr} {kvs : List (Key × V)} (e : H a = some (.dK kvs)) : TyOf K H (.ref a) (.type "dict")
  | dT {a : Addr} {kvs : List (List Key × V)} (e : H a = some (.dT kvs)) : TyOf K H (.ref a) (.type "dict")
  | ins {a C dx : Addr} {fs : List (Str × V)} (e : H a = some (.ins C dx fs)) (cl : Cls K C) (ha : PySem.W.findIn K (.ref C) "__class__" = some (some (.builtin "object.__class__")))
      (hn : PySem.W.specialIn K (.builtin "object.__class__") "__get__" = some (some (.builtin "getset_descriptor.__get__"))) (htk : PySem.W.takesIn K (.builtin "object.__class__") = some true)
      (hm : PySem.W.mroIn K C (.type "object") = some true) : TyOf K H (.ref a) (.ref C)
/-- isinstance(x, c) for one class c, a built-in or an own one: kitOne's answer -/
theorem isinst_ok {x : V} {u t : Value} (I : Inv X pins σ H s) (rx : RelV x u) (ty : TyOf X.K H x t) (e : PySem.W.kitOne X.K t c = some b) (h : ∀ tk, Q (.bool b) { s with toks := tk }) :
    wpAny (model X.prog X.w) A (call (.builtin "isinstance") [u, c]) Q E s := by
  cases ty with
  | non => cases (show u = Value.none from rx); exact PySem.W.kia_one PySem.W.kitx_none I.kIn True.intro e (fun z => nomatch z) h
  | bl y => cases (show u = Value.bool y from rx); exact PySem.W.kia_one PySem.W.kitx_bool I.kIn True.intro e (fun z => nomatch z) h
  | int i => obtain ⟨t, q⟩ := (show ∃ t, u = Value.int i t from rx); cases q; exact PySem.W.kia_one PySem.W.kitx_int I.kIn True.intro e (fun z => nomatch z) h
  | str y => obtain ⟨t, q⟩ := (show ∃ t, u = Value.str y t from rx); cases q; exact PySem.W.kia_one PySem.W.kitx_str I.kIn True.intro e (fun z => nomatch z) h
  | flt y => obtain ⟨t, q⟩ := (show ∃ t, u = Value.float y t from rx); cases q; exact PySem.W.kia_one PySem.W.kitx_float I.kIn True.intro e (fun z => nomatch z) h
  | @lst a xs ea =>
    cases (show u = Value.ref a from rx)
    obtain ⟨_, _, n, _, h1⟩ := (show ObjOk X.prog X.w H s.heap a (.lst xs) from I.hok a _ ea)
    exact PySem.W.kia_one PySem.W.kitx_list I.kIn ⟨_, h1, rfl⟩ e (fun z => nomatch z) h
  | @frz a ob xs ea =>
    cases (show u = Value.ref a from rx)
    obtain ⟨_, _, _, n, _, h1⟩ := (show ObjOk X.prog X.w H s.heap a (.frz ob (.lst xs)) from I.hok a _ ea)
    exact PySem.W.kia_one PySem.W.kitx_list I.kIn ⟨_, h1, rfl⟩ e (fun z => nomatch z) h
  | @tup a xs ea =>
    cases (show u = Value.ref a from rx)
    obtain ⟨_, _, _, p⟩ := (show ObjOk X.prog X.w H s.heap a (.tup xs) from I.hok a _ ea)
    obtain ⟨o, h1, h2, _⟩ := p
    exact PySem.W.kia_one PySem.W.kitx_tuple I.kIn ⟨o, h1, h2⟩ e (fun z => nomatch z) h
  | @dK a kvs ea =>
    cases (show u = Value.ref a from rx)
    obtain ⟨_, _, vs, _, p⟩ := (show ObjOk X.prog X.w H s.heap a (.dK kvs) from I.hok a _ ea)
    obtain ⟨o, es, ep, h1, h2, _⟩ := p
    exact PySem.W.kia_one PySem.W.kitx_dict I.kIn ⟨o, h1, h2.1⟩ e (fun z => nomatch z) h
  | @dT a kvs ea =>
    cases (show u = Value.ref a from rx)
    obtain ⟨_, _, xs, _, o, es, ep, h1, h2, _⟩ := (show ObjOk X.prog X.w H s.heap a (.dT kvs) from I.hok a _ ea)
    exact PySem.W.kia_one PySem.W.kitx_dict I.kIn ⟨o, h1, h2.1⟩ e (fun z => nomatch z) h
  | @ins a C dx fs ea cl ha hn htk hm =>
    cases (show u = Value.ref a from rx)
    obtain ⟨mA, O, _⟩ := ins_get I.hok ea
    obtain ⟨od, J, _⟩ := O.look
    exact PySem.W.kia_one (PySem.W.kitx_own (cl.get _) cl.hd ha hn htk hm) I.kIn J e (fun z => nomatch z) h
end
end L2

namespace L2
open PySem PySem.Spec PyProof.Rows

/-! ### room -/
structure Room (k : Nat) (A : Around) : Prop where
  hd : A.handled = none
  dp : A.depth + 3 * k + 5 < recursionLimit
  un : A.units + 16 * k + 200 < cLine
theorem Room.mono {j k : Nat} {A : Around} (r : Room k A) (h : j ≤ k) : Room j A := ⟨r.hd, by have := r.dp; omega, by have := r.un; omega⟩
theorem Room.deeper {k : Nat} {A : Around} (r : Room (k + 1) A) (env : Env) : Room k (A.deeper env) :=
  ⟨r.hd, by have := r.dp; show A.depth + 1 + 3 * k + 5 < _; omega, by have := r.un; show A.units + 3 + 16 * k + 200 < _; omega⟩
theorem make_depth {A : Around} {C : Addr} {us : List Value} {kw : List (Str × Value)} : (A.under (.builtin "type.__call__" ⟨.ref C :: us, kw⟩)).depth = A.depth + 1 := by
  first | rfl | simp [Around.under, Code.weight, Code.isCreation, Code.isGuard, Code.isCaller, Code.frames, Code.isFrame, guardIds]
theorem make_units {A : Around} {C : Addr} {us : List Value} {kw : List (Str × Value)} : (A.under (.builtin "type.__call__" ⟨.ref C :: us, kw⟩)).units = A.units + 1 := by
  first | rfl | simp [Around.under, Code.cUnits, Code.frames, Code.isFrame]
theorem Room.make {k : Nat} {A : Around} (r : Room (k + 1) A) (C : Addr) (us : List Value) (kw : List (Str × Value)) : Room k (A.under (.builtin "type.__call__" ⟨.ref C :: us, kw⟩)) :=
  ⟨r.hd, by have := r.dp; rw [make_depth]; omega, by have := r.un; rw [make_units]; omega⟩
theorem Room.depth {k : Nat} {A : Around} (r : Room k A) : A.depth < recursionLimit := by have := r.dp; omega
theorem Room.units {k : Nat} {A : Around} (r : Room k A) : A.units + 64 < cLine := by have := r.un; omega
/-! ### argument lists and displays -/
def tNil : TA := fun _ H Q => Q [] H
def tCons (ta : TE) (tr : TA) : TA := fun σ H Q => ta σ H fun x H1 => tr σ H1 fun xs H2 => Q (x :: xs) H2
section
variable {X : Cx} {e : Expr} {es : List Expr} {te : TE} {t : TA} {pos : Pos}
theorem pa_nil : PA X [] tNil := fun _ _ _ _ H Q I h => Calls.spliced_nil ⟨[], H, I, .nil, h⟩
theorem pa_cons (ha : PE X e te) (hr : PA X es t) (hs : starEach (e :: es) X.env = (false, eval e X.env) :: starEach es X.env := by rfl) : PA X (e :: es) (tCons te t) := by
  intro pos pins s σ H Q I h
  rw [hs]
  show wpAny _ _ (spliced ((false, eval e X.env) :: backTo pos (starEach es X.env))) _ _ s
  refine Calls.spliced_cons (thn (ha pins s σ H _ I h) fun u s1 ⟨x, H1, I1, r1, q1⟩ => ?_)
  exact thn (hr pos pins s1 σ H1 _ I1 q1) fun us s2 ⟨xs, H2, I2, r2, q2⟩ => ⟨x :: xs, H2, I2, .cons r1 r2, q2⟩

/-- a tuple, a list of written items -/
def tTup (t : TA) : TE := fun σ H Q => t σ H fun xs H1 => xs.length ≤ sizeLine ∧ ∀ p, H1 p = none → Q (.ref p) (upd H1 p (.tup xs))
def tLst (t : TA) : TE := fun σ H Q => t σ H fun xs H1 => xs.length ≤ sizeLine ∧ ∀ p, H1 p = none → Q (.ref p) (upd H1 p (.lst xs))
theorem pe_tup {x1} (h : PA X es t) : PE X (.Tuple es x1 pos) (tTup t) := by
  intro pins s σ H Q I hq
  refine wpAny_Tuple_spliced (thn (h pos pins s σ H _ I hq) fun us s1 ⟨xs, H1, I1, r, z, q⟩ => ⟨by rw [← r.length]; exact z, ?_⟩)
  have hf : H1 s1.heap.objs.size = none := I1.hok.fresh (Nat.le_refl _)
  refine ⟨.ref s1.heap.objs.size, upd H1 s1.heap.objs.size (.tup xs), I1.laid (t' := s1.toks) (fun b u e => Heap.get?_push_of_some _ e) (Nat.le_refl _) ?_, rfl, q _ hf⟩
  exact ⟨z, us, r, ⟨_, Heap.get?_push_size _ rfl, rfl, _, rfl⟩⟩
theorem pe_lst (h : PA X es t) : PE X (.List es pos) (tLst t) := by
  intro pins s σ H Q I hq
  refine wpAny_List_spliced (thn (h pos pins s σ H _ I hq) fun us s1 ⟨xs, H1, I1, r, z, q⟩ => ⟨by rw [← r.length]; exact z, ?_⟩)
  have hf : H1 s1.heap.objs.size = none := I1.hok.fresh (Nat.le_refl _)
  refine ⟨.ref s1.heap.objs.size, upd H1 s1.heap.objs.size (.lst xs), I1.laid (t' := s1.toks) (fun b u e => Heap.get?_push_of_some _ e) (Nat.le_refl _) ?_, rfl, q _ hf⟩
  exact ⟨z, us, 0, r, Heap.get?_push_size _ rfl⟩
end

/-! ### what a def promises -/
/-- a def's promise: the bound arguments in the parameters' order, the heap, the wanted end, the wanted exception -/
abbrev Sp := List V → Hp → VK → XK → Prop
/-- how an exception lies behind a call (file 08 gives it): the callers' frames, abstract heap and state ahead of the call, the wish, the exception, the state -/
abbrev CXT := List Env → Hp → Shared → XK → Value → Shared → Prop

/-- the state at a call -/
structure Env0 (P : Program) (w : World) (K : PySem.W.Frag) (mg : Str → Option Value) (base : Heap) (A : Around) (outer : List Env) (s : Shared) (H : Hp) : Prop where
  frames : A.frames = some outer
  mod : Mod K mg base
  bs : ∀ b o, base.get? b = some o → s.heap.get? b = some o ∧ H b = none
  bsz : base.objs.size ≤ s.heap.objs.size
  funs : s.heap.FunFrames base outer
  frf : ∀ b ∈ frs outer, H b = none
  hok : HOk P w H s.heap
  bare : AllBare s.gens
/-- a call's end -/
def CE (outer : List Env) (P : Program) (w : World) (H : Hp) (s : Shared) (Q : VK) (u : Value) (s' : Shared) : Prop :=
  ∃ v H', s'.os = s.os ∧ AllBare s'.gens ∧ Un (frs outer) [] H H' s.heap s'.heap ∧ HOk P w H' s'.heap ∧ RelV v u ∧ Q v H'
def CR (CX : CXT) (outer : List Env) (P : Program) (w : World) (H : Hp) (s : Shared) (Q : VK) (E : XK) (r : Result) (s' : Shared) : Prop :=
  match r with
  | .ok (.ret u) => CE outer P w H s Q u s'
  | .ok _ => False
  | .error e => CX outer H s E e s'
structure FnOk (P : Program) (w : World) (K : PySem.W.Frag) (mg : Str → Option Value) (base : Heap) (CX : CXT) (k : Nat) (f : Addr) (fd : FuncData) (ps : List Str) (sp : Sp) : Prop where
  len : ∀ vs H Q E, sp vs H Q E → vs.length = ps.length
  run : ∀ (A : Around) (outer : List Env) (s : Shared) (H : Hp) (args : Args) (us : List Value) (vs : List V) (Q : VK) (E : XK), Room k A → Env0 P w K mg base A outer s H → BindsTo s fd args (ps.zip us) → Vals vs us → sp vs H Q E →
    codeAny (model P w) A (.call (.ref f) args) (CR CX outer P w H s Q E) s
theorem Env0.make {P : Program} {w : World} {K : PySem.W.Frag} {mg : Str → Option Value} {base : Heap} {A : Around} {outer : List Env} {s : Shared} {H : Hp} (e : Env0 P w K mg base A outer s H) (C : Addr) (us : List Value) (kw : List (Str × Value)) :
    Env0 P w K mg base (A.under (.builtin "type.__call__" ⟨.ref C :: us, kw⟩)) outer s H := ⟨by first | exact e.frames | (simpa [Around.under, Code.envs, Code.isFrame, pushEnvs] using e.frames), e.mod, e.bs, e.bsz, e.funs, e.frf, e.hok, e.bare⟩
section
variable {X : Cx} {pins : List (Addr × Obj)} {σ : St} {H : Hp} {s s' : Shared}
/-- from a body: what a callee wants -/
theorem Inv.env0 (I : Inv X pins σ H s) : Env0 X.prog X.w X.K X.mg X.base X.A X.stack s H :=
  ⟨I.ok.frames, I.ok.mod, I.bs, Nat.le_trans I.ok.bsz I.sz, I.stack, I.stkFree, I.hok, I.bare⟩
/-- behind a call -/
theorem Inv.after {Q : VK} {u : Value} (I : Inv X pins σ H s) (h : CE X.stack X.prog X.w H s Q u s') : EP X pins σ Q u s' := by
  obtain ⟨v, H', os, bare, un, hok, r, q⟩ := h
  obtain ⟨hh, g, d, t, os'⟩ := s'
  obtain rfl : os' = s.os := os
  exact ⟨v, H', I.call (h' := hh) (g' := g) (d' := d) (t' := t) (ch := []) un hok bare (fun b z => absurd z (by simp)), r, q⟩
end

/-! ### calls -/
/-- f(..): the written arguments, then the defaults dvs; E: what is wanted of an exception -/
def tCall (sp : Sp) (dvs : List V) (E : XK) (t : TA) : TE := fun σ H Q => t σ H fun vs H1 => sp (vs ++ dvs) H1 Q E
/-- o.m(..) of an instance of the class at C -/
def tMeth (C : Addr) (m : Str) (sp : Sp) (dvs : List V) (E : XK) (ta : TE) (t : TA) : TE := fun σ H Q => ta σ H fun x H1 => ∃ a dx fs, x = .ref a ∧ H1 a = some (.ins C dx fs) ∧ fs.lookup m = none ∧
  t σ H1 fun vs H2 => sp (x :: (vs ++ dvs)) H2 Q E
/-- C(..): a new instance and its dict, then __init__ -/
def tMake (C : Addr) (sp : Sp) (dvs : List V) (E : XK) (t : TA) : TE := fun σ H Q => t σ H fun vs H1 => ∀ x dx, H1 x = none → H1 dx = none → dx ≠ x →
  sp (.ref x :: (vs ++ dvs)) (upd (upd H1 dx (.own x)) x (.ins C dx [])) (fun v H2 => v = .non ∧ Q (.ref x) H2) E

/-- how the parameters are bound: us the positional arguments, kw the keywords' values by name, ds the defaults that fill up -/
def Binds (K : PySem.W.Frag) (fd : FuncData) (ps : List Str) (ds : List Value) : Prop :=
  ∀ (s : Shared) (us : List Value), K.In s.heap → (us ++ ds).length = ps.length → BindsTo s fd ⟨us, []⟩ (ps.zip (us ++ ds))
/-- every parameter is given -/
theorem Binds.all {K : PySem.W.Frag} {fd : FuncData} {ps : List Str} (h : ∀ us : List Value, us.length = ps.length → bindArgs fd ⟨us, []⟩ = pure (ps.zip us)) : Binds K fd ps [] := fun s us _ hl => by
  rw [List.append_nil] at hl ⊢
  exact .of_eq (h us hl)

/-- an exception of a callee reaches what this body wants of exceptions -/
def Passes (CX : CXT) (X : Cx) (E : XK) : Prop := ∀ (pins : List (Addr × Obj)) (σ : St) (H : Hp) (s : Shared) (e : Value) (s' : Shared), Inv X pins σ H s → CX X.stack H s E e s' → X.xe e s'

section
variable {X : Cx} {CX : CXT} {k : Nat} {f C : Addr} {fd : FuncData} {ps : List Str} {sp : Sp} {dvs : List V} {ds : List Value} {E : XK} {x m : Str} {p pos apos : Pos} {e o : Expr} {es : List Expr} {ta : TE} {t : TA}

/-- the callee runs -/
theorem run_fn {pins : List (Addr × Obj)} {σ : St} {H : Hp} {s : Shared} {Q : VK} {us : List Value} {vs : List V} (F : FnOk X.prog X.w X.K X.mg X.base CX k f fd ps sp) (hr : Room k X.A) (hb : Binds X.K fd ps ds) (hd : Vals dvs ds) (hx : Passes CX X E)
    (I : Inv X pins σ H s) (r : Vals vs us) (h : sp (vs ++ dvs) H Q E) : wpAny (model X.prog X.w) X.A (call (.ref f) us) (EP X pins σ Q) X.xe s := by
  have r2 : Vals (vs ++ dvs) (us ++ ds) := r.append hd
  have hl : (us ++ ds).length = ps.length := by rw [← r2.length]; exact F.len _ _ _ _ h
  refine wpAny_call (codeAny_mono (F.run X.A X.stack s H ⟨us, []⟩ (us ++ ds) (vs ++ dvs) Q E hr I.env0 (hb s us I.kIn hl) r2 h) fun r s' hq => ?_)
  cases r with
  | error e => exact hx pins σ H s e s' I hq
  | ok fl =>
    cases fl with
    | ret u => exact I.after hq
    | next => exact False.elim hq
    | brk => exact False.elim hq
    | cont => exact False.elim hq

theorem pe_call (F : FnOk X.prog X.w X.K X.mg X.base CX k f fd ps sp) (hr : Room k X.A) (hg : Gl X x) (hm : X.mg x = some (.ref f)) (hk : PySem.W.keepIn X.K (.ref f) = true) (hb : Binds X.K fd ps ds) (hd : Vals dvs ds) (hx : Passes CX X E)
    (ha : PA X (e :: es) t) (hdb : (x == ("__debug__" : Str)) = false := by decide) (he : starEach (e :: es) X.env = (false, eval e X.env) :: starEach es X.env := by rfl) (hpl : (backTo pos (starEach es X.env)).any (·.1) = false := by rfl) :
    PE X (.Call (.Name x p) (e :: es) [] pos) (tCall sp dvs E t) := by
  intro pins s σ H Q I h
  refine wpAny_Call_Name_kw (ld_glob I hg hm ?_ hdb)
  refine PySem.W.callWith_K (h₀ := X.base) I.ok.mod.kin hk (thn (ha pos pins s σ H _ I h) fun us s1 ⟨vs, H1, I1, r, q⟩ => ⟨I1.kIn, ?_⟩) he hpl
  exact run_fn F hr hb hd hx I1 r q
/-- what a class must have to be made -/
structure Mk (K : PySem.W.Frag) (C f : Addr) : Prop where
  makes : PySem.W.makesIn K C = true
  init : PySem.W.findIn K (.ref C) "__init__" = some (some (.ref f))
  fn : PySem.W.isFn K (.ref f) = true
  kp : PySem.W.keepIn K (.ref C) = true

end

/-! ### keywords -/
/-- the values of the keywords, from the left -/
def PK (X : Cx) (kws : List Keyword) (t : TA) : Prop :=
  ∀ (pos : Pos) (pins : List (Addr × Obj)) (s : Shared) (σ : St) (H : Hp) (Q : List V → Hp → Prop), Inv X pins σ H s → t σ H Q → wpAny (model X.prog X.w) X.A (evalAll ((backToKw pos (keywordEach kws X.env)).map (·.2))) (AP X pins σ Q) X.xe s
section
variable {X : Cx} {CX : CXT} {k : Nat} {f C : Addr} {fd : FuncData} {ps ks : List Str} {sp : Sp} {E : XK} {x m : Str} {p pos apos kpos : Pos} {e o : Expr} {es : List Expr} {kws : List Keyword} {te ta : TE} {t tk : TA} {nm : Option Str}
/-- how a call with keywords binds: g puts the positional values us and the keywords' values ws (names ks) in the parameters' order, defaults among them -/
structure KBinds (K : PySem.W.Frag) (fd : FuncData) (ps ks : List Str) (g : List Value → List Value → List Value) (gV : List V → List V → List V) : Prop where
  to : ∀ (s : Shared) (us ws : List Value), K.In s.heap → (g us ws).length = ps.length → BindsTo s fd ⟨us, ks.zip ws⟩ (ps.zip (g us ws))
  rel : ∀ {vs : List V} {us : List Value} {zs : List V} {ws : List Value}, Vals vs us → Vals zs ws → Vals (gV vs zs) (g us ws)
def tCallK (sp : Sp) (gV : List V → List V → List V) (E : XK) (t tk : TA) : TE := fun σ H Q => t σ H fun vs H1 => tk σ H1 fun zs H2 => sp (gV vs zs) H2 Q E
variable {g : List Value → List Value → List Value} {gV : List V → List V → List V}
end

/-! ### a def's body keeps its promise -/
/-- names: the parameters first -/
structure FnScope (N P : List Str) (sc : Scope) : Prop where
  kind : sc.kind = .function
  co : sc.isCoroutine = false
  gen : sc.isGenerator = false
  nd : N.Nodup
  pre : N.take P.length = P
  par : ∀ x ∈ P, sc.names.lookup x = some .local ∨ sc.names.lookup x = some .cell
  nofree : ∀ y ∈ sc.names, y.2 ≠ .free

theorem bindL_out {kindOf : Str → Option NameKind} {x : Str} : ∀ {binds : List (Str × Value)} {m : Str → Option Value}, (∀ v, (x, v) ∉ binds) → bindL kindOf binds m x = m x
  | [], _, _ => rfl
  | (n, v) :: r, m, h => by
    unfold bindL
    rw [bindL_out fun w hw => h w (List.mem_cons_of_mem _ hw)]
    split
    · have : x ≠ n := by rintro rfl; exact h v List.mem_cons_self
      simp [this]
    · rfl
theorem bindC_out {kindOf : Str → Option NameKind} {x : Str} : ∀ {binds : List (Str × Value)} {m : Str → Option Value}, (∀ v, (x, v) ∉ binds) → bindC kindOf binds m x = m x
  | [], _, _ => rfl
  | (n, v) :: r, m, h => by
    unfold bindC
    rw [bindC_out fun w hw => h w (List.mem_cons_of_mem _ hw)]
    split
    · rfl
    · have : x ≠ n := by rintro rfl; exact h v List.mem_cons_self
      simp [this]
theorem bindL_get {kindOf : Str → Option NameKind} {x : Str} {v : Value} : ∀ {P : List Str} {vs : List Value} {i : Nat} {m : Str → Option Value}, P.Nodup → P[i]? = some x → vs[i]? = some v → kindOf x = some .local →
    bindL kindOf (P.zip vs) m x = some v
  | [], _, _, _, _, h, _, _ => by simp at h
  | _ :: _, [], _, _, _, _, h, _ => by simp at h
  | p :: P, w :: vs, 0, m, nd, h1, h2, hk => by
    simp at h1 h2; subst h1; subst h2
    show bindL kindOf ((p, w) :: P.zip vs) m p = _
    unfold bindL
    rw [bindL_out fun v hv => (List.nodup_cons.mp nd).1 (List.of_mem_zip hv).1, if_pos hk]
    simp
  | p :: P, w :: vs, i + 1, m, nd, h1, h2, hk => by
    show bindL kindOf ((p, w) :: P.zip vs) m x = _
    unfold bindL
    exact bindL_get (i := i) (List.nodup_cons.mp nd).2 (by simpa using h1) (by simpa using h2) hk
theorem bindC_get {kindOf : Str → Option NameKind} {x : Str} {v : Value} : ∀ {P : List Str} {vs : List Value} {i : Nat} {m : Str → Option Value}, P.Nodup → P[i]? = some x → vs[i]? = some v → kindOf x ≠ some .local →
    bindC kindOf (P.zip vs) m x = some v
  | [], _, _, _, _, h, _, _ => by simp at h
  | _ :: _, [], _, _, _, _, h, _ => by simp at h
  | p :: P, w :: vs, 0, m, nd, h1, h2, hk => by
    simp at h1 h2; subst h1; subst h2
    show bindC kindOf ((p, w) :: P.zip vs) m p = _
    unfold bindC
    rw [bindC_out fun v hv => (List.nodup_cons.mp nd).1 (List.of_mem_zip hv).1, if_neg hk]
    simp
  | p :: P, w :: vs, i + 1, m, nd, h1, h2, hk => by
    show bindC kindOf ((p, w) :: P.zip vs) m x = _
    unfold bindC
    exact bindC_get (i := i) (List.nodup_cons.mp nd).2 (by simpa using h1) (by simpa using h2) hk

/-- the names' values at the entry -/
def start (N : List Str) (vs : List V) : St := vs.map some ++ List.replicate (N.length - vs.length) none

/-- the context of a def's body, at its entry; an exception leaves the frame, then lies as CX says -/
def cxOf (CX : CXT) (P : Program) (w : World) (K : PySem.W.Frag) (mg : Str → Option Value) (base : Heap) (N : List Str) (qual : Str) (scope : Scope) (f : Addr) (cd : Value) (A : Around) (outer : List Env) (s : Shared) (H : Hp) (E : XK) : Cx where
  prog := P
  w := w
  K := K
  mg := mg
  base := base
  A := A.deeper (envOfC qual scope s.heap.objs.size f cd)
  N := N
  s₀ := s
  H₀ := H
  env := envOfC qual scope s.heap.objs.size f cd
  outer := outer
  stack := envOfC qual scope s.heap.objs.size f cd :: outer
  ex := []
  calm := true
  fn := fun _ => true
  pn := []
  xe := fun e s' => wpAny (model P w) (A.deeper (envOfC qual scope s.heap.objs.size f cd)) (leaving (envOfC qual scope s.heap.objs.size f cd) e) (fun _ s'' => CX outer H s E e s'') (fun e' s'' => CX outer H s E e' s'') s'

theorem cell_has {sc : Scope} {n : Nat} {x : Str} (h : sc.names.lookup x = some .cell) : ∃ c, (cellsFrom n sc.names []).lookup x = some c := by
  have q := PySem.W.cellsFrom_some sc.names n [] (.inl h)
  exact Option.isSome_iff_exists.mp q

theorem inv_start {CX : CXT} {P : Program} {w : World} {K : PySem.W.Frag} {mg : Str → Option Value} {base : Heap} {N ps : List Str} {qual : Str} {scope : Scope} {f : Addr} {cd : Value} {A : Around} {outer : List Env} {s s1 : Shared} {H : Hp} {E : XK} {us : List Value} {vs : List V}
    (S : FnScope N ps scope) (hd : A.handled = none) (e0 : Env0 P w K mg base A outer s H) (hl : vs.length = ps.length) (r : Vals vs us)
    (x : InCallC s s.heap.objs.size (bindL (envOfC qual scope s.heap.objs.size f cd).kindOf (ps.zip us) fun _ => none) (cellsFrom (s.heap.objs.size + 1) scope.names []) (bindC (envOfC qual scope s.heap.objs.size f cd).kindOf (ps.zip us) fun _ => none) s1) :
    Inv (cxOf CX P w K mg base N qual scope f cd A outer s H E) [] (start N vs) H s1 := by
  have hpl : ps.length ≤ N.length := by have := congrArg List.length S.pre; rw [List.length_take] at this; omega
  obtain ⟨h1, tk, rfl, hk⟩ := x.done
  have noA : ∀ b : Addr, b ∉ (cxOf CX P w K mg base N qual scope f cd A outer s H E).ex := fun b z => absurd (show b ∈ ([] : List Addr) from z) (by simp)
  refine ⟨⟨e0.mod, S.kind, rfl, rfl, Nat.le_refl _, fun y z c h1 h2 => ?_, fun y hy => ?_, fun y c _ h => ?_, fun _ => hd, Around.frames_deeper e0.frames, .inr ⟨rfl, rfl⟩, fun b z => absurd z (noA b), e0.bs, e0.bsz, fun b _ _ => noA b, fun b z => absurd z (noA b), e0.funs, e0.frf⟩,
    rfl, e0.bare, Un.kept hk, ⟨_, x.toInCall.ns, fun i y v h1 h2 h3 => ?_⟩, fun y c h => ⟨_, x.cell y c h⟩, e0.hok.fresh (Nat.le_refl _), fun y c h => ?_, fun p hp => absurd (show p ∈ ([] : List (Addr × Obj)) from hp) (by simp), e0.hok.kept hk, ?_⟩
  · exact name_of_addr x.apart (PySem.mem_of_lookup h1) (PySem.mem_of_lookup h2)
  · have hy : scope.names.lookup y = some .cell ∨ scope.names.lookup y = some .free := hy
    rcases hy with hy | hy
    · exact cell_has hy
    · exact absurd rfl (S.nofree _ (PySem.mem_of_lookup hy))
  · exact Nat.le_of_lt (x.above y c (PySem.mem_of_lookup h))
  · have hi : i < vs.length := by
      unfold start at h2
      by_cases hi : i < vs.length
      · exact hi
      · rw [List.getElem?_append_right (by simpa using hi)] at h2
        rw [List.getElem?_replicate] at h2
        split at h2 <;> cases h2
    have ha : vs[i]? = some v := by
      unfold start at h2
      rw [List.getElem?_append_left (by simpa using hi), List.getElem?_map] at h2
      cases e : vs[i]? with
      | none => rw [e] at h2; cases h2
      | some a => rw [e] at h2; cases h2; rfl
    obtain ⟨u, hu, rv⟩ := r.get ha
    have hp : ps[i]? = some y := by
      rw [← S.pre, List.getElem?_take_of_lt (by omega)]; exact h1
    have ndP : ps.Nodup := by rw [← S.pre]; exact S.nd.sublist (List.take_sublist _ _)
    refine ⟨u, rv, ?_⟩
    rcases S.par y (List.mem_of_getElem? hp) with k | k
    · exact .inl ⟨k, bindL_get ndP hp hu k⟩
    · obtain ⟨c, e⟩ := cell_has (n := s.heap.objs.size + 1) k
      refine .inr ⟨.inl k, c, e, ?_⟩
      have q := x.cell y c e
      rw [bindC_get ndP hp hu (by show scope.names.lookup y ≠ _; rw [k]; decide)] at q
      exact q
  · exact e0.hok.fresh (Nat.le_of_lt (x.above y c (PySem.mem_of_lookup h)))
  · unfold start
    show _ = N.length
    rw [List.length_append, List.length_map, List.length_replicate]
    omega

/-- THE RULE: a def (or a method) of the text, by its body. The body's reading t is chosen for each entry; it is run at the parameters' values -/
theorem fn_of {CX : CXT} {P : Program} {w : World} {K : PySem.W.Frag} {mg : Str → Option Value} {base : Heap} {k : Nat} {f : Addr} {name qual : Str} {params : Arguments} {body : List Stmt} {scope : Scope} {dV kV doc pm cdv ct oc : Value} {an od : Option Addr}
    {osl : Array (Option Value)} {N ps : List Str} {sp : Sp} (lk : K.lookup f = some ⟨oc, od, .func (PySem.W.fnOf name qual params body scope dV kV doc pm an cdv ct), osl⟩) (hcd : PySem.W.codeIn K cdv qual = true) (S : FnScope N ps scope)
    (len : ∀ vs H Q E, sp vs H Q E → vs.length = ps.length)
    (hbody : ∀ (A : Around) (outer : List Env) (s : Shared) (H : Hp) (vs : List V) (Q : VK) (E : XK), Room k (A.deeper (envOfC qual scope s.heap.objs.size f cdv)) → sp vs H Q E →
      ∃ t, PSs (cxOf CX P w K mg base N qual scope f cdv A outer s H E) body t ∧ t { nx := fun _ H' => Q .non H', rt := Q } (start N vs) H) :
    FnOk P w K mg base CX (k + 1) f (PySem.W.fnOf name qual params body scope dV kV doc pm an cdv ct) ps sp := by
  refine ⟨len, fun A outer s H args us vs Q E hr e0 hb r hsp => ?_⟩
  have hl := len _ _ _ _ hsp
  have KX : K.In s.heap := e0.mod.kin.keeps fun b o e => (e0.bs b o e).1
  have lim : s.heap.NoLimit := e0.mod.nolimit.keeps fun b o e => (e0.bs b o e).1
  have hkind : ∀ y ∈ ps.zip us, scope.names.lookup y.1 = some .local ∨ (scope.names.lookup y.1 = some .cell ∧ ((cellsFrom (s.heap.objs.size + 1) scope.names []).lookup y.1).isSome = true) := fun ⟨n, v⟩ hy => by
    rcases S.par n (List.of_mem_zip hy).1 with q | q
    · exact .inl q
    · exact .inr ⟨q, PySem.W.cellsFrom_some _ _ _ (.inl q)⟩
  refine codeAny_call_function hr.depth (KX _ _ lk) rfl S.co S.gen rfl (PySem.W.codeRec_of KX hcd) (hb _ _ _ _ ?_)
  refine wpAny_newFunctionEnv_cells S.kind hkind fun env he s1 x => ?_
  subst he
  refine ⟨lim.keeps x.toInCall.keep, codeAny_func ?_⟩
  obtain ⟨t, ht, hq⟩ := hbody A outer s H vs Q E (hr.deeper _) hsp
  have I : Inv (cxOf CX P w K mg base N qual scope f cdv A outer s H E) [] (start N vs) H s1 := inv_start S hr.hd e0 hl r x
  refine wpAny_mono (ht [] s1 (start N vs) H _ I hq) (fun fl s' hs => ?_) fun e s' hs => hs
  have fin : ∀ {σ' : St} {H' : Hp} {v : V} {u : Value}, Inv (cxOf CX P w K mg base N qual scope f cdv A outer s H E) [] σ' H' s' → RelV v u → Q v H' → CE outer P w H s Q u s' :=
    fun {σ' H' v u} J rv q => ⟨v, H', J.os, J.bare, J.base, J.hok, rv, q⟩
  cases fl with
  | ret u =>
    obtain ⟨v, σ', H', J, rv, q⟩ := hs
    exact fin J rv q
  | next =>
    obtain ⟨σ', H', J, q⟩ := hs
    exact fin (v := V.non) (u := Value.none) J rfl q
  | brk =>
    obtain ⟨_, _, _, q⟩ := hs
    exact False.elim q
  | cont =>
    obtain ⟨_, _, _, q⟩ := hs
    exact False.elim q
end L2

namespace L2
open PySem PySem.Spec PyProof.Rows
section
variable {X : Cx} {x : Str} {p pos : Pos} {e : Expr} {es : List Expr} {t : TA} {id T : String} {r : List V → Hp → VK → Prop}

def tCB (r : List V → Hp → VK → Prop) (t : TA) : TE := fun σ H Q => t σ H fun vs H1 => r vs H1 Q
/-- f(e, ..), f a built-in function -/
theorem pe_callB (hc : CallR X (.builtin id) r) (hg : Gl X x) (hm : X.mg x = none) (hv : bootBuiltins x = some (.builtin id)) (ha : PA X (e :: es) t) (hn : x ≠ "__name__" := by decide) (hdb : (x == ("__debug__" : Str)) = false := by decide)
    (he : starEach (e :: es) X.env = (false, eval e X.env) :: starEach es X.env := by rfl) (hpl : (backTo pos (starEach es X.env)).any (·.1) = false := by rfl) : PE X (.Call (.Name x p) (e :: es) [] pos) (tCB r t) := by
  intro pins s σ H Q I h
  refine wpAny_Call_Name_kw (ld_blt I hg hm hv ?_ hn hdb)
  exact PyProof.Rows.callWith_builtin1 (thn (ha pos pins s σ H _ I h) fun us s1 ⟨vs, H1, I1, r1, q1⟩ => hc pins s1 σ H1 vs us Q I1 r1 q1) he hpl
/-- T(e, ..), T a built-in type -/
theorem pe_callTy (hc : CallR X (.type T) r) (hg : Gl X x) (hm : X.mg x = none) (hv : bootBuiltins x = some (.type T)) (ha : PA X (e :: es) t) (hn : x ≠ "__name__" := by decide) (hdb : (x == ("__debug__" : Str)) = false := by decide)
    (he : starEach (e :: es) X.env = (false, eval e X.env) :: starEach es X.env := by rfl) (hpl : (backTo pos (starEach es X.env)).any (·.1) = false := by rfl) : PE X (.Call (.Name x p) (e :: es) [] pos) (tCB r t) := by
  intro pins s σ H Q I h
  refine wpAny_Call_Name_kw (ld_blt I hg hm hv ?_ hn hdb)
  exact PyProof.Rows.callWith_type1 (thn (ha pos pins s σ H _ I h) fun us s1 ⟨vs, H1, I1, r1, q1⟩ => hc pins s1 σ H1 vs us Q I1 r1 q1) he hpl
end
end L2

namespace HT
open PySem PyProof.Rows

/-- t < u of tuples of ints -/
def lexLt : List Int → List Int → Bool
  | [], [] => false
  | [], _ :: _ => true
  | _ :: _, [] => false
  | x :: xs, y :: ys => if x = y then lexLt xs ys else decide (x < y)
section
open PySem.SeqAt
open PySem.AutoSeq1 (wpAny_loadPart')
open PySem.MeetsSeq PySem.MeetsSeq2 PySem.MeetsSeq3

end

section
variable {prog : Program} {w : World} {A : Around} {E : Value → Shared → Prop} {s : Shared}

/-- t + u, t not empty -/
theorem cat_tup {t b : Addr} {vs ws : List Value} {Q : Value → Shared → Prop} (ht : IsTup s.heap t vs.toArray) (hb : IsTup s.heap b ws.toArray) (hv : vs ≠ [])
    (h1 : ws = [] → Q (.ref t) s) (h2 : ws ≠ [] → Q (.ref s.heap.objs.size) { s with heap := s.heap.push { cls := .type "tuple", data := .seq (vs ++ ws).toArray } })
    (hsz : vs.length + ws.length ≤ sizeLine) : wpAny (model prog w) A (binaryOp .Add (.ref t) (.ref b)) Q E s := by
  obtain ⟨⟨cls, dd, data, sl⟩, ho, hc, n, hd⟩ := id ht
  obtain ⟨⟨cls2, dd2, data2, sl2⟩, ho2, hc2, n2, hd2⟩ := id hb
  simp only at hc hd hc2 hd2
  subst hc hd hc2 hd2
  have e : vs.toArray ++ ws.toArray = (vs ++ ws).toArray := by simp
  by_cases hw : ws = []
  · exact concat_meets ⟨_, ho, rfl⟩ ⟨_, ho2, rfl⟩ noFill_tuple_add seq_tuple_add PySem.F.slot_tuple_add PySem.F.entry_tuple_add (PySem.F.args_tuple_add_2 _ _)
      (tuple_addW1 t b vs.toArray ws.toArray n n2 dd dd2 sl sl2 (by simpa using hv) (by simp [hw])) ⟨ho, ho2, h1 hw⟩
  · refine concat_meets ⟨_, ho, rfl⟩ ⟨_, ho2, rfl⟩ noFill_tuple_add seq_tuple_add PySem.F.slot_tuple_add PySem.F.entry_tuple_add (PySem.F.args_tuple_add_2 _ _)
      (tuple_addW2 t b vs.toArray ws.toArray n n2 dd dd2 sl sl2 (by simpa using hv) (by simpa using hw) (by rw [List.size_toArray, List.size_toArray]; exact hsz)) ⟨ho, ho2, ?_⟩
    rw [e]
    exact h2 hw

/-! ### t[a:b], not the whole -/
/-- a slice's bound as a place among n (d where it is left out) -/
def sIx (n d : Nat) : Option Int → Nat
  | none => d
  | some v => if v < 0 then (v + (n : Int)).toNat else min v.toNat n
theorem sIx_none (n d : Nat) : sIx n d none = d := rfl
theorem sIx_nat (n d k : Nat) : sIx n d (some (k : Int)) = min k n := by
  show (if (k : Int) < 0 then ((k : Int) + (n : Int)).toNat else min (k : Int).toNat n) = min k n
  rw [if_neg (by omega), Int.toNat_natCast]
theorem sIx_le (n d : Nat) (hd : d ≤ n) (o : Option Int) : sIx n d o ≤ n := by
  cases o with
  | none => exact hd
  | some v =>
    show (if v < 0 then (v + (n : Int)).toNat else min v.toNat n) ≤ n
    by_cases hv : v < 0
    · rw [if_pos hv]; omega
    · rw [if_neg hv]; exact Nat.min_le_right _ _
theorem clip_eq (v : Int) (n d : Nat) : (if v < 0 then max (v + (n : Int)) 0 else min v (n : Int)) = ((sIx n d (some v) : Nat) : Int) := by
  show (if v < 0 then max (v + (n : Int)) 0 else min v (n : Int)) = (((if v < 0 then (v + (n : Int)).toNat else min v.toNat n) : Nat) : Int)
  by_cases hv : v < 0
  · simp only [if_pos hv]; omega
  · simp only [if_neg hv]; omega
theorem adjust_gen (lo hi : Option Int) (n : Nat) : Builtin.Slice.sliceAdjust lo hi 1 (n : Int) = (((sIx n 0 lo : Nat) : Int), ((sIx n n hi : Nat) : Int)) := by
  have h1 : ¬ ((1 : Int) < 0) := by omega
  unfold Builtin.Slice.sliceAdjust
  simp only [h1, if_false]
  refine Prod.ext ?_ ?_
  · cases lo with
    | none => rfl
    | some v => exact clip_eq v n 0
  · cases hi with
    | none => rfl
    | some v => exact clip_eq v n n
theorem places_gen (i j : Nat) : Builtin.Slice.slicePlaces (i : Int) (j : Int) 1 = j - i := by
  unfold Builtin.Slice.slicePlaces
  have h1 : (1 : Int) > 0 := by omega
  simp only [h1, if_true, Int.ediv_one]
  split <;> omega
theorem slicePart_ {v : Value} {o : Option Int} {Q : Option Int → Shared → Prop} (p : IsPart v o) (h : Q o s) : wpAny (model prog w) A (Builtin.Slice.slicePartIndex v) Q E s := by
  cases p with
  | none => exact slicePart_none h
  | int i t => exact slicePart_int h
theorem sliceApplied_gen {sl : Addr} {vl vu : Value} {lo hi : Option Int} {n : Nat} {Q : Int × Int × Nat → Shared → Prop} (hs : s.heap.IsSliceOf sl vl vu .none) (pl : IsPart vl lo) (pu : IsPart vu hi)
    (h : Q (((sIx n 0 lo : Nat) : Int), 1, sIx n n hi - sIx n 0 lo) s) : wpAny (model prog w) A (Builtin.Slice.sliceApplied (.ref sl) (pure (n : Int))) Q E s := by
  obtain ⟨os, hos, hcs, hds⟩ := id hs
  unfold Builtin.Slice.sliceApplied Builtin.Slice.sliceFields
  refine wpAny_bind (wpAny_bind (wpAny_field hos hds (x := vl) rfl (wpAny_bind (wpAny_field hos hds (x := vu) rfl (wpAny_bind (wpAny_field hos hds (x := .none) rfl (wpAny_pure ?_)))))))
  refine wpAny_bind (slicePart_none ?_)
  show wpAny _ _ (if ((1 : Int) == 0) = true then _ else _) _ _ s
  rw [if_neg (by decide)]
  refine wpAny_bind (slicePart_ pl (wpAny_bind (slicePart_ pu (wpAny_bind (wpAny_pure ?_)))))
  show wpAny _ _ (match Builtin.Slice.sliceAdjust lo hi 1 (n : Int) with | (lo, hi) => pure (lo, (1 : Int), Builtin.Slice.slicePlaces lo hi 1)) _ _ s
  rw [adjust_gen lo hi n]
  show wpAny _ _ (pure (((sIx n 0 lo : Nat) : Int), (1 : Int), Builtin.Slice.slicePlaces ((sIx n 0 lo : Nat) : Int) ((sIx n n hi : Nat) : Int) 1)) _ _ s
  rw [places_gen]
  exact wpAny_pure h
theorem pick_gen (xs : Array Value) (i k : Nat) : ((List.range k).filterMap fun (m : Nat) => xs[((i : Int) + (m : Int) * 1).toNat]?).toArray = ((xs.toList.drop i).take k).toArray := by
  have e : (fun (m : Nat) => xs[((i : Int) + (m : Int) * 1).toNat]?) = fun m => xs[i + m]? := by
    funext m
    have : ((i : Int) + (m : Int) * 1).toNat = i + m := by omega
    rw [this]
  rw [e]
  have := pick_run xs i k
  rw [List.filterMap_map] at this
  have e2 : ((fun x => xs[x]?) ∘ fun x => i + x) = fun m => xs[i + m]? := rfl
  rw [e2] at this
  rw [this]

theorem getItem_tuple_cut {t sl : Addr} {items : Array Value} {vl vu : Value} {lo hi : Option Int} {Q : Value → Shared → Prop} (ht : IsTup s.heap t items) (hs : s.heap.IsSliceOf sl vl vu .none) (pl : IsPart vl lo) (pu : IsPart vu hi)
    (hw : ¬ (sIx items.size 0 lo = 0 ∧ sIx items.size items.size hi = items.size))
    (h : Q (.ref s.heap.objs.size) { s with heap := s.heap.push { cls := .type "tuple", data := .seq ((items.toList.drop (sIx items.size 0 lo)).take (sIx items.size items.size hi - sIx items.size 0 lo)).toArray } })
    (hsz : items.size ≤ sizeLine) : wpAny (model prog w) A (getItem (.ref t) (.ref sl)) Q E s := by
  have htake : sizeOk (.seq ((items.toList.drop (sIx items.size 0 lo)).take (sIx items.size items.size hi - sIx items.size 0 lo)).toArray) := by
    show ((items.toList.drop (sIx items.size 0 lo)).take (sIx items.size items.size hi - sIx items.size 0 lo)).toArray.size ≤ sizeLine
    rw [List.size_toArray, List.length_take, List.length_drop, Array.length_toList]
    omega
  have hj : sIx items.size items.size hi ≤ items.size := sIx_le _ _ (Nat.le_refl _) hi
  obtain ⟨os, hos, hcs, hds⟩ := id hs
  have hTs : s.TypeIs (.ref sl) "slice" := ⟨os, hos, hcs⟩
  unfold getItem
  try with_reducible refine wpAny_holding ?_
  first | refine wpAny_bind (wpAny_pure ?_) | skip
  refine wpAny_bind (wpAny_sequenceKey ht.typeIs (by decide) ?_)
  refine wpAny_bind (wpAny_callSpecial?_slot (name := Str.ofString "__getitem__") ht.typeIs PyProof.Rows.slot_tuple_getitem
    (wpAny_call_entry PyProof.Rows.slot_tuple_getitem ht.typeIs entry_tuple_getitem ?_ (args_tuple_getitem _ _)))
  show wpAny _ _ (Builtin.Tuple.tupleItemsOf (.ref t) >>= _) _ _ s
  refine wpAny_bind (tupleItemsOf_ ht ?_)
  refine wpAny_bind (wpAny_typeOf hTs ?_)
  rw [if_pos (by decide)]
  refine wpAny_bind (sliceApplied_gen hs pl pu ?_)
  have hno : ¬ ((((sIx items.size 0 lo : Nat) : Int) == 0 && (1 : Int) == 1 && (sIx items.size items.size hi - sIx items.size 0 lo) == items.size) = true) := by
    intro q
    rw [Bool.and_eq_true, Bool.and_eq_true] at q
    have q1 : ((sIx items.size 0 lo : Nat) : Int) = 0 := eq_of_beq q.1.1
    have q2 : sIx items.size items.size hi - sIx items.size 0 lo = items.size := eq_of_beq q.2
    exact hw ⟨by omega, by omega⟩
  show wpAny _ _ (if (((sIx items.size 0 lo : Nat) : Int) == 0 && (1 : Int) == 1 && (sIx items.size items.size hi - sIx items.size 0 lo) == items.size) = true then _ else _) _ _ s
  rw [if_neg hno, pick_gen]
  first
    | exact wpAny_bind (m := Builtin.Tuple.tupleExact _) (wpAny_newObj_type (wpAny_pure ⟨_, rfl, wpAny_pure h⟩) htake)
    | exact wpAny_bind (m := Builtin.Tuple.tupleExact _) (wpAny_newObj_type (wpAny_bind (wpAny_pure (wpAny_pure ⟨_, rfl, wpAny_pure h⟩))) htake)
    | exact wpAny_bind (wpAny_bind (m := Builtin.Tuple.tupleExact _) (wpAny_newObj_type (wpAny_pure (wpAny_pure ⟨_, rfl, wpAny_pure h⟩)) htake))
    | exact wpAny_bind (wpAny_bind (m := Builtin.Tuple.tupleExact _) (wpAny_newObj_type (wpAny_pure ⟨_, rfl, wpAny_pure h⟩) htake))
end
end HT

namespace L2
open PySem PySem.Spec PyProof.Rows

/-! ### the parts of a slice -/
abbrev TO := St → Hp → (Option Int → Hp → Prop) → Prop
/-- a slice's part (left out, or an int) -/
def PO (X : Cx) (e : Option Expr) (t : TO) : Prop :=
  ∀ (pins : List (Addr × Obj)) (s : Shared) (σ : St) (H : Hp) (Q : Option Int → Hp → Prop), Inv X pins σ H s → t σ H Q →
    wpAny (model X.prog X.w) X.A (evalPart e X.env) (fun u s' => ∃ o H', Inv X pins σ H' s' ∧ IsPart u o ∧ Q o H') X.xe s
def tNoPart : TO := fun _ H Q => Q none H
def tPart (t : TE) : TO := fun σ H Q => t σ H fun x H1 => ∃ i, x = .int i ∧ Q (some i) H1

section
variable {X : Cx} {e : Expr} {te : TE} {lo hi : Option Expr} {tl th : TO} {pos p2 : Pos}

theorem po_none : PO X none tNoPart := by
  intro pins s σ H Q I h
  rw [evalPart_none]
  exact wpAny_pure ⟨none, H, I, .none, h⟩
theorem po_some (h : PE X e te) : PO X (some e) (tPart te) := by
  intro pins s σ H Q I hw
  rw [evalPart_some]
  refine thn (h pins s σ H _ I hw) fun u s1 ⟨x, H1, I1, r1, q1⟩ => ?_
  obtain ⟨i, rfl, q⟩ := q1
  obtain ⟨t, rfl⟩ := r1
  exact ⟨some i, H1, I1, .int i t, q⟩

/-- what a slice of a value is, by values: the slice object stands at sl -/
def SlR (X : Cx) (r : V → Option Int → Option Int → Hp → VK → Prop) : Prop :=
  ∀ (pins : List (Addr × Obj)) (s : Shared) (σ : St) (H : Hp) (x : V) (v vl vu : Value) (lo hi : Option Int) (sl : Addr) (Q : VK), Inv X pins σ H s → RelV x v → s.heap.IsSliceOf sl vl vu .none → IsPart vl lo → IsPart vu hi → r x lo hi H Q →
    ∃ T id, typeLookup (.type T) "__getitem__" = pure (some (.builtin id)) ∧ s.TypeIs v T ∧ wpAny (model X.prog X.w) X.A (getItem v (.ref sl)) (EP X pins σ Q) X.xe s
def tSl (r : V → Option Int → Option Int → Hp → VK → Prop) (te : TE) (tl th : TO) : TE := fun σ H Q => te σ H fun x H1 => tl σ H1 fun l H2 => th σ H2 fun u H3 => r x l u H3 Q
/-- a[lo:hi], any a -/
theorem pe_slice {r : V → Option Int → Option Int → Hp → VK → Prop} (hr : SlR X r) (he : PE X e te) (hl : PO X lo tl) (hu : PO X hi th) : PE X (.Subscript e (.Slice lo hi none p2) pos) (tSl r te tl th) := by
  intro pins s σ H Q I h
  refine Subscript_ (thn (he pins s σ H _ I h) fun v s1 ⟨x, H1, I1, r1, q1⟩ => ?_)
  refine wpAny_Slice (thn (hl pins s1 σ H1 _ I1 q1) fun vl s2 ⟨l, H2, I2, pl, q2⟩ => thn (hu pins s2 σ H2 _ I2 q2) fun vu s3 ⟨u, H3, I3, pu, q3⟩ => ?_)
  rw [evalPart_none]
  refine wpAny_pure ?_
  have I4 : Inv X pins σ H3 { s3 with heap := s3.heap.push { cls := .type "slice", data := .fields #[vl, vu, .none] } } := I3.kept (t' := s3.toks) fun b ob q => Heap.get?_push_of_some _ q
  obtain ⟨T, id, hT, ht, hg⟩ := hr pins { s3 with heap := s3.heap.push { cls := .type "slice", data := .fields #[vl, vu, .none] } } σ H3 x v vl vu l u s3.heap.objs.size Q I4 r1 (Heap.IsSliceOf.new ..) pl pu q3
  show wpAny (model X.prog X.w) X.A (subscriptTail e (.Slice lo hi none p2) v (.ref s3.heap.objs.size)) (EP X pins σ Q) X.xe { s3 with heap := s3.heap.push { cls := .type "slice", data := .fields #[vl, vu, .none] } }
  exact tail_any (ops := [.ref s3.heap.objs.size, v]) ht hT hg (by with_unfolding_all rfl)

/-- the items of xs[lo:hi] -/
def cutV (xs : List V) (lo hi : Option Int) : List V := (xs.drop (HT.sIx xs.length 0 lo)).take (HT.sIx xs.length xs.length hi - HT.sIx xs.length 0 lo)
theorem cutV_length (xs : List V) (lo hi : Option Int) : (cutV xs lo hi).length ≤ xs.length := by
  unfold cutV
  rw [List.length_take, List.length_drop]
  omega
/-- t[lo:hi], not the whole of it (the whole would be t itself) -/
def rSlT (K : PySem.W.Frag) : V → Option Int → Option Int → Hp → VK → Prop := fun x lo hi H Q => ∃ a xs, x = .ref a ∧ SqT K H a xs ∧
  ¬ (HT.sIx xs.length 0 lo = 0 ∧ HT.sIx xs.length xs.length hi = xs.length) ∧ ∀ p, H p = none → Q (.ref p) (upd H p (.tup (cutV xs lo hi)))
/-! ### t < u, t + u -/
def rLtT (K : PySem.W.Frag) : R2 := fun x y H Q => ∃ a b ns ms, x = .ref a ∧ y = .ref b ∧ SqT K H a (ns.map V.int) ∧ SqT K H b (ms.map V.int) ∧ Q (.bl (HT.lexLt ns ms)) H
/-- t + u, t not empty: u empty gives t itself -/
def rCatT (K : PySem.W.Frag) : R2 := fun x y H Q => ∃ a b xs ys, x = .ref a ∧ y = .ref b ∧ SqT K H a xs ∧ SqT K H b ys ∧ xs ≠ [] ∧ xs.length + ys.length ≤ sizeLine ∧
  (ys = [] → Q (.ref a) H) ∧ (ys ≠ [] → ∀ p, H p = none → Q (.ref p) (upd H p (.tup (xs ++ ys))))
theorem Vals.nil_iff {xs : List V} {us : List Value} (r : Vals xs us) : us = [] ↔ xs = [] := by
  cases r with
  | nil => simp
  | cons _ _ => simp
end
end L2

namespace L2
open PySem PySem.Spec PyProof.Rows

/-! ### places -/
/-- the place that an index of any sign means -/
def ixN (n : Nat) (i : Int) : Option Nat := if 0 ≤ i then (if i < n then some i.toNat else none) else if -(n : Int) ≤ i then some (i + n).toNat else none
def atI {α : Type} (xs : List α) (i : Int) : Option α := (ixN xs.length i).bind fun j => xs[j]?
theorem ixN_seq {n : Nat} {i : Int} {j : Nat} (h : ixN n i = some j) : seqIndex? i n = some j ∧ j < n ∧ -(n : Int) ≤ i ∧ i < n := by
  unfold ixN at h
  by_cases h0 : 0 ≤ i
  · rw [if_pos h0] at h
    by_cases h1 : i < n
    · rw [if_pos h1] at h
      have e : i.toNat = j := Option.some.inj h
      exact ⟨by rw [seqIndex_of h0 h1, e], by omega, by omega, h1⟩
    · rw [if_neg h1] at h; cases h
  · rw [if_neg h0] at h
    by_cases h1 : -(n : Int) ≤ i
    · rw [if_pos h1] at h
      have e : (i + n).toNat = j := Option.some.inj h
      exact ⟨by rw [seqIndex_neg (by omega) h1, e], by omega, h1, by omega⟩
    · rw [if_neg h1] at h; cases h
theorem atI_get {α : Type} {xs : List α} {i : Int} {v : α} (h : atI xs i = some v) : ∃ j, seqIndex? i xs.length = some j ∧ xs[j]? = some v ∧ j < xs.length ∧ -(xs.length : Int) ≤ i ∧ i < xs.length := by
  unfold atI at h
  cases e : ixN xs.length i with
  | none => rw [e] at h; cases h
  | some j =>
    rw [e] at h
    obtain ⟨h1, h2, h3, h4⟩ := ixN_seq e
    exact ⟨j, h1, h, h2, h3, h4⟩
theorem atI_nat {α : Type} {xs : List α} {j : Nat} {v : α} (h : xs[j]? = some v) : atI xs (j : Int) = some v := by
  have hj : j < xs.length := (List.getElem?_eq_some_iff.mp h).1
  have e : ixN xs.length (j : Int) = some j := by
    unfold ixN
    rw [if_pos (by omega), if_pos (by omega)]; simp
  unfold atI; rw [e]; exact h
theorem atI_last {α : Type} (xs : List α) (v : α) : atI (xs ++ [v]) (-1) = some v := by
  have hl : (xs ++ [v]).length = xs.length + 1 := by simp
  have e : ixN (xs ++ [v]).length (-1) = some xs.length := by
    unfold ixN
    rw [hl, if_neg (by decide), if_pos (by omega)]
    congr 1
    omega
  unfold atI
  rw [e]
  show (xs ++ [v])[xs.length]? = some v
  simp

/-! ### what may be subscripted -/
/-- what stands as an index of a plain subscript -/
def PlainIx (b : Expr) : Prop := ∀ o i, subscripted b false o i = operate [o, i] (getItem o i)
/-- a subscript by values -/
def IxR (X : Cx) (r : R2) : Prop :=
  ∀ (value slice : Expr) (pins : List (Addr × Obj)) (s : Shared) (σ : St) (H : Hp) (x y : V) (v u : Value) (Q : VK), Inv X pins σ H s → RelV x v → RelV y u → r x y H Q →
    subscripted slice false v u = operate [v, u] (getItem v u) → wpAny (model X.prog X.w) X.A (subscriptTail value slice v u) (EP X pins σ Q) X.xe s
/-- a call of a builtin's method by values: the receiver, the arguments -/
def MtR (X : Cx) (id : String) (r : V → List V → Hp → VK → Prop) : Prop :=
  ∀ (pins : List (Addr × Obj)) (s : Shared) (σ : St) (H : Hp) (x : V) (xs : List V) (v : Value) (us : List Value) (Q : VK), Inv X pins σ H s → RelV x v → Vals xs us → r x xs H Q →
    wpAny (model X.prog X.w) X.A (call (.builtin id) (v :: us)) (EP X pins σ Q) X.xe s
section
variable {X : Cx} {a b : Expr} {ta tb : TE} {pos : Pos}
/-- a[b] -/
theorem pe_ix {r : R2} (hr : IxR X r) (ha : PE X a ta) (hb : PE X b tb) (hs : PlainIx b) : PE X (.Subscript a b pos) (tOp r ta tb) := by
  intro pins s σ H Q I h
  exact Subscript_ (binT ha hb I h fun v u s2 x y H2 I2 rx ry q => hr a b pins s2 σ H2 x y v u Q I2 rx ry q (hs _ _))

def rIxL (K : PySem.W.Frag) : R2 := fun x y H Q => ∃ p xs i v, x = .ref p ∧ y = .int i ∧ SqL K H p xs ∧ atI xs i = some v ∧ Q v H
def rIxT (K : PySem.W.Frag) : R2 := fun x y H Q => ∃ p xs i v, x = .ref p ∧ y = .int i ∧ SqT K H p xs ∧ atI xs i = some v ∧ Q v H
def rIxS : R2 := fun x y H Q => ∃ z i c, x = .str z ∧ y = .int i ∧ z.length ≤ sizeLine ∧ atI z.cps.toList i = some c ∧ Q (.str ⟨#[c]⟩) H
theorem ix_list : IxR X (rIxL X.K) := by
  intro value slice pins s σ H x y v u Q I rx ry h hs
  obtain ⟨p, xs, i, z, rfl, rfl, hq, he, q⟩ := h
  cases rx
  obtain ⟨t, rfl⟩ := ry
  obtain ⟨its, r, pl, hz⟩ := I.list hq
  obtain ⟨j, h1, h2, h3, h4, h5⟩ := atI_get he
  obtain ⟨w, ew, rw'⟩ := r.get h2
  have hl := r.length
  have hn := line63
  have fin : EP X pins σ Q w s := ⟨z, H, I, rw', q⟩
  by_cases h0 : 0 ≤ i
  · have hj : i.toNat = j := by
      rw [seqIndex_of h0 h5] at h1
      exact Option.some.inj h1
    exact item_listR pl.isList h0 (by omega) (by rw [hj]; simpa using ew) fin hs
  · have hj : (i + (its.toArray.size : Int)).toNat = j := by
      rw [seqIndex_neg (by omega) h4] at h1
      rw [List.size_toArray, ← hl]
      exact Option.some.inj h1
    exact subscriptTail_builtinR (x := w) pl.isList.typeIs slot_list_getitem.lookup
      (wpAny_getItem_list_neg (Q := fun r s' => r = w ∧ EP X pins σ Q r s') pl.isList (by omega) (by rw [List.size_toArray] <;> omega) (by omega) (by rw [hj]; simpa using ew) ⟨rfl, fin⟩) hs
theorem ix_tup : IxR X (rIxT X.K) := by
  intro value slice pins s σ H x y v u Q I rx ry h hs
  obtain ⟨p, xs, i, z, rfl, rfl, hq, he, q⟩ := h
  cases rx
  obtain ⟨t, rfl⟩ := ry
  obtain ⟨its, r, pl, hz⟩ := I.tuple hq
  obtain ⟨j, h1, h2, h3, h4, h5⟩ := atI_get he
  obtain ⟨w, ew, rw'⟩ := r.get h2
  have hl := r.length
  have hn := line63
  have fin : EP X pins σ Q w s := ⟨z, H, I, rw', q⟩
  exact subscriptTail_builtinR (x := w) pl.typeIs slot_tuple_getitem.lookup
    (getItem_tuple (j := j) (Q := fun r s' => r = w ∧ EP X pins σ Q r s') pl (by omega) (by omega) (by rw [List.size_toArray, ← hl]; exact h1) (by simpa using ew) ⟨rfl, fin⟩) hs
/-- list, tuple or str -/
def rIx (K : PySem.W.Frag) : R2 := fun x y H Q => rIxL K x y H Q ∨ rIxT K x y H Q ∨ rIxS x y H Q
/-! ### xs[i] = v, any sign -/
/-- the list's object behind a store -/
theorem mapSeq_set (its : List Value) (n j : Nat) (u : Value) : Obj.mapSeq (·.setIfInBounds j u) { cls := .type "list", data := .seq its.toArray n } = { cls := .type "list", data := .seq (its.set j u).toArray n } := by
  simp [Obj.mapSeq]
theorem Inv.lst {pins : List (Addr × Obj)} {σ : St} {H : Hp} {s : Shared} {p : Addr} {xs : List V} (I : Inv X pins σ H s) (h : H p = some (.lst xs)) :
    ∃ (its : List Value) (n : Nat), Vals xs its ∧ s.heap.get? p = some { cls := .type "list", data := .seq its.toArray n } ∧ xs.length ≤ sizeLine := by
  obtain ⟨z, its, n, r, e⟩ := I.hok p _ h
  exact ⟨its, n, r, e, z⟩
/-- the list at p is written by an update of its object -/
theorem Inv.lstUpd {pins : List (Addr × Obj)} {σ : St} {H : Hp} {s : Shared} {p : Addr} {xs ys : List V} {its its' : List Value} {n n' : Nat} {f : Obj → Obj} (I : Inv X pins σ H s) (h : H p = some (.lst xs))
    (ho : s.heap.get? p = some { cls := .type "list", data := .seq its.toArray n }) (hf : f { cls := .type "list", data := .seq its.toArray n } = { cls := .type "list", data := .seq its'.toArray n' }) (r : Vals ys its') (hz : ys.length ≤ sizeLine) (t : Nat) :
    Inv X pins σ (upd H p (.lst ys)) { s with heap := s.heap.update p f, toks := t } := by
  have e : (s.heap.update p f).get? p = some { cls := .type "list", data := .seq its'.toArray n' } := by
    rw [Heap.get?_update_self f ho (by rw [hf] <;> rfl), hf]
  refine I.write (x := p) (e := p) (by rw [h]; trivial) (.inl rfl) (fun b u hb q => (Heap.get?_update_other _ _ (Ne.symm hb)).trans q) ⟨_, e⟩ ?_
  exact ⟨hz, its', n', r, e⟩
def rSetL : V → V → V → Hp → (Hp → Prop) → Prop := fun o i v H Q => ∃ p xs k j, o = .ref p ∧ i = .int k ∧ H p = some (.lst xs) ∧ ixN xs.length k = some j ∧ Q (upd H p (.lst (xs.set j v)))
theorem set_list : PSet X rSetL := by
  intro pins s σ H o i v ov iv u Q I ro ri rv h
  obtain ⟨p, xs, k, j, rfl, rfl, hp, hj, q⟩ := h
  cases ro
  obtain ⟨t, rfl⟩ := ri
  obtain ⟨its, n, r, ho, hz⟩ := I.lst hp
  obtain ⟨h1, h2, h3, h4⟩ := ixN_seq hj
  have hl := r.length
  have hn := line63
  have I' : Inv X pins σ (upd H p (.lst (xs.set j v))) { s with heap := s.heap.update p (Obj.mapSeq (·.setIfInBounds j u)) } :=
    I.lstUpd hp ho (mapSeq_set its n j u) (r.set rv j) (by rw [List.length_set]; exact hz) s.toks
  by_cases h0 : 0 ≤ k
  · have hk : k.toNat = j := by
      rw [seqIndex_of h0 h4] at h1
      exact Option.some.inj h1
    exact PySem.W.ki_setAt ho h0 (by omega) (by rw [List.size_toArray, ← hl]; exact h4) (by rw [hk]; exact ⟨_, I', q⟩)
  · have hk : (k + (its.toArray.size : Int)).toNat = j := by
      rw [seqIndex_neg (by omega) h3] at h1
      rw [List.size_toArray, ← hl]
      exact Option.some.inj h1
    exact PySem.W.ki_setBack ho (by omega) (by rw [List.size_toArray, ← hl]; exact h3) (by omega) (by rw [hk]; exact ⟨_, I', q⟩)

/-! ### slices -/
theorem slice_bounds (lo hi : Option Int) (n : Nat) : (sliceBounds lo hi none n).1 = ((HT.sIx n 0 lo : Nat) : Int) ∧ (sliceBounds lo hi none n).2.1 = ((HT.sIx n n hi : Nat) : Int) ∧ (sliceBounds lo hi none n).2.2 = 1 := by
  refine ⟨?_, ?_, rfl⟩
  · cases lo with
    | none => simp [sliceBounds, HT.sIx]
    | some i =>
      simp only [sliceBounds, HT.sIx, Option.getD_none, show (1 : Int) > 0 by decide, if_true]
      by_cases h : i < 0
      · simp only [h, if_true] <;> omega
      · simp only [h, if_false] <;> omega
  · cases hi with
    | none => simp [sliceBounds, HT.sIx]
    | some i =>
      simp only [sliceBounds, HT.sIx, Option.getD_none, show (1 : Int) > 0 by decide, if_true]
      by_cases h : i < 0
      · simp only [h, if_true] <;> omega
      · simp only [h, if_false] <;> omega
theorem slicePick_cut (its : List Value) (lo hi : Option Int) : slicePick its.toArray lo hi none = ((its.drop (HT.sIx its.length 0 lo)).take (HT.sIx its.length its.length hi - HT.sIx its.length 0 lo)).toArray := by
  obtain ⟨h1, h2, h3⟩ := slice_bounds lo hi its.toArray.size
  unfold slicePick
  rw [h1, h2, h3]
  simp only [sliceRange_one, pick_run, List.size_toArray] <;> rfl
/-- xs[lo:hi] of a list: a new list -/
def rSlL (K : PySem.W.Frag) : V → Option Int → Option Int → Hp → VK → Prop := fun x lo hi H Q => ∃ a xs, x = .ref a ∧ SqL K H a xs ∧ ∀ p, H p = none → Q (.ref p) (upd H p (.lst (cutV xs lo hi)))
theorem sl_list : SlR X (rSlL X.K) := by
  intro pins s σ H x v vl vu lo hi sl Q I rx hs pl pu h
  obtain ⟨a, xs, rfl, hx, q⟩ := h
  cases rx
  obtain ⟨its, r, ht, hz⟩ := I.list hx
  have hlen := r.length
  refine ⟨"list", _, slot_list_getitem.lookup, ht.isList.typeIs, ?_⟩
  refine wpAny_getItem_list_slice ht.isList hs pl pu .none (by simp) ?_ (by rw [List.size_toArray] <;> omega)
  rw [slicePick_cut, ← hlen]
  refine ⟨.ref s.heap.objs.size, _, I.laid (t' := s.toks) (o := .lst (cutV xs lo hi)) (fun b ob q => Heap.get?_push_of_some _ q) (Nat.le_refl _) ?_, rfl, q _ (I.hok.fresh (Nat.le_refl _))⟩
  exact ⟨Nat.le_trans (cutV_length xs lo hi) hz, _, 0, (r.drop (HT.sIx xs.length 0 lo)).take (HT.sIx xs.length xs.length hi - HT.sIx xs.length 0 lo), Heap.get?_push_size _ rfl⟩

/-! ### in, not in: flat items -/
def flatV : V → Bool
  | .non => true
  | .bl _ => true
  | .int _ => true
  | .str _ => true
  | _ => false
/-- == of flat values -/
def eqV : V → V → Bool
  | .non, .non => true
  | .bl a, .bl b => a == b
  | .bl a, .int b => (if a then 1 else 0) == b
  | .int a, .bl b => a == (if b then 1 else 0)
  | .int a, .int b => a == b
  | .str a, .str b => a == b
  | _, _ => false
/-- the items' answers, read off the values (a value's own answer does not lean on its token) -/
def eqU (x : V) (u : Value) : Bool := match u with
  | .none => eqV .non x
  | .bool b => eqV (.bl b) x
  | .int i _ => eqV (.int i) x
  | .str z _ => eqV (.str z) x
  | _ => false
def inV (x : V) (xs : List V) : Bool := xs.any fun y => eqV y x
/-- x in a list or tuple of flat items -/
def rIn (K : PySem.W.Frag) (neg : Bool) : R2 := fun x y H Q => ∃ p xs, y = .ref p ∧ (SqL K H p xs ∨ SqT K H p xs) ∧ flatV x = true ∧ xs.all flatV = true ∧ Q (.bl (if neg then !inV x xs else inV x xs)) H
/-! ### len, list(x), tuple(x) of any list or tuple that is read -/
theorem call_len_seq : CallR X (.builtin "len") (fun xs H Q => ∃ p ys, xs = [.ref p] ∧ (SqL X.K H p ys ∨ SqT X.K H p ys) ∧ Q (.int ys.length) H) := by
  intro pins s σ H xs us Q I r h
  obtain ⟨p, ys, rfl, hq, q⟩ := h
  obtain ⟨u, rfl, rx⟩ := vals1 r
  cases rx
  have hn := line63
  rcases hq with hq | hq
  · obtain ⟨its, r', pl, hz⟩ := I.list hq
    have hlen := r'.length
    exact Calls.call_len_list pl.isList (by simp only [List.size_toArray] <;> omega) ⟨.int ys.length, H, I.tok _, ⟨s.toks + 1, by rw [List.size_toArray, hlen]⟩, q⟩
  · obtain ⟨its, r', pl, hz⟩ := I.tuple hq
    have hlen := r'.length
    exact len_tuple pl (by simp only [List.size_toArray] <;> omega) ⟨.int ys.length, H, I.tok _, ⟨s.toks + 1, by rw [List.size_toArray, hlen]⟩, q⟩
/-! ### the call of a builtin's method: o.m(..) -/
/-- the value is of that builtin type -/
def tyV (K : PySem.W.Frag) (T : String) (x : V) (H : Hp) : Prop := match x with
  | .str _ => T = "str"
  | .int _ => T = "int"
  | .ref p => (T = "list" ∧ ∃ xs, SqL K H p xs) ∨ (T = "tuple" ∧ ∃ o, K.lookup p = some o ∧ o.cls = .type "tuple" ∧ o.dict = none) ∨
      (T = "dict" ∧ ((∃ kvs, H p = some (.dK kvs)) ∨ ∃ kvs, H p = some (.dT kvs))) ∨ (T = "set" ∧ ∃ S n, H p = some (.set S n))
  | _ => False
theorem tyV_is {pins : List (Addr × Obj)} {σ : St} {H : Hp} {s : Shared} {T : String} {x : V} {v : Value} (I : Inv X pins σ H s) (r : RelV x v) (ty : tyV X.K T x H) :
    s.TypeIs v T ∧ ∀ a, v = .ref a → ∃ ob, s.heap.get? a = some ob ∧ ob.dict = none := by
  cases x with
  | str z =>
    obtain ⟨t, rfl⟩ := r
    cases (show T = "str" from ty)
    exact ⟨typeIs_str s z t, fun _ e => nomatch e⟩
  | int i =>
    obtain ⟨t, rfl⟩ := r
    cases (show T = "int" from ty)
    exact ⟨typeIs_int s i t, fun _ e => nomatch e⟩
  | ref p =>
    cases r
    rcases ty with ⟨rfl, xs, hq⟩ | ⟨rfl, o, hk, hc, hd⟩ | ⟨rfl, hk⟩ | ⟨rfl, S, n, hk⟩
    · obtain ⟨its, _, pl, _⟩ := I.list hq
      refine ⟨pl.isList.typeIs, fun a e => ?_⟩
      cases e
      obtain ⟨o, n, e, c, hd, _⟩ := pl
      exact ⟨o, e, hd⟩
    · refine ⟨⟨o, I.kIn p o hk, hc⟩, fun a e => ?_⟩
      cases e
      exact ⟨o, I.kIn _ o hk, hd⟩
    · have z : ∃ o, s.heap.get? p = some o ∧ o.ExactDict := by
        rcases hk with ⟨kvs, hk⟩ | ⟨kvs, hk⟩
        · obtain ⟨_, _, _, _, o, _, _, e, ex, _⟩ := I.hok p _ hk
          exact ⟨o, e, ex⟩
        · obtain ⟨_, _, _, _, o, _, _, e, ex, _⟩ := I.hok p _ hk
          exact ⟨o, e, ex⟩
      obtain ⟨o, e, ex⟩ := z
      refine ⟨⟨o, e, ex.1⟩, fun a e2 => ?_⟩
      cases e2
      exact ⟨o, e, ex.2.1⟩
    · obtain ⟨o, _, _, _, e, ex, _⟩ := I.hok p _ hk
      refine ⟨⟨o, e, ex.1⟩, fun a e2 => ?_⟩
      cases e2
      exact ⟨o, e, ex.2.1⟩
  | _ => exact False.elim ty
def tBM0 (K : PySem.W.Frag) (T : String) (r : V → List V → Hp → VK → Prop) (to : TE) : TE := fun σ H Q => to σ H fun x H1 => tyV K T x H1 ∧ r x [] H1 Q
def tBM (K : PySem.W.Frag) (T : String) (r : V → List V → Hp → VK → Prop) (to : TE) (t : TA) : TE := fun σ H Q => to σ H fun x H1 => tyV K T x H1 ∧ t σ H1 fun xs H2 => r x xs H2 Q
variable {o e : Expr} {es : List Expr} {to : TE} {t : TA} {name : Str} {apos cpos : Pos} {T id : String} {r : V → List V → Hp → VK → Prop}
theorem pe_bm (pa : PlainAttrs T) (slot : Slot T name id) (hty : typeOf (.builtin id) = pure (.type "method_descriptor")) (hm : MtR X id r) (ho : PE X o to) (ha : PA X (e :: es) t)
    (hbase : attributeBase o name X.env (eval o X.env) = eval o X.env := by rfl)
    (hfew : ((backTo cpos (starEach (e :: es) X.env)).all (fun x => !x.1) && (backToKw cpos (keywordEach [] X.env)).all (fun x => x.1.isSome)
      && decide ((e :: es).length + ([] : List Keyword).length + (if ([] : List Keyword).isEmpty then 0 else 1) < 30)) = true := by rfl)
    (hline : (apos.endLine == cpos.line) = true := by rfl) (hs : starEach (e :: es) X.env = (false, eval e X.env) :: starEach es X.env := by rfl) (hplain : (backTo cpos (starEach es X.env)).any (·.1) = false := by rfl) :
    PE X (.Call (.Attribute o name apos) (e :: es) [] cpos) (tBM X.K T r to t) := by
  intro pins s σ H Q I h
  refine wpAny_Call_method_late hbase hfew hline rfl (thn (ho pins s σ H _ I h) fun v s1 ⟨x, H1, I1, r1, ty, q1⟩ => ?_)
  obtain ⟨h1, h2⟩ := tyV_is I1 r1 ty
  refine ⟨T, id, pa, slot, hty, h1, h2, ?_⟩
  have hA := ha cpos pins s1 σ H1 _ I1 q1
  rw [hs] at hA ⊢
  refine Calls.callWith_builtin (by show (false || (backTo cpos (starEach es X.env)).any (·.1)) = false; rw [hplain] <;> rfl) (Calls.evalArgs_plain ?_)
  exact thn hA fun us s2 ⟨vs, H2, I2, r2, q2⟩ => hm pins s2 σ H2 x vs v us Q I2 r1 r2 q2
/- xs.append(e), list.index on a module's tuple .. are MtR facts of 06m -/
end
end L2

namespace L2
open PySem PySem.Spec PyProof.Rows

def MtM (X : Cx) (id : String) (r : V → List V → Hp → VK → Prop) : Prop :=
  ∀ (pins : List (Addr × Obj)) (s : Shared) (σ : St) (H : Hp) (x : V) (xs : List V) (v : Value) (us : List Value) (Q : VK), Inv X pins σ H s → RelV x v → Vals xs us → r x xs H Q →
    wpAny (model X.prog X.w) X.A (call (.builtin id) (v :: us)) (EP X pins σ Q) X.xe s

/-! ### lists of values -/
theorem Vals.one : ∀ {x : V} {us : List Value}, Vals [x] us → ∃ u, us = [u] ∧ RelV x u
  | _, _, .cons r .nil => ⟨_, rfl, r⟩
theorem Vals.reverse {xs : List V} {us : List Value} (h : Vals xs us) : Vals xs.reverse us.reverse := by
  induction h with
  | nil => exact .nil
  | cons r t ih => rw [List.reverse_cons, List.reverse_cons]; exact Vals.append ih (.cons r .nil)
theorem Vals.rep {xs : List V} {us : List Value} (h : Vals xs us) : ∀ k : Nat, Vals (List.replicate k xs).flatten (List.replicate k us).flatten
  | 0 => .nil
  | k + 1 => by
    rw [List.replicate_succ, List.replicate_succ, List.flatten_cons, List.flatten_cons]
    exact Vals.append h (Vals.rep h k)
theorem foldl_rep (its : List Value) : ∀ (k : Nat) (acc : List Value),
    List.foldl (fun x1 x2 => x1 ++ x2) acc.toArray (List.replicate k its.toArray) = (acc ++ (List.replicate k its).flatten).toArray
  | 0, acc => by simp
  | k + 1, acc => by
    have e : acc.toArray ++ its.toArray = (acc ++ its).toArray := by simp
    have e2 : (acc ++ its) ++ (List.replicate k its).flatten = acc ++ (List.replicate (k + 1) its).flatten := by
      rw [List.replicate_succ, List.flatten_cons, List.append_assoc]
    rw [← e2, ← foldl_rep its k (acc ++ its), ← e, List.replicate_succ, List.foldl_cons]

section
variable {X : Cx} {pins : List (Addr × Obj)} {σ : St} {H : Hp} {s : Shared} {l b : Addr} {xs ys zs : List V}

/-! ### the two steps: a tracked list is rewritten, a new list is laid -/
theorem Inv.lset {its its' : List Value} {n : Nat} {f : Array Value → Array Value} {t' : Nat} (I : Inv X pins σ H s) (hH : H l = some (.lst xs))
    (e : s.heap.get? l = some { cls := .type "list", data := .seq its.toArray n }) (hf : f its.toArray = its'.toArray) (hv : Vals ys its') (hz : ys.length ≤ sizeLine) :
    Inv X pins σ (upd H l (.lst ys)) { s with heap := s.heap.update l (Obj.mapSeq f), toks := t' } := by
  have q := PySem.IsL.update e f
  rw [hf] at q
  refine I.write (x := l) (e := l) (by rw [hH]; exact trivial) (.inl rfl) (fun b' u hb hu => (Heap.get?_update_other s.heap (Obj.mapSeq f) (Ne.symm hb)).trans hu) ⟨_, q⟩ ?_
  exact ⟨hz, its', _, hv, q⟩
theorem Inv.lnew {its : List Value} {t' : Nat} (I : Inv X pins σ H s) (hv : Vals ys its) (hz : ys.length ≤ sizeLine) :
    Inv X pins σ (upd H s.heap.objs.size (.lst ys)) { s with heap := s.heap.push { cls := .type "list", data := .seq its.toArray }, toks := t' } :=
  I.laid (fun _ _ q => Heap.get?_push_of_some _ q) (Nat.le_refl _) ⟨hz, its, 0, hv, Heap.get?_push_size _ rfl⟩
theorem Inv.fresh (I : Inv X pins σ H s) : H s.heap.objs.size = none := I.hok.fresh (Nat.le_refl _)
theorem Inv.lstM (I : Inv X pins σ H s) (hH : H l = some (.lst xs)) : xs.length ≤ sizeLine ∧ ∃ (its : List Value) (n : Nat), Vals xs its ∧ xs.length = its.length ∧ s.heap.get? l = some { cls := .type "list", data := .seq its.toArray n } := by
  obtain ⟨z, its, n, r, e⟩ := I.hok l _ hH
  exact ⟨z, its, n, r, r.length, e⟩

theorem notLongL {n : Nat} (h : n ≤ sizeLine) : Builtin.List.listTooLong n = false := by
  unfold Builtin.List.listTooLong
  exact decide_eq_false (by omega)
end

section
variable {X : Cx}

/-! ### methods -/
def rAppend : V → List V → Hp → VK → Prop := fun x vs H Q => ∃ l xs y, x = .ref l ∧ vs = [y] ∧ H l = some (.lst xs) ∧ xs.length < sizeLine ∧ Q .non (upd H l (.lst (xs ++ [y])))
theorem mt_append : MtM X "list.append" rAppend := by
  intro pins s σ H x vs v us Q I rx rv h
  obtain ⟨l, xs, y, rfl, rfl, hH, hz, q⟩ := h
  cases rx
  obtain ⟨u, rfl, ru⟩ := rv.one
  obtain ⟨z, its, n, r, hl, e⟩ := I.lstM hH
  refine call_meets F.slot_list_append ⟨_, e, rfl⟩ F.entry_list_append (F.args_list_append_2 _ _) (PySem.list_append l its.toArray n u (by rw [List.size_toArray]; omega)) ⟨e, ?_⟩
  refine ⟨.non, _, I.lset (its' := its ++ [u]) hH e (by simp) (r.append (.cons ru .nil)) ?_, rfl, q⟩
  rw [List.length_append, List.length_singleton]
  omega

def rExtend : V → List V → Hp → VK → Prop := fun x vs H Q => ∃ l b xs zs, x = .ref l ∧ vs = [.ref b] ∧ H l = some (.lst xs) ∧ H b = some (.lst zs) ∧ xs.length + zs.length ≤ sizeLine ∧ Q .non (upd H l (.lst (xs ++ zs)))
theorem mt_extend : MtM X "list.extend" rExtend := by
  intro pins s σ H x vs v us Q I rx rv h
  obtain ⟨l, b, xs, zs, rfl, rfl, hH, hB, hz, q⟩ := h
  cases rx
  obtain ⟨u, rfl, ru⟩ := rv.one
  cases ru
  obtain ⟨z, its, n, r, hl, e⟩ := I.lstM hH
  obtain ⟨z2, its2, n2, r2, hl2, e2⟩ := I.lstM hB
  have hsz : its.toArray.size + its2.toArray.size ≤ sizeLine := by rw [List.size_toArray, List.size_toArray]; omega
  have hlong : ¬ (!its.toArray.isEmpty && Builtin.List.listTooLong (its.toArray.size + its2.toArray.size)) = true := by
    rw [notLongL hsz, Bool.and_false]
    exact Bool.false_ne_true
  refine call_meets F.slot_list_extend ⟨_, e, rfl⟩ F.entry_list_extend (F.args_list_extend_2 _ _)
    (AutoSeq1.list_extend_list_list_0 l its.toArray n b its2.toArray n2 hlong (by rw [List.size_toArray]; omega) (by omega)) ⟨e, e2, ?_⟩
  refine ⟨.non, _, I.lset (its' := its ++ its2) hH e (by simp) (r.append r2) ?_, rfl, q⟩
  rw [List.length_append]
  omega

def rPop : V → List V → Hp → VK → Prop := fun x vs H Q => ∃ l xs y, x = .ref l ∧ vs = [] ∧ H l = some (.lst xs) ∧ xs[xs.length - 1]? = some y ∧ Q y (upd H l (.lst xs.dropLast))
def rPopAt : V → List V → Hp → VK → Prop := fun x vs H Q => ∃ l xs i k y, x = .ref l ∧ vs = [.int i] ∧ H l = some (.lst xs) ∧ -(2 ^ 63) ≤ i ∧ i < 2 ^ 63 ∧ seqIndex? i xs.length = some k ∧ xs[k]? = some y ∧ Q y (upd H l (.lst (xs.eraseIdx k)))
def rReverse : V → List V → Hp → VK → Prop := fun x vs H Q => ∃ l xs, x = .ref l ∧ vs = [] ∧ H l = some (.lst xs) ∧ Q .non (upd H l (.lst xs.reverse))
def rClear : V → List V → Hp → VK → Prop := fun x vs H Q => ∃ l xs, x = .ref l ∧ vs = [] ∧ H l = some (.lst xs) ∧ Q .non (upd H l (.lst []))
/-! ### list + list, list += list, list * int -/
def rCat : R2 := fun x y H Q => ∃ l b xs zs, x = .ref l ∧ y = .ref b ∧ H l = some (.lst xs) ∧ H b = some (.lst zs) ∧ xs.length + zs.length ≤ sizeLine ∧ ∀ p, H p = none → Q (.ref p) (upd H p (.lst (xs ++ zs)))
/-- a list times an int (a negative one is nothing) -/
def rRep : R2 := fun x y H Q => ∃ l k xs, x = .ref l ∧ y = .int k ∧ H l = some (.lst xs) ∧ -(2 ^ 63) ≤ k ∧ k < 2 ^ 63 ∧ xs.length * k.toNat ≤ sizeLine ∧
  ∀ p, H p = none → Q (.ref p) (upd H p (.lst (List.replicate k.toNat xs).flatten))
theorem len_rep {α : Type} (xs : List α) (k : Nat) : (List.replicate k xs).flatten.length = k * xs.length := by
  induction k with
  | zero => simp
  | succ k ih => rw [List.replicate_succ, List.flatten_cons, List.length_append, ih, Nat.succ_mul, Nat.add_comm]
theorem op_rep : OpR X (binaryOp .Mult) rRep := by
  intro pins s σ H x y v u Q I rx ry h
  obtain ⟨l, k, xs, rfl, rfl, hH, h1, h2, hz, q⟩ := h
  cases rx
  obtain ⟨t, rfl⟩ := ry
  obtain ⟨z, its, n, r, hl, e⟩ := I.lstM hH
  have hlen : its.toArray.size * k.toNat ≤ sizeLine := by rw [List.size_toArray, ← hl]; exact hz
  have hcap : ¬ its.toArray.size * k.toNat > (2 ^ 63 - 1) / 8 := by
    have : (sizeLine : Nat) ≤ (2 ^ 63 - 1) / 8 := by decide
    omega
  have hfit : ¬ (!Builtin.List.listFitsIndex k) = true := by
    rw [fitsIndex_both h1 h2]
    exact Bool.false_ne_true
  have hlong : ¬ Builtin.List.listTooLong (its.toArray.size * k.toNat) = true := by
    rw [notLongL hlen]
    exact Bool.false_ne_true
  have hnew : List.foldl (fun x1 x2 => x1 ++ x2) #[] (List.replicate (if its.toArray.isEmpty = true then 0 else k.toNat) its.toArray) = (List.replicate k.toNat its).flatten.toArray := by
    have f0 : ∀ m : Nat, List.foldl (fun x1 x2 => x1 ++ x2) #[] (List.replicate m its.toArray) = (List.replicate m its).flatten.toArray := fun m => by
      have := foldl_rep its m []
      rw [List.nil_append] at this
      exact this
    rw [f0]
    cases its with
    | nil => simp
    | cons a r' => rw [if_neg (by simp)]
  refine wpAny_binaryOp_repeat_ref (T := "list") (U := "int") (by decide) ⟨_, e, rfl⟩ (fun s' => typeIs_int s' k t) noFill_list_mul F.fills_int_mul F.slot_int_rmul repeat_list F.slot_int_index.lookup
    (call_meets F.slot_int_rmul (typeIs_int s k t) F.entry_int_rmul (F.args_int_rmul_2 _ _) (int___rmul___int_list k t l its.toArray n)
      ⟨e, rfl, ⟨_, e, rfl⟩, call_meets F.slot_list_mul ⟨_, e, rfl⟩ F.entry_list_mul (F.args_list_mul_2 _ _) (AutoListH.list___mul___list_int_3 l its.toArray n k t hfit hcap hlong) ⟨e, ?_⟩⟩)
  rw [hnew]
  exact ⟨.ref _, _, I.lnew (t' := s.toks) (r.rep k.toNat) (by rw [len_rep, Nat.mul_comm]; exact hz), rfl, q _ I.fresh⟩

/-! ### del xs[i] -/
end

/-! ### xs[a:b] = ys -/
section
variable {prog : Program} {w : World} {A : Around} {E : Value → Shared → Prop} {s : Shared}
set_option maxRecDepth 100000 in
end

section
variable {X : Cx}
end
end L2

namespace Att
open PySem PySem.W PySem.Calls PyProof.Rows

/-! ### the script -/
theorem ints_of_wellAll {P : Params} {h : Heap} : ∀ (ns : List Int) (vs : List Value), WellAll P h vs (ns.map WData.int) → IntsAre vs ns := by
  intro ns
  induction ns with
  | nil =>
    intro vs w
    rw [List.map_nil] at w
    cases w
    exact .nil
  | cons n ns ih =>
    intro vs w
    rw [List.map_cons] at w
    cases w with
    | cons a b =>
      cases a
      exact .cons _ _ (ih _ b)

theorem script_of {l : OpenLaw} {n : Nat} (hn : l.most = some n) {P : Params} {h : Heap} {args : List WData} {vals : List Value}
    (hpre : l.row.toRowW.claim.pre args = true) (hwl : WellAll P h vals args) :
    ∃ a vs ns, vals = [Value.ref a] ∧ args = [WData.list (ns.map WData.int)] ∧ h.get? a = some { cls := .type "list", data := .seq vs.toArray } ∧ IntsAre vs ns ∧ ns.length ≤ n := by
  have hsh : WShape.hasAll [] args [.list .int] = true := (pre_splitW hpre).1
  have hc : l.pre.holds [] { args := args } = true := (pre_splitW hpre).2
  obtain ⟨d, r, rfl, h1, h2⟩ := hasAllW_cons hsh
  obtain rfl := hasAllW_nil h2
  obtain ⟨xs, rfl, h3⟩ := hasW_list h1
  obtain ⟨ns, rfl⟩ := items_int h3
  have hlen : ns.length ≤ n := by
    unfold OpenLaw.pre at hc
    have h4 : (WTm.not (.lt (.lit (.int (n : Int))) (.len (.arg 0)))).holds [] { args := [.list (ns.map .int)] } = true := by
      have h4 := (holds_andW hc).1
      rw [hn] at h4
      exact h4
    have h5 := condW_of h4 (w_not (w_lt w_lit (w_len_list (w_arg rfl))))
    rw [List.length_map] at h5
    refine Nat.le_of_not_lt fun q => ?_
    have q' : (n : Int) < ((ns.length : Nat) : Int) := by omega
    first
      | (rw [decide_eq_true q'] at h5; exact absurd h5 (by decide))
      | (simp at h5; omega)
  cases hwl with
  | cons w1 w2 =>
    cases w2
    cases w1 with
    | list ho hall => exact ⟨_, _, ns, rfl, rfl, ho, ints_of_wellAll ns _ hall, hlen⟩

theorem post_true (l : OpenLaw) (args : List WData) : l.row.toRowW.claim.post args (.bool true) args = true :=
  postW_of (r := l.row.toRowW) (X := (true == true))
    (show WShape.has [] (.bool true) .bool = true by first | rfl | decide | simp [WShape.has, WShape.arms, WShape.armsAll])
    (show (WTm.eq .res (.lit (.bool true))).value [] { args := args, res := some (.bool true), after := args } = some (.bool (true == true)) from w_eq_bool (w_res rfl) w_lit) rfl

/-! ### the attachment: holds_open's last premise (the goal 'hc' behind k_head) from a wpAny of the law's body -/
/-- the same from a codeAny of the CALL (for a layer whose function contracts speak of calls) -/
theorem attach_call {l : OpenLaw} {n : Nat} {q : Program} {loose : List Str} {XP : (Str → Option Value) → Heap → Prop} {YP : World → Heap → Prop} {d : DefRec}
    (hn : l.most = some n) (hdf : d.params.defaults = [])
    (call : ∀ (w : World) (s₀ s₁ : Shared) (mg mb : Str → Option Value) (fa : Addr) (o : Obj) (pm cd doc : Value) (a : Addr) (vs : List Value) (ns : List Int),
      Ground q loose [] XP w s₀ mg mb s₁.heap → YP w s₁.heap →
      s₁.heap.get? fa = some o → o.data = .func (docDef d.name d.params d.body d.scope pm cd doc) → s₁.heap.CodeRec cd d.name → mg d.name = some (.ref fa) →
      s₁.heap.get? a = some { cls := .type "list", data := .seq vs.toArray } → IntsAre vs ns → ns.length ≤ n → s₁.gens = #[] →
      codeAny (model l.prog w) callerA (.call (.ref fa) ⟨[.ref a], []⟩) (fun r s' => r = .ok (.ret (.bool true)) ∧ OldK s₁.heap s'.heap ∧ s'.os = s₁.os ∧ AllBare s'.gens) s₁) :
    WalkO q loose XP YP l.row.toRowW d [] (fun f vs => PySem.call f vs) := by
  intro w s₀ s₁ mg mb G Y fa o pm cd doc dV kV ho hd hcd hD hmg hg args vals as hpre hlay hrd hwl hlo
  obtain rfl : dV = .none := Dflts.none hD hdf
  obtain rfl : kV = .none := Dflts.noKw hD
  obtain ⟨a, vs, ns, rfl, rfl, hobj, hints, hlen⟩ := script_of hn hpre hwl
  refine enter_call (codeAny_mono (call w s₀ s₁ mg mb fa o pm cd doc a vs ns G Y ho (fd_plain hd) hcd hmg hobj hints hlen hg) fun r s' hq => ?_)
  obtain ⟨rfl, h2, h3, h4⟩ := hq
  exact ⟨.inl ⟨.bool true, .bool true, [], rfl, fun _ => rfl, .bool true, post_true l _, fun _ => ⟨List.Pairwise.nil, fun _ hm => (nomatch hm)⟩⟩, h2, h3, h4⟩

/-! ### rules over ANY heap (no ledger) from facts about the written part K: the library's own take a ledger (News) for what they write -/
section
variable {prog : Program} {w : World} {A : Around} {E : Value → Shared → Prop} {s : Shared} {K : Frag}

/-! the whole heap as the ledger: makes every rule that writes through a ledger a rule over any heap -/
def noObjs (h : Heap) : Heap := { h with objs := #[] }
def ledger (h : Heap) (L d : Addr) : List (Addr × Obj) := (List.range h.objs.size).filterMap fun a => if a = L ∨ a = d then none else (h.get? a).map fun o => (a, o)
end
end Att

namespace L2
open PySem PySem.Spec PyProof.Rows

theorem vals_ints : ∀ {vs : List Value} {ns : List Int}, IntsAre vs ns → Vals (ns.map V.int) vs
  | _, _, .nil => .nil
  | _, _, .cons n t h => .cons ⟨t, rfl⟩ (vals_ints h)

/-- nothing is tracked but the script, known to the object (or it is an object of the module) -/
def Only (H : Hp) : Prop := ∀ b, H b = none ∨ ∃ o xs, H b = some (.frz o (.lst xs))

/-- THE HEAD: the law's promise, at the heap behind the top. F, the promise of the law's def, may use that base is part of the heap (so K.In base, base.Ns mainGlobals mg stand in Mod) -/
theorem law_call {P : Program} {w : World} {K : PySem.W.Frag} {mg mb : Str → Option Value} {CX : CXT} {k : Nat} {fa a : Addr} {fd : FuncData} {x : Str} {sp : Sp} {s₁ : Shared} {vs : List Value} {ns : List Int}
    (KX : K.In s₁.heap) (hns : s₁.heap.Ns mainGlobals mg) (hb : s₁.heap.Ns builtinsNs mb) (hbb : ∀ x : Str, x ≠ "__name__" → mb x = bootBuiltins x) (hlim : s₁.heap.NoLimit) (hg : s₁.gens = #[])
    (ha : s₁.heap.get? a = some { cls := .type "list", data := .seq vs.toArray }) (hi : IntsAre vs ns) (hl : ns.length ≤ sizeLine) (hr : Room k callerA)
    (F : ∀ base : Heap, K.In base → base.Ns mainGlobals mg → FnOk P w K mg base CX k fa fd [x] sp) (hbind : ∀ (s : Shared) (u : Value), BindsTo s fd ⟨[u], []⟩ [(x, u)])
    (hsp : ∀ H : Hp, Only H → SqL K H a (ns.map V.int) → sp [.ref a] H (fun v _ => v = .bl true) fun _ _ _ => False)
    (hCX : ∀ H e s', CX [] H s₁ (fun _ _ _ => False) e s' → False) :
    codeAny (model P w) callerA (.call (.ref fa) ⟨[.ref a], []⟩) (fun r s' => r = .ok (.ret (.bool true)) ∧ OldK s₁.heap s'.heap ∧ s'.os = s₁.os ∧ AllBare s'.gens) s₁ := by
  have rv := vals_ints hi
  have lenV := hi.length
  -- from an abstract heap in which nothing but the script may be tracked
  have core : ∀ H : Hp, Only H → SqL K H a (ns.map V.int) → HOk P w H s₁.heap → (∀ b, H b ≠ none → b = a) → (H a ≠ none → K.lookup a = none) →
      codeAny (model P w) callerA (.call (.ref fa) ⟨[.ref a], []⟩) (fun r s' => r = .ok (.ret (.bool true)) ∧ OldK s₁.heap s'.heap ∧ s'.os = s₁.os ∧ AllBare s'.gens) s₁ := by
    intro H hO hS hok hA hK
    have base_of : ∀ {b : Addr} {o : Obj}, s₁.heap.get? b = some o → H b = none → (hidT s₁.heap H).get? b = some o := fun e n => hidT_get e n
    have noA : ∀ {b : Addr} {o : Obj} {es : Array DictEntry} {ep : Nat}, s₁.heap.get? b = some o → o.data = .dict es ep → H b = none := fun {b o es ep} e d => by
      cases q : H b with
      | none => rfl
      | some u =>
        have e' : b = a := hA b (by rw [q]; simp)
        subst e'
        rw [ha] at e; cases e
        have d' : Data.seq vs.toArray _ = Data.dict es ep := d
        cases d'
    have nsK : ∀ {b : Addr} {m : Str → Option Value}, s₁.heap.Ns b m → (hidT s₁.heap H).Ns b m := fun {b m} ⟨o, es, ep, e, d, r⟩ => ⟨o, es, ep, base_of e (noA e d), d, r⟩
    have hKb : K.In (hidT s₁.heap H) := fun b o e => base_of (KX b o e) (by
      cases q : H b with
      | none => rfl
      | some u =>
        have e' : b = a := hA b (by rw [q]; simp)
        subst e'
        rw [hK (by rw [q]; simp)] at e; cases e)
    have hM : Mod K mg (hidT s₁.heap H) := ⟨hKb, nsK hns, ⟨mb, nsK hb, hbb⟩, let ⟨mc, h1, h2⟩ := hlim; ⟨mc, nsK h1, h2⟩⟩
    have e0 : Env0 P w K mg (hidT s₁.heap H) callerA [] s₁ H := ⟨rfl, hM, fun b o e => of_hidT e, Nat.le_of_eq (hidT_size _ _), trivial, fun b hb => absurd (show b ∈ ([] : List Addr) from hb) (by simp), hok, .of_eq hg⟩
    refine codeAny_mono ((F _ hKb (nsK hns)).run callerA [] s₁ H ⟨[.ref a], []⟩ [.ref a] [.ref a] _ _ hr e0 (hbind s₁ (.ref a)) (.cons rfl .nil) (hsp H hO hS)) fun r s' h => ?_
    cases r with
    | error e => exact (hCX H e s' h).elim
    | ok fl =>
      cases fl with
      | next => exact False.elim h
      | brk => exact False.elim h
      | cont => exact False.elim h
      | ret u =>
        obtain ⟨v, H', os, bare, un, hok', r', q⟩ := h
        have q' : v = .bl true := q
        subst q'
        obtain rfl : u = Value.bool true := r'
        refine ⟨rfl, OldK.of_keep fun b o e => ?_, os, bare⟩
        cases q : H b with
        | none => exact un.keep b o e q (by intro z; exact absurd (show b ∈ ([] : List Addr) from z) (by simp)) (by simp)
        | some u =>
          rcases hO b with z | ⟨ob, xs, z⟩
          · rw [q] at z; cases z
          · have z2 := un.frzs b ob _ z
            obtain ⟨e1, _⟩ := hok b _ z
            obtain ⟨e2, _⟩ := hok' b _ z2
            rw [e] at e1; cases e1
            exact e2
  cases hk : K.lookup a with
  | some o =>
    -- the script is one of the module's own objects
    have e := KX a o hk
    rw [ha] at e
    cases e
    refine core (fun _ => none) (fun _ => .inl rfl) (.inr ⟨_, vs.toArray, _, hk, rfl, rfl, rfl, by rw [List.size_toArray, lenV]; exact hl, by simpa using rv⟩) (fun b u z => by have z' : (none : Option HO) = some u := z; cases z') (fun b z => absurd rfl z) fun z => absurd rfl z
  | none =>
    refine core (fun b => if b = a then some (.frz { cls := .type "list", data := .seq vs.toArray } (.lst (ns.map V.int))) else none) (fun b => ?_) (.inl (.inr ⟨{ cls := .type "list", data := .seq vs.toArray }, if_pos rfl⟩)) (fun b u z => ?_) (fun b z => ?_) fun _ => hk
    · by_cases hb : b = a
      · exact .inr ⟨_, _, if_pos hb⟩
      · exact .inl (if_neg hb)
    · by_cases hb : b = a
      · have z' := (if_pos hb).symm.trans z
        cases z'
        subst hb
        exact ⟨ha, by rw [List.length_map]; exact hl, vs, _, rv, ha⟩
      · have z' := (if_neg hb).symm.trans z
        cases z'
    · by_cases hb : b = a
      · exact hb
      · exact absurd (if_neg hb) z
end L2

namespace L2
open PySem PySem.Spec PyProof.Rows

abbrev KOf {K : PySem.W.Frag} {h : Heap} (_ : K.In h) : PySem.W.Frag := K

/-- the goal that k_head leaves (case hc), from the law's promise. F gives the function object fd (K's own) once, then the promise over every base -/
theorem walk_of {l : PySem.W.OpenLaw} {n k : Nat} {q : Program} {loose : List Str} {XP : (Str → Option Value) → Heap → Prop} {YP : World → Heap → Prop} {d : DefRec} {K : Params → PySem.W.Frag} {CX : World → CXT} {sp : World → Sp} {x : Str}
    (hn : l.most = some n) (hn2 : n ≤ sizeLine) (hdf : d.params.defaults = []) (hr : Room k callerA)
    (hY : ∀ (w : World) (h : Heap), YP w h → (K w.params).In h)
    (F : ∀ (w : World) (mg : Str → Option Value) (fa : Addr) (h : Heap), (K w.params).In h → h.Ns mainGlobals mg → mg d.name = some (.ref fa) →
      ∃ fd : FuncData, (∀ (s : Shared) (u : Value), BindsTo s fd ⟨[u], []⟩ [(x, u)]) ∧
        ∀ base : Heap, (K w.params).In base → base.Ns mainGlobals mg → FnOk l.prog w (K w.params) mg base (CX w) k fa fd [x] (sp w))
    (hsp : ∀ (w : World) (H : Hp) (a : Addr) (ns : List Int), ns.length ≤ n → Only H → SqL (K w.params) H a (ns.map V.int) → sp w [.ref a] H (fun v _ => v = .bl true) fun _ _ _ => False)
    (hCX : ∀ (w : World) (H : Hp) (s : Shared) (e : Value) (s' : Shared), CX w [] H s (fun _ _ _ => False) e s' → False) :
    PySem.W.WalkO q loose XP YP l.row.toRowW d [] (fun f vs => PySem.call f vs) := by
  refine Att.attach_call hn hdf fun w s₀ s₁ mg mb fa o pm cd doc a vs ns G Y ho hd hcd hmg hobj hints hlen hg => ?_
  have KX := hY w _ Y
  obtain ⟨fd, hb, hF⟩ := F w mg fa _ KX G.T.g hmg
  exact law_call KX G.T.g G.T.b G.T.builtins G.T.nolimit hg hobj hints (Nat.le_trans hlen hn2) hr hF hb (fun H hO hS => hsp w H a ns hlen hO hS) fun H e s' => hCX w H s₁ e s'
/-- the same where the promise hangs on the written part alone: (sp := My.sp_law), no hole under a binder -/
theorem walk_ofK {l : PySem.W.OpenLaw} {n k : Nat} {q : Program} {loose : List Str} {XP : (Str → Option Value) → Heap → Prop} {YP : World → Heap → Prop} {d : DefRec} {K : Params → PySem.W.Frag} {CX : CXT} {sp : PySem.W.Frag → Sp} {x : Str}
    (hn : l.most = some n) (hn2 : n ≤ sizeLine) (hdf : d.params.defaults = []) (hr : Room k callerA)
    (hY : ∀ (w : World) (h : Heap), YP w h → (K w.params).In h)
    (F : ∀ (w : World) (mg : Str → Option Value) (fa : Addr) (h : Heap), (K w.params).In h → h.Ns mainGlobals mg → mg d.name = some (.ref fa) →
      ∃ fd : FuncData, (∀ (s : Shared) (u : Value), BindsTo s fd ⟨[u], []⟩ [(x, u)]) ∧
        ∀ base : Heap, (K w.params).In base → base.Ns mainGlobals mg → FnOk l.prog w (K w.params) mg base CX k fa fd [x] (sp (K w.params)))
    (hsp : ∀ (K : PySem.W.Frag) (H : Hp) (a : Addr) (ns : List Int), ns.length ≤ n → Only H → SqL K H a (ns.map V.int) → sp K [.ref a] H (fun v _ => v = .bl true) fun _ _ _ => False)
    (hCX : ∀ (H : Hp) (s : Shared) (e : Value) (s' : Shared), CX [] H s (fun _ _ _ => False) e s' → False) :
    PySem.W.WalkO q loose XP YP l.row.toRowW d [] (fun f vs => PySem.call f vs) :=
  walk_of (K := K) (CX := fun _ => CX) (sp := fun w => sp (K w.params)) hn hn2 hdf hr hY F (fun w H a ns h1 h2 h3 => hsp (K w.params) H a ns h1 h2 h3) fun _ H s e s' => hCX H s e s'
end L2


/-! SHORT WORDS over the layer: a def of the text, its body, what a loop and a test want. -/
namespace L2
open PySem PySem.Spec PyProof.Rows

/-! ### the text by places -/
/-- the j-th statement of a class's body -/
def inClass (s : Stmt) (j : Nat) : Stmt := match s with
  | .ClassDef _ _ _ body _ _ _ _ _ _ _ => body.getD j (.Pass ⟨0, 0, 0, 0⟩)
  | _ => .Pass ⟨0, 0, 0, 0⟩
def defArgs (s : Stmt) : Arguments := match s with
  | .FunctionDef _ a _ _ _ _ _ _ _ _ => a
  | _ => { posonlyargs := [], args := [], vararg := none, kwonlyargs := [], kw_defaults := [], kwarg := none, defaults := [] }
def defBody (s : Stmt) : List Stmt := match s with
  | .FunctionDef _ _ b _ _ _ _ _ _ _ => b
  | _ => []
def defScope (s : Stmt) : Scope := match s with
  | .FunctionDef _ _ _ _ _ _ sc _ _ _ => sc
  | _ => { kind := .function, names := [], isGenerator := false, isCoroutine := false }

/-! ### no exception leaves a def -/
abbrev CX0 : CXT := fun _ _ _ _ _ _ => False
abbrev E0 : XK := fun _ _ _ => False
theorem pass0 {X : Cx} : Passes CX0 X E0 := fun _ _ _ _ _ _ _ h => h.elim

/-! ### a def (or method) of the text as it stands behind the top -/
structure Fun (K : PySem.W.Frag) (x qual : Str) (st : Stmt) (f : Addr) (fd : FuncData) : Prop where
  ex : ∃ (oc : Value) (od : Option Addr) (kV doc pm : Value) (an : Option Addr) (cdv ct : Value) (osl : Array (Option Value)),
    fd = PySem.W.fnOf x qual (defArgs st) (defBody st) (defScope st) .none kV doc pm an cdv ct ∧ K.lookup f = some ⟨oc, od, .func fd, osl⟩ ∧ PySem.W.codeIn K cdv qual = true
  kp : PySem.W.keepIn K (.ref f) = true
section
variable {P : Program} {w : World} {K : PySem.W.Frag} {mg : Str → Option Value} {base : Heap}
/-- THE RULE for a def: its body as a term of rules, and the reading of that term -/
theorem Fun.ok {x qual : Str} {st : Stmt} {f : Addr} {fd : FuncData} {N ps : List Str} {k : Nat} {sp : Sp} (F : Fun K x qual st f fd) (S : FnScope N ps (defScope st)) (len : ∀ vs H Q E, sp vs H Q E → vs.length = ps.length)
    (hbody : ∀ (cdv : Value) (A : Around) (outer : List Env) (s : Shared) (H : Hp) (vs : List V) (Q : VK) (E : XK), Room k (A.deeper (envOfC qual (defScope st) s.heap.objs.size f cdv)) → sp vs H Q E →
      ∃ t, PSs (cxOf CX0 P w K mg base N qual (defScope st) f cdv A outer s H E).nox (defBody st) t ∧ t { nx := fun _ H' => Q .non H', rt := Q } (start N vs) H) : FnOk P w K mg base CX0 (k + 1) f fd ps sp := by
  obtain ⟨oc, od, kV, doc, pm, an, cdv, ct, osl, rfl, lk, hcd⟩ := F.ex
  refine fn_of lk hcd S len fun A outer s H vs Q E hr hsp => ?_
  obtain ⟨t, h, q⟩ := hbody cdv A outer s H vs Q E hr hsp
  exact ⟨t, h.nox, q⟩
/-- how its arguments bind (no defaults): h is «fun _ _ _ _ _ _ us hl => match us, hl with | [_, _], _ => rfl», one _ a parameter -/
theorem Fun.binds {x qual : Str} {st : Stmt} {f : Addr} {fd : FuncData} {ps : List Str} (F : Fun K x qual st f fd)
    (h : ∀ (kV doc pm : Value) (an : Option Addr) (cdv ct : Value) (us : List Value), us.length = ps.length → bindArgs (PySem.W.fnOf x qual (defArgs st) (defBody st) (defScope st) .none kV doc pm an cdv ct) ⟨us, []⟩ = pure (ps.zip us)) : Binds K fd ps [] := by
  obtain ⟨oc, od, kV, doc, pm, an, cdv, ct, osl, rfl, lk, hcd⟩ := F.ex
  exact .all (h kV doc pm an cdv ct)
theorem fun_mk {x qual : Str} {st : Stmt} {f : Addr} {oc : Value} {od an : Option Addr} {osl : Array (Option Value)} {kV doc pm cdv ct : Value} (l : K.lookup f = some ⟨oc, od, .func (PySem.W.fnOf x qual (defArgs st) (defBody st) (defScope st) .none kV doc pm an cdv ct), osl⟩)
    (c : PySem.W.codeIn K cdv qual = true) (k : PySem.W.keepIn K (.ref f) = true) : Fun K x qual st f (PySem.W.fnOf x qual (defArgs st) (defBody st) (defScope st) .none kV doc pm an cdv ct) := ⟨⟨oc, od, kV, doc, pm, an, cdv, ct, osl, rfl, l, c⟩, k⟩
end
/-! ### expressions in short: the name that stands in the i-th slot -/
section
variable {X : Cx}
end

/-! ### tests -/
theorem iteF {A B : Prop} (h : B) : if false = true then A else B := by
  rw [if_neg Bool.false_ne_true]
  exact h
theorem iteT {A B : Prop} (h : A) : if true = true then A else B := by
  rw [if_pos rfl]
  exact h
theorem ite2 {c A B : Prop} [Decidable c] (h1 : c → A) (h2 : ¬ c → B) : if c then A else B := by
  by_cases h : c
  · rw [if_pos h]
    exact h1 h
  · rw [if_neg h]
    exact h2 h
/-! ### heaps -/
/-- all that was tracked is as it was -/
def Same (H H' : Hp) : Prop := ∀ b o, H b = some o → H' b = some o
theorem Same.refl (H : Hp) : Same H H := fun _ _ h => h
theorem Same.trans {H H1 H2 : Hp} (a : Same H H1) (b : Same H1 H2) : Same H H2 := fun c o h => b c o (a c o h)
theorem Same.free {H H' : Hp} (e : Same H H') {l : Addr} (h : H' l = Option.none) : H l = Option.none := by
  cases q : H l with
  | none => rfl
  | some o =>
    rw [e l o q] at h
    cases h
theorem Same.seq {K : PySem.W.Frag} {H H' : Hp} {a : Addr} {xs : List V} (e : Same H H') (h : SqL K H a xs) : SqL K H' a xs := by
  rcases h with (h | ⟨o, h⟩) | h
  · exact .inl (.inl (e _ _ h))
  · exact .inl (.inr ⟨o, e _ _ h⟩)
  · exact .inr h

end L2

set_option maxRecDepth 100000
set_option maxHeartbeats 4000000
/-! An exception under way: its class and its own dict are known all along. -/
namespace L2
open PySem

structure Flt (B : Heap) (l : List Env) (e : Addr) (cls : Value) (d : Option Addr) (fl : Value) (h : Heap) : Prop where
  stays : B.StaysIn h
  new : B.get? e = none
  frames : h.FunFrames B l
  tr : ∃ ox ws T oT ts, h.get? e = some ox ∧ ox.cls = cls ∧ ox.dict = d ∧ ox.data = .fields ws ∧ ws[1]? = some (.ref T) ∧
    B.get? T = none ∧ T ≠ e ∧ h.get? T = some oT ∧ oT.data = .fields ts ∧ ts[3]? = some fl

theorem dict_mapF (o : Obj) (f : Array Value → Array Value) : (o.mapFields f).dict = o.dict := by
  unfold Obj.mapFields
  split <;> rfl

section
variable {M : Model} {A : Around} {E : Value → Shared → Prop} {s : Shared} {B : Heap} {env : Env} {outer l : List Env} {L e : Addr} {cls fl : Value} {d : Option Addr} {Q : Unit → Shared → Prop}

theorem Flt.obj {h : Heap} (x : Flt B l e cls d fl h) : ∃ ox ws, h.get? e = some ox ∧ ox.cls = cls ∧ ox.dict = d ∧ ox.data = .fields ws := by
  obtain ⟨ox, ws, _, _, _, a1, a2, a3, a4, _⟩ := x.tr
  exact ⟨ox, ws, a1, a2, a3, a4⟩

/-- the entry of the frame at hand is laid -/
theorem note_tail {ox : Obj} {ws : Array Value} {head : Value} {more : Bool} (hA : A.frames = some (env :: outer)) (hF : s.heap.FunFrames B (env :: outer)) (hL : env.frame = some L)
    (h1 : s.heap.get? e = some ox) (hB : B.StaysIn s.heap) (hn : B.get? e = none) (hw : ox.data = .fields ws) (hz : 1 < ws.size)
    (k : ∀ h', Flt B (env :: outer) e ox.cls ox.dict (rawInt L) h' → s.heap.UpToSlots h' → Q () { s with heap := h' }) :
    wpAny M A (do let a ← frameOf env; let pl ← entryPlaceOf L more; let b ← EntryCells.newEntry head a .none (rawInt L) .none pl; setField (.ref e) 1 b) Q E s := by
  have nf : e ∉ (env :: outer).filterMap (·.frame) := by
    intro z
    obtain ⟨_, o, q, r⟩ := hF.mem z
    rw [h1] at q
    cases q
    exact r ws hw
  refine wpAny_bind (wpAny_frameOf_fun hA hF hL ?_)
  intro g1 k1
  refine wpAny_bind (wpAny_entryPlaceOf ?_)
  intro pl hp
  unfold EntryCells.newEntry newFields
  refine wpAny_bind (wpAny_newObj_type ?_ (hp.sizeOk5 _ _ _ _ _))
  have e1 : g1.get? e = some ox := (k1.2.1 e nf).trans h1
  have B1 : B.StaysIn g1 := by
    intro b o q
    refine (k1.2.1 b ?_).trans (hB b o q)
    intro z
    rw [(hF.mem z).1] at q
    cases q
  generalize hR : ({ cls := .type "traceback", dict := none, data := .fields ([head, .ref L, .none, rawInt L, .none] ++ (if pl.isEmpty then List.replicate 6 Value.none else pl)).toArray } : Obj) = R
  have R3 : ∃ ts, R.data = .fields ts ∧ ts[3]? = some (rawInt L) := by
    subst hR
    exact ⟨_, rfl, by simp⟩
  have Rf : R.isFreed = false := by subst hR; rfl
  have e2 := Heap.get?_push_of_some (h := g1) R e1
  refine wpAny_setField e2 hw hz (k _ ?_ ?_)
  · have hT : g1.objs.size ≠ e := Nat.ne_of_gt (Heap.lt_size e1)
    have w3 := Obj.data_mapFields hw (·.setIfInBounds 1 (Value.ref g1.objs.size))
    have e3 := Heap.get?_update_self (Obj.mapFields (·.setIfInBounds 1 (Value.ref g1.objs.size))) e2 (Obj.isFreed_of_fields w3)
    have T3 := (Heap.get?_update_other (g1.push R) (Obj.mapFields (·.setIfInBounds 1 (Value.ref g1.objs.size))) (Ne.symm hT)).trans (Heap.get?_push_size g1 Rf)
    refine ⟨?_, hn, ?_, ?_⟩
    · intro b o q
      have ne : e ≠ b := by intro z; subst z; rw [hn] at q; cases q
      rw [Heap.get?_update_other _ _ ne]
      exact Heap.get?_push_of_some _ (B1 b o q)
    · refine hF.of_keeps ?_
      intro b o q r
      obtain ⟨sl, z⟩ := k1.2.2 b o q
      have ne : e ≠ b := by intro y; subst y; rw [h1] at q; cases q; exact r ws hw
      refine ⟨{ o with slots := sl }, ?_, rfl⟩
      rw [Heap.get?_update_other _ _ ne]
      exact Heap.get?_push_of_some _ z
    · obtain ⟨ts, r1, r2⟩ := R3
      exact ⟨_, _, g1.objs.size, R, ts, e3, Obj.cls_mapFields _ _, dict_mapF _ _, w3, by simp [hz], B1.fresh, hT, T3, r1, r2⟩
  · intro b o q r
    obtain ⟨sl, z⟩ := k1.2.2 b o q
    have ne : e ≠ b := by intro y; subst y; rw [h1] at q; cases q; exact r ws hw
    refine ⟨sl, ?_⟩
    rw [Heap.get?_update_other _ _ ne]
    exact Heap.get?_push_of_some _ z

/-- a new exception: the first frame notes it -/
theorem note_first {ox : Obj} {ws : Array Value} (hA : A.frames = some (env :: outer)) (hF : s.heap.FunFrames B (env :: outer)) (hL : env.frame = some L)
    (h1 : s.heap.get? e = some ox) (hB : B.StaysIn s.heap) (hn : B.get? e = none) (hw : ox.data = .fields ws) (hz : ws[1]? = some .none)
    (k : ∀ h', Flt B (env :: outer) e ox.cls ox.dict (rawInt L) h' → s.heap.UpToSlots h' → Q () { s with heap := h' }) : wpAny M A (noteFrame (.ref e) env) Q E s := by
  unfold noteFrame
  simp only [hL]
  refine wpAny_bind (wpAny_field h1 hw hz ?_)
  rw [if_neg (by decide)]
  exact note_tail hA hF hL h1 hB hn hw (Array.getElem?_eq_some_iff.mp hz).1 k

/-- one that flies: the next frame notes it -/
theorem note_next (hA : A.frames = some (env :: outer)) (hL : env.frame = some L) (x : Flt B (env :: outer) e cls d .none s.heap)
    (k : ∀ h', Flt B (env :: outer) e cls d (rawInt L) h' → s.heap.UpToSlots h' → Q () { s with heap := h' }) : wpAny M A (noteFrame (.ref e) env) Q E s := by
  obtain ⟨ox, ws, T, oT, ts, a1, a2, a3, a4, a5, a6, a7, a8, a9, a10⟩ := x.tr
  subst a2 a3
  unfold noteFrame
  simp only [hL]
  refine wpAny_bind (wpAny_field a1 a4 a5 ?_)
  rw [if_pos (show (Value.ref T != Value.none) = true by simp)]
  refine wpAny_bind (wpAny_field a8 a9 a10 ?_)
  rw [if_neg (show ¬ ((Value.none == rawInt L) = true) by simp [rawInt])]
  refine wpAny_bind (wpAny_setField a8 a9 (Array.getElem?_eq_some_iff.mp a10).1 ?_)
  have oth : ∀ b, b ≠ T → (s.heap.update T (Obj.mapFields (·.setIfInBounds 3 Value.none))).get? b = s.heap.get? b := by
    intro b z
    exact Heap.get?_update_other _ _ (Ne.symm z)
  have nT : ∀ b o, s.heap.get? b = some o → (∀ us, o.data ≠ .fields us) → b ≠ T := by
    intro b o q r z
    rw [z, a8] at q
    cases q
    exact r ts a9
  refine note_tail hA ?_ hL ((oth e (Ne.symm a7)).trans a1) ?_ x.new a4 (Array.getElem?_eq_some_iff.mp a5).1 ?_
  · refine x.frames.of_keeps ?_
    intro b o q r
    exact ⟨o, (oth b (nT b o q r)).trans q, rfl⟩
  · intro b o q
    refine (oth b ?_).trans (x.stays b o q)
    intro z
    rw [z, a6] at q
    cases q
  · intro h' y1 y2
    refine k h' y1 ?_
    intro b o q r
    exact y2 b o ((oth b (nT b o q r)).trans q) r

/-- it goes on: nothing of it is held -/
theorem fly_on (x : Flt B l e cls d fl s.heap) (k : ∀ h', Flt B l e cls d .none h' → s.heap.UpToSlots h' → Q () { s with heap := h' }) : wpAny M A (setFlight (.ref e) none) Q E s := by
  obtain ⟨ox, ws, T, oT, ts, a1, a2, a3, a4, a5, a6, a7, a8, a9, a10⟩ := x.tr
  have z3 : 3 < ts.size := (Array.getElem?_eq_some_iff.mp a10).1
  have oth : ∀ b, b ≠ T → (s.heap.update T (Obj.mapFields (·.setIfInBounds 3 ((none : Option Addr).elim Value.none fun f => rawInt f)))).get? b = s.heap.get? b := by
    intro b z
    exact Heap.get?_update_other _ _ (Ne.symm z)
  have nT : ∀ b o, s.heap.get? b = some o → (∀ us, o.data ≠ .fields us) → b ≠ T := by
    intro b o q r z
    rw [z, a8] at q
    cases q
    exact r ts a9
  unfold setFlight
  refine wpAny_bind (wpAny_field a1 a4 a5 ?_)
  rw [if_pos (show (Value.ref T != Value.none) = true by simp)]
  refine wpAny_setField a8 a9 z3 (k _ ⟨?_, x.new, ?_, ?_⟩ ?_)
  · intro b o q
    refine (oth b ?_).trans (x.stays b o q)
    intro z
    rw [z, a6] at q
    cases q
  · refine x.frames.of_keeps ?_
    intro b o q r
    exact ⟨o, (oth b (nT b o q r)).trans q, rfl⟩
  · have w3 := Obj.data_mapFields a9 (·.setIfInBounds 3 ((none : Option Addr).elim Value.none fun f => rawInt f))
    exact ⟨ox, ws, T, _, _, (oth e (Ne.symm a7)).trans a1, a2, a3, a4, a5, a6, a7, Heap.get?_update_self _ a8 (Obj.isFreed_of_fields w3), w3, by simp [z3]⟩
  · intro b o q r
    exact ⟨o.slots, (oth b (nT b o q r)).trans q⟩

theorem Flt.out {h : Heap} (x : Flt B (env :: outer) e cls d fl h) : Flt B outer e cls d fl h := by
  obtain ⟨a1, a2, ⟨_, _, a3⟩, a4⟩ := x
  exact ⟨a1, a2, a3, a4⟩

/-- it leaves the frame that it was made in -/
theorem leave_first {ox : Obj} {ws : Array Value} (hA : A.frames = some (env :: outer)) (hF : s.heap.FunFrames B (env :: outer)) (hL : env.frame = some L)
    (h1 : s.heap.get? e = some ox) (hB : B.StaysIn s.heap) (hn : B.get? e = none) (hw : ox.data = .fields ws) (hz : ws[1]? = some .none)
    (k : ∀ h', Flt B outer e ox.cls ox.dict .none h' → s.heap.UpToSlots h' → Q () { s with heap := h' }) : wpAny M A (leaving env (.ref e)) Q E s := by
  unfold leaving
  refine wpAny_bind (note_first hA hF hL h1 hB hn hw hz ?_)
  intro h' x y
  refine fly_on x ?_
  intro h'' x' y'
  exact k h'' x'.out (y.trans y')
/-- it leaves a frame through which it flies -/
theorem leave_next (hA : A.frames = some (env :: outer)) (hL : env.frame = some L) (x : Flt B (env :: outer) e cls d .none s.heap)
    (k : ∀ h', Flt B outer e cls d .none h' → s.heap.UpToSlots h' → Q () { s with heap := h' }) : wpAny M A (leaving env (.ref e)) Q E s := by
  unfold leaving
  refine wpAny_bind (note_next hA hL x ?_)
  intro h' x y
  refine fly_on x ?_
  intro h'' x' y'
  exact k h'' x'.out (y.trans y')
end
end L2

set_option linter.all false
set_option maxRecDepth 100000
set_option maxHeartbeats 4000000
/-! Exceptions of the text's own classes over the layer: raised, passed on, caught. -/
namespace L2
open PySem PySem.Spec PyProof.Rows

/-- how an exception lies behind a call: it flies; all that was there before and all that is tracked stands in B, which stays -/
def CX1 (P : Program) (w : World) : CXT := fun outer H s E e s' =>
  ∃ (a : Addr) (cls : Value) (d : Option Addr) (B : Heap) (H' : Hp), e = .ref a ∧ s'.os = s.os ∧ AllBare s'.gens ∧ Un (frs outer) [] H H' s.heap s'.heap ∧ HOk P w H' s'.heap ∧
    Flt B outer a cls d .none s'.heap ∧ H' a = none ∧
    (∀ b o, s.heap.get? b = some o → b ∉ frs outer → H b = none → B.get? b = some o) ∧
    (∀ b u, H' b = some u → ∃ o, B.get? b = some o) ∧
    (∀ b o, s.heap.get? b = some o → b ∈ frs outer ∨ ∃ o', B.get? b = some o') ∧ E cls d H'

theorem frs_cons {env : Env} {outer : List Env} {L : Addr} (h : env.frame = some L) : frs (env :: outer) = L :: frs outer := by
  unfold frs
  rw [List.filterMap_cons, h]

/-- every tracked object is there -/
theorem ObjOk.ex {P : Program} {w : World} {H : Hp} {h : Heap} {a : Addr} {o : HO} (x : ObjOk P w H h a o) : ∃ ob, h.get? a = some ob := by
  cases o with
  | lst xs => obtain ⟨_, _, _, _, e⟩ := x; exact ⟨_, e⟩
  | tup xs => obtain ⟨_, _, _, ob, e, _⟩ := x; exact ⟨_, e⟩
  | dK kvs => obtain ⟨_, _, _, _, o, _, _, e, _⟩ := x; exact ⟨_, e⟩
  | dT kvs => obtain ⟨_, _, _, _, o, _, _, e, _⟩ := x; exact ⟨_, e⟩
  | set S n => obtain ⟨o, _, _, _, e, _⟩ := x; exact ⟨_, e⟩
  | ins C dx fs => obtain ⟨_, _, _, e, _⟩ := x; exact ⟨_, e⟩
  | own y => exact x
  | xd fs => obtain ⟨_, ⟨_, _, _, e, _⟩, _⟩ := x; exact ⟨_, e⟩
  | rng lo hi => obtain ⟨_, _, _, e⟩ := x; exact ⟨_, e⟩
  | frz ob u => obtain ⟨e, _⟩ := x; exact ⟨_, e⟩
  | tbl ps => exact ⟨_, (show h.get? a = some _ from x)⟩
  | met f y => exact ⟨_, (show h.get? a = some _ from x)⟩
  | ext φ => obtain ⟨_, e, _⟩ := x; exact e

section
variable {X : Cx} {pins : List (Addr × Obj)} {σ : St} {H H' : Hp} {s s1 : Shared} {B h' : Heap}

/-- behind a flight: the state of the frame to which it came, whatever records it turned -/
theorem Inv.flown (I : Inv X pins σ H s) (os : s1.os = s.os) (bare : AllBare s1.gens) (un : Un (frs X.stack) [] H H' s.heap s1.heap) (hok : HOk X.prog X.w H' s1.heap) (bs : B.StaysIn s1.heap)
    (b1 : ∀ b o, s.heap.get? b = some o → b ∉ frs X.stack → H b = none → B.get? b = some o) (b2 : ∀ b u, H' b = some u → ∃ o, B.get? b = some o)
    (b3 : ∀ b o, s.heap.get? b = some o → b ∈ frs X.stack ∨ ∃ o', B.get? b = some o') (st : B.StaysIn h') (up : s1.heap.UpToSlots h') : Inv X pins σ H' { s1 with heap := h' } := by
  have nf : ∀ b ∈ frs X.stack, ∀ o, s.heap.get? b = some o → ∀ vs, o.data ≠ .fields vs := fun b hb o e => by
    obtain ⟨_, o', e', r⟩ := I.stack.mem hb
    rw [e] at e'
    cases e'
    exact r
  have sl : ∀ b o, s.heap.get? b = some o → b ∈ frs X.stack → ∃ sl, h'.get? b = some { o with slots := sl } := fun b o e hb => by
    obtain ⟨s2, e2⟩ := un.slot b o e (I.stkFree b hb) hb (by simp)
    obtain ⟨s3, e3⟩ := up b _ e2 (nf b hb o e)
    exact ⟨s3, e3⟩
  refine I.call' (s' := { s1 with heap := h' }) os ⟨fun b o e n hb _ => st b o (b1 b o e hb n), fun b o e n hb _ => sl b o e hb, un.free, fun b o e hx => ?_, un.tups, un.frzs, un.tbls⟩ (fun b u e => ?_) bare fun b z => nomatch z
  · rcases b3 b o e with z | ⟨o', z⟩
    · obtain ⟨_, q⟩ := sl b o e z
      exact ⟨_, q⟩
    · exact ⟨o', st b o' z⟩
  · refine (hok b u e).stay (fun c v hc q => ?_) (fun _ q => q) fun _ _ q => q
    have ht : ∃ u', H' c = some u' := by
      rcases hc with rfl | hc
      · exact ⟨u, e⟩
      · exact ⟨_, hc⟩
    obtain ⟨u', hu⟩ := ht
    obtain ⟨o, ho⟩ := b2 c u' hu
    have q' := bs c o ho
    rw [q] at q'
    cases q'
    exact st c v ho
end

section
variable {P : Program} {w : World} {K : PySem.W.Frag} {mg : Str → Option Value} {base : Heap} {N : List Str} {qual : Str} {scope : Scope} {f : Addr} {cd : Value} {A : Around} {outer : List Env} {s₀ : Shared} {H₀ : Hp} {E : XK}

/-- what leaves a called def leaves this one too -/
theorem passX : Passes (CX1 P w) (cxOf (CX1 P w) P w K mg base N qual scope f cd A outer s₀ H₀ E) E := by
  intro pins σ H s e s1 I h
  obtain ⟨a, cls, d, B, H', rfl, os, bare, un, hok, fl, ha, b1, b2, b3, q⟩ := h
  have hfr : (envOfC qual scope s₀.heap.objs.size f cd).frame = some s₀.heap.objs.size := rfl
  refine leave_next (B := B) (outer := outer) I.ok.frames hfr fl fun h' x y => ?_
  have J := I.flown (s1 := s1) os bare un hok fl.stays b1 b2 b3 x.stays y
  have nL : ∀ b o, s₀.heap.get? b = some o → b ∉ frs outer → b ∉ frs (envOfC qual scope s₀.heap.objs.size f cd :: outer) := fun b o e hb z => by
    rw [frs_cons hfr] at z
    rcases List.mem_cons.mp z with z | z
    · exact absurd (Heap.lt_size e) (by rw [z]; exact Nat.lt_irrefl _)
    · exact hb z
  refine ⟨a, cls, d, B, H', rfl, J.os, J.bare, J.base, J.hok, x, ha, fun b o e hb n => ?_, b2, fun b o e => ?_, q⟩
  · exact b1 b o (I.base.keep b o e n hb (by intro z; cases z)) (nL b o e hb) (I.base.free b o e n (by intro z; cases z))
  · obtain ⟨o', e'⟩ := I.base.there b o e (by intro z; cases z)
    by_cases hb : b ∈ frs outer
    · exact .inl hb
    · rcases b3 b o' e' with z | z
      · exact absurd z (nL b o e hb)
      · exact .inr z

end

/-! ### a def whose exceptions leave it -/
theorem Fun.okX {P : Program} {w : World} {K : PySem.W.Frag} {mg : Str → Option Value} {base : Heap} {x qual : Str} {st : Stmt} {f : Addr} {fd : FuncData} {N ps : List Str} {k : Nat} {sp : Sp} (F : Fun K x qual st f fd) (S : FnScope N ps (defScope st))
    (len : ∀ vs H Q E, sp vs H Q E → vs.length = ps.length)
    (hbody : ∀ (cdv : Value) (A : Around) (outer : List Env) (s : Shared) (H : Hp) (vs : List V) (Q : VK) (E : XK), Room k (A.deeper (envOfC qual (defScope st) s.heap.objs.size f cdv)) → sp vs H Q E →
      ∃ t, PSs (cxOf (CX1 P w) P w K mg base N qual (defScope st) f cdv A outer s H E) (defBody st) t ∧ t { nx := fun _ H' => Q .non H', rt := Q } (start N vs) H) : FnOk P w K mg base (CX1 P w) (k + 1) f fd ps sp := by
  obtain ⟨oc, od, kV, doc, pm, an, cdv, ct, osl, rfl, lk, hcd⟩ := F.ex
  exact fn_of lk hcd S len fun A outer s H vs Q E hr hsp => hbody cdv A outer s H vs Q E hr hsp
end L2

set_option linter.all false
set_option maxRecDepth 100000
set_option maxHeartbeats 4000000
namespace L2
open PySem PySem.Spec PyProof.Rows

abbrev bmVE : List Value := [.type "ValueError", .type "Exception", .type "BaseException", .type "object"]

/-! ### raise C(e, ..) -/
def tRaise (C : Addr) (E : XK) (t : TA) : TS := fun _ σ H => t σ H fun vs H1 => vs.length ≤ sizeLine ∧ E (.ref C) none H1
section
variable {P : Program} {w : World} {K : PySem.W.Frag} {mg : Str → Option Value} {base : Heap} {N : List Str} {qual : Str} {scope : Scope} {f : Addr} {cd : Value} {A : Around} {outer : List Env} {s₀ : Shared} {H₀ : Hp} {E : XK}
end

/-! ### an exception that is caught: its object -/
def excO (a : Addr) (cls : Value) (d : Option Addr) : HO := .ext fun h => ∃ ox ws, h.get? a = some ox ∧ ox.cls = cls ∧ ox.dict = d ∧ ox.data = .fields ws
theorem excO_ok {P : Program} {w : World} {H : Hp} {h : Heap} {a : Addr} {cls : Value} {d : Option Addr} (x : ∃ ox ws, h.get? a = some ox ∧ ox.cls = cls ∧ ox.dict = d ∧ ox.data = .fields ws) : ObjOk P w H h a (excO a cls d) := by
  obtain ⟨ox, ws, e1, e2, e3, e4⟩ := x
  refine ⟨⟨ox, ws, e1, e2, e3, e4⟩, ⟨ox, e1⟩, ?_⟩
  rintro h1 h2 ⟨o, us, f1, f2, f3, f4⟩ k
  exact ⟨o, us, k o f1, f2, f3, f4⟩

section
variable {X : Cx} {pins : List (Addr × Obj)} {σ : St} {H : Hp} {s : Shared}
/-- an untracked object of ours is tracked from here on -/
theorem Inv.track {a : Addr} {o : HO} (I : Inv X pins σ H s) (n : H a = none) (nL : a ≠ X.env.locals) (nC : ∀ x c, X.env.cells.lookup x = some c → c ≠ a) (nP : ∀ p ∈ X.pn ++ pins, p.1 ≠ a) (n0 : X.s₀.heap.get? a = none)
    (new : ObjOk X.prog X.w (upd H a o) s.heap a o) : Inv X pins σ (upd H a o) s := by
  have ne : ∀ b u, H b = some u → b ≠ a := fun b u e z => by rw [z, n] at e; cases e
  refine ⟨I.ok, I.os, I.bare, ⟨I.base.keep, I.base.slot, fun b ob e m hx => ?_, I.base.there, fun b xs e => ?_, fun b ob u e => ?_, fun b ps e => ?_⟩, I.loc, I.cell, ?_, fun x c e => ?_, fun p hp => ?_, fun b u e => ?_, I.len⟩
  · rw [upd_ne (by intro z; rw [z, n0] at e; cases e)]
    exact I.base.free b ob e m hx
  · have e1 := I.base.tups b xs e
    rw [upd_ne (ne _ _ e1)]
    exact e1
  · have e1 := I.base.frzs b ob u e
    rw [upd_ne (ne _ _ e1)]
    exact e1
  · obtain ⟨m, e1⟩ := I.base.tbls b ps e
    exact ⟨m, by rw [upd_ne (ne _ _ e1)]; exact e1⟩
  · rw [upd_ne (Ne.symm nL)]
    exact I.free
  · rw [upd_ne (nC x c e)]
    exact I.freeC x c e
  · obtain ⟨e1, e2, e3⟩ := I.pin p hp
    exact ⟨e1, by rw [upd_ne (nP p hp)]; exact e2, e3⟩
  · by_cases hb : b = a
    · subst hb
      rw [upd_same] at e
      cases e
      exact new
    · rw [upd_ne hb] at e
      refine (I.hok b u e).stay (fun _ _ _ q => q) (fun c q => ?_) fun c xs q => ?_
      · rw [upd_ne (ne _ _ q)]
        exact q
      · rw [upd_ne (ne _ _ q)]
        exact q

/-- the name of an except clause goes behind its suite -/
theorem Inv.unname {M : Model} {A : Around} {E : Value → Shared → Prop} {i : Nat} {n : Str} {pos : Pos} {Q : Unit → Shared → Prop} (I : Inv X pins σ H s) (hN : X.N.Nodup) (hi : X.N[i]? = some n) (hk : X.env.scope.names.lookup n = some .local)
    (k : ∀ s', Inv X pins (σ.set i none) H s' → Q () s') : wpAny M A (do bindName X.env n .none; unbindBehindTheSuite X.env n pos) Q E s := by
  obtain ⟨m, hn, hl⟩ := id I.loc
  obtain ⟨oL, _, _, hoL, _⟩ := id hn
  refine wpAny_nameGoes_keeps hk hn (by rw [I.ok.kind]; rfl) fun h' v hn' sb => k _ ?_
  have ne0 : ∀ b o, X.s₀.heap.get? b = some o → b ≠ X.env.locals := fun b o e => Nat.ne_of_lt (Nat.lt_of_lt_of_le (Heap.lt_size e) I.ok.above)
  refine ⟨I.ok, I.os, I.bare, ⟨fun b o e m hb hx => (sb.2 b (ne0 b o e)).trans (I.base.keep b o e m hb hx), fun b o e m hb hx => ?_, I.base.free, fun b o e hx => ?_, I.base.tups, I.base.frzs, I.base.tbls⟩, ⟨_, hn', fun j y w e1 e2 e3 => ?_⟩, fun y c e => ?_, I.free, I.freeC, fun p hp => ?_, fun b u e => ?_, ?_⟩
  · obtain ⟨sl, e1⟩ := I.base.slot b o e m hb hx
    exact ⟨sl, (sb.2 b (ne0 b o e)).trans e1⟩
  · obtain ⟨o', e1⟩ := I.base.there b o e hx
    exact ⟨o', (sb.2 b (ne0 b o e)).trans e1⟩
  · have hj : j ≠ i := by
      intro z
      subst z
      have hz : j < σ.length := by rw [I.len]; exact (List.getElem?_eq_some_iff.mp hi).1
      rw [List.getElem?_set_self hz] at e2
      cases e2
    rw [List.getElem?_set_ne (Ne.symm hj)] at e2
    obtain ⟨u, r, l⟩ := hl j y w e1 e2 e3
    have hy : y ≠ n := by
      intro z
      subst z
      exact hj (nodup_ix hN e1 hi)
    refine ⟨u, r, ?_⟩
    rcases l with ⟨l1, l2⟩ | ⟨l1, c, l2, l3⟩
    · exact .inl ⟨l1, (if_neg hy).trans l2⟩
    · exact .inr ⟨l1, c, l2, l3.sameBut sb (I.cne y c l2)⟩
  · obtain ⟨w, z⟩ := I.cell y c e
    exact ⟨w, z.sameBut sb (I.cne y c e)⟩
  · obtain ⟨e1, e2, e3, e4⟩ := I.pin p hp
    exact ⟨(sb.2 p.1 e3).trans e1, e2, e3, e4⟩
  · refine (I.hok b u e).stay (fun c w hc q => (sb.2 c ?_).trans q) (fun _ q => q) fun _ _ q => q
    intro z
    subst z
    rcases hc with hc | hc
    · rw [← hc, I.free] at e
      cases e
    · rw [I.free] at hc
      cases hc
  · rw [List.length_set]
    exact I.len
end

/-! ### calls that may raise -/
/-- an exception has come to this frame -/
def XP (X : Cx) (pins : List (Addr × Obj)) (σ : St) (Ex : XK) (e : Value) (s' : Shared) : Prop := ∃ H s, Inv X pins σ H s ∧ CX1 X.prog X.w X.stack H s Ex e s'
abbrev TX := St → Hp → VK → XK → Prop
def PEX (X : Cx) (e : Expr) (t : TX) : Prop :=
  ∀ (pins : List (Addr × Obj)) (s : Shared) (σ : St) (H : Hp) (Q : VK) (Ex : XK), Inv X pins σ H s → t σ H Q Ex → wpAny (model X.prog X.w) X.A (eval e X.env) (EP X pins σ Q) (XP X pins σ Ex) s
def tCallX (sp : Sp) (dvs : List V) (t : TA) : TX := fun σ H Q Ex => t σ H fun vs H1 => sp (vs ++ dvs) H1 Q Ex
section
variable {X : Cx} {k : Nat} {f : Addr} {fd : FuncData} {ps : List Str} {sp : Sp} {dvs : List V} {ds : List Value} {x : Str} {p pos : Pos} {e : Expr} {es : List Expr} {t : TA}
theorem PA.nox' {es : List Expr} {t : TA} (h : PA X.nox es t) {pos : Pos} {pins : List (Addr × Obj)} {s : Shared} {σ : St} {H : Hp} {Q : List V → Hp → Prop} {E : Value → Shared → Prop} (I : Inv X pins σ H s) (q : t σ H Q) :
    wpAny (model X.prog X.w) X.A (spliced (backTo pos (starEach es X.env))) (AP X pins σ Q) E s :=
  wpAny_mono (h pos pins s σ H Q (I.wish _) q) (fun _ _ ⟨vs, H', I', r, z⟩ => ⟨vs, H', I'.unwish, r, z⟩) fun _ _ z => False.elim z
theorem pex_call (F : FnOk X.prog X.w X.K X.mg X.base (CX1 X.prog X.w) k f fd ps sp) (hr : Room k X.A) (hg : Gl X x) (hm : X.mg x = some (.ref f)) (hk : PySem.W.keepIn X.K (.ref f) = true) (hb : Binds X.K fd ps ds) (hd : Vals dvs ds)
    (ha : PA X.nox (e :: es) t) (hdb : (x == ("__debug__" : Str)) = false := by decide) (he : starEach (e :: es) X.env = (false, eval e X.env) :: starEach es X.env := by rfl) (hpl : (backTo pos (starEach es X.env)).any (·.1) = false := by rfl) :
    PEX X (.Call (.Name x p) (e :: es) [] pos) (tCallX sp dvs t) := by
  intro pins s σ H Q Ex I h
  refine wpAny_Call_Name_kw (ld_glob I hg hm ?_ hdb)
  refine PySem.W.callWith_K (h₀ := X.base) I.ok.mod.kin hk (thn (ha.nox' I h) ?_) he hpl
  rintro us s1 ⟨vs, H1, I1, r, q⟩
  refine ⟨I1.kIn, ?_⟩
  have r2 : Vals (vs ++ dvs) (us ++ ds) := r.append hd
  have hl : (us ++ ds).length = ps.length := by rw [← r2.length]; exact F.len _ _ _ _ q
  refine wpAny_call (codeAny_mono (F.run X.A X.stack s1 H1 ⟨us, []⟩ (us ++ ds) (vs ++ dvs) Q Ex hr I1.env0 (hb s1 us I1.kIn hl) r2 q) ?_)
  intro r s' z
  cases r with
  | error e => exact ⟨H1, s1, I1, z⟩
  | ok fl =>
    cases fl with
    | ret u => exact I1.after z
    | next => exact False.elim z
    | brk => exact False.elim z
    | cont => exact False.elim z
end

/-! ### try: .. except S as n: .. -/
/-- the context of an except suite -/
abbrev Cx.caught (X : Cx) (a : Addr) : Cx := { X with A := X.A.mark (some (.ref a)), calm := false }
theorem Inv.caught {X : Cx} {pins : List (Addr × Obj)} {σ : St} {H : Hp} {s : Shared} (I : Inv X pins σ H s) (a : Addr) : Inv (X.caught a) pins σ H s :=
  ⟨⟨I.ok.mod, I.ok.kind, I.ok.glob, I.ok.blt, I.ok.above, I.ok.inj, I.ok.has, I.ok.cab, (fun z => nomatch z), I.ok.frames, I.ok.stk, I.ok.exf, I.ok.bs, I.ok.bsz, I.ok.noex, I.ok.exfs, I.ok.funs, I.ok.frf⟩, I.os, I.bare, I.base, I.loc, I.cell, I.free, I.freeC, I.pin, I.hok, I.len⟩
theorem Inv.uncaught {X : Cx} {pins : List (Addr × Obj)} {σ : St} {H : Hp} {s : Shared} {a : Addr} (ok : X.Ok) (I : Inv (X.caught a) pins σ H s) : Inv X pins σ H s :=
  ⟨ok, I.os, I.bare, I.base, I.loc, I.cell, I.free, I.freeC, I.pin, I.hok, I.len⟩

/-- a class of the text catches an exception of a class under it -/
theorem matches_up {M : Model} {A : Around} {E : Value → Shared → Prop} {nm q nm' q' : Str} {C N S N' : Addr} {bs bm bs' bm' : List Value} {hd hd' : Bool} {sn sn' : List Str} {sub sub' : List Value} {ab ab' : Bool} {col col' : Option Bool} {dd dd' : Option Addr}
    {k0 k1 k2 k3 k5 l0 l1 l2 l3 l5 : Option Value} {id id' : String} {s : Shared} {e : Addr} {oe : Obj} {Q : Bool → Shared → Prop}
    (hC : s.heap.get? C = some (excClassObj nm q C N bs bm hd sn sub ab col dd k0 k1 k2 k3 k5 id)) (hS : s.heap.get? S = some (excClassObj nm' q' S N' bs' bm' hd' sn' sub' ab' col' dd' l0 l1 l2 l3 l5 id'))
    (he : s.heap.get? e = some oe) (hc : oe.cls = .ref C) (hb : bm'.contains (.type "BaseException") = true) (hup : (Value.ref C :: bm).contains (.ref S) = true) (k : Q true s) : wpAny M A (excMatches (.ref e) (.ref S)) Q E s := by
  obtain ⟨h, g, d, t, os⟩ := s
  have hcB : (Value.ref S :: bm').contains (.type "BaseException") = true := by rw [List.contains_cons, hb, Bool.or_true]
  have nt := tc_notTuple
  unfold excMatches
  repeat (first | (with_reducible refine wpAny_loadPart_at he ?_; rw [hc]) | with_reducible refine wpAny_loadPart_at hS ?_ | (with_reducible refine wpAny_isSubtype_exc hS ?_; rw [hcB]) | (with_reducible refine wpAny_isSubtype_exc hC ?_; rw [hup]) | wp_step)
  exact k

/-- the object of an own exception class, in the written part -/
def ExcC (K : PySem.W.Frag) (C : Addr) (bm : List Value) (nid : String) : Prop :=
  ∃ nm qn N bs hd sn sub ab col dd k0 k1 k2 k3 k5, K.lookup C = some (excClassObj nm qn C N bs bm hd sn sub ab col dd k0 k1 k2 k3 k5 nid)
theorem ExcC.mk {K : PySem.W.Frag} {C N : Addr} {bm bs sub : List Value} {nid : String} {nm qn : Str} {hd ab : Bool} {sn : List Str} {col : Option Bool} {dd : Option Addr} {k0 k1 k2 k3 k5 : Option Value}
    (h : K.lookup C = some (excClassObj nm qn C N bs bm hd sn sub ab col dd k0 k1 k2 k3 k5 nid)) : ExcC K C bm nid := ⟨nm, qn, N, bs, hd, sn, sub, ab, col, dd, k0, k1, k2, k3, k5, h⟩

def tTryAs (K : PySem.W.Frag) (i j : Nat) (S : Addr) (tx : TX) (ts : Addr → TS) : TS := fun D σ H =>
  tx σ H (fun v H1 => D.nx (σ.set i (some v)) H1) fun cls d H1 => ∃ C bm nid, cls = .ref C ∧ ExcC K C bm nid ∧ (Value.ref C :: bm).contains (.ref S) = true ∧
    ∀ a, H1 a = none → ts a { nx := fun σ' H' => D.nx (σ'.set j none) H', rt := D.rt, bk := fun σ' H' => D.bk (σ'.set j none) H', ct := fun σ' H' => D.ct (σ'.set j none) H' } (σ.set j (some (.ref a))) (upd H1 a (excO a cls d))

section
variable {X : Cx}
theorem fresh_exc {pins : List (Addr × Obj)} {σ : St} {H H' : Hp} {s s1 : Shared} {B : Heap} {a : Addr} {cls fl : Value} {d : Option Addr} {l : List Env} (I : Inv X pins σ H s) (un : Un (frs X.stack) [] H H' s.heap s1.heap) (x : Flt B l a cls d fl s1.heap)
    (b3 : ∀ b o, s.heap.get? b = some o → b ∈ frs X.stack ∨ ∃ o', B.get? b = some o') : s.heap.get? a = none := by
  cases e : s.heap.get? a with
  | none => rfl
  | some o =>
    rcases b3 a o e with z | ⟨o', z⟩
    · obtain ⟨_, o2, e2, r⟩ := I.stack.mem z
      rw [e] at e2
      cases e2
      obtain ⟨sl, e3⟩ := un.slot a o e (I.stkFree a z) z (by simp)
      obtain ⟨ox, ws, e4, _, _, e5⟩ := x.obj
      rw [e3] at e4
      cases e4
      exact absurd e5 (r ws)
    · rw [x.new] at z
      cases z

theorem ps_tryas {i j : Nat} {y n S' : Str} {S : Addr} {bmS : List Value} {idS : String} {ce : Expr} {b0 : Stmt} {suite : List Stmt} {py np apos hpos pos : Pos} {tx : TX} {ts : Addr → TS}
    (hN : X.N.Nodup) (hi : X.N[i]? = some y) (hy : Loc X.env.scope y) (hj : X.N[j]? = some n) (hn : X.env.scope.names.lookup n = some .local) (hfr : X.env.frame = some X.env.locals) (hst : X.stack = X.env :: X.outer) (hex : X.ex = [])
    (hgS : Gl X S') (hmS : X.mg S' = some (.ref S)) (cS : ExcC X.K S bmS idS) (hbS : bmS.contains (.type "BaseException") = true) (hx : PEX X ce tx) (hs : ∀ a, PSs (X.caught a).nox (b0 :: suite) (ts a))
    (hf : X.fn y = true ∨ X.env.scope.names.lookup y = some .local := by first | exact .inl rfl | exact .inr rfl | assumption)
    (hsw : swapsWith ce (some (.Name y py)) apos.line X.env = pure false := by rfl) (hdb : (S' == ("__debug__" : Str)) = false := by decide) :
    PS X (.Try [.Assign [.Name y py] ce apos] [.ExceptHandler (some (.Name S' np)) (some n) (b0 :: suite) hpos] [] [] pos) (tTryAs X.K i j S tx ts) := by
  intro pins s σ H D I h
  refine wpAny_Try_except (wpAny_execs_cons (wpAny_Assign_Name (wpAny_mono (hx pins s σ H _ _ I h) ?ok ?err) hsw))
  case ok =>
    rintro v s1 ⟨x, H1, I1, r1, q1⟩
    refine store_ok I1 hN hi hy r1 (fun s2 I2 => ?_) hf
    exact wpAny_execs_nil (wpAny_execs_nil ⟨_, H1, I2, q1⟩)
  case err =>
    rintro e s1 ⟨H0, s0, I0, a, cls, d, B, H', rfl, os, bare, un, hok, fl, ha, b1, b2, b3, C, bm, nid, rfl, cC, hup, q⟩
    have fl' := fl
    rw [hst] at fl'
    have hA : X.A.frames = some (X.env :: X.outer) := by rw [I.ok.frames, hst]
    have fr0 := fresh_exc I0 un fl b3
    refine note_next (B := B) hA hfr fl' fun h4 x4 y4 => ?_
    refine fly_on (s := { s1 with heap := h4 }) x4 fun h5 x5 y5 => ?_
    have I5 : Inv X pins σ H' { s1 with heap := h5 } := I0.flown os bare un hok fl.stays b1 b2 b3 x5.stays (y4.trans y5)
    refine wpAny_handleBy_cons (codeAny_handlers_test ?_) (by intro z; cases z)
    refine Calls.Name_function_global I5.ok.kind hgS (Calls.loadGlobal_global (by rw [I5.ok.glob]; exact I5.mod.glob.keeps I5.bk) hmS ?_) hdb
    obtain ⟨ox, ws, e1, e2, e3, e4⟩ := x5.obj
    obtain ⟨_, _, _, _, _, _, _, _, _, _, _, _, _, _, _, lC⟩ := cC
    obtain ⟨_, _, _, _, _, _, _, _, _, _, _, _, _, _, _, lS⟩ := cS
    refine matches_up (s := { s1 with heap := h5 }) (I5.kIn _ _ lC) (I5.kIn _ _ lS) e1 e2 hbS hup ?_
    show codeAny _ _ (.handlers (.ref a) [.ExceptHandler none (some n) (b0 :: suite) hpos] X.env) _ _
    refine codeAny_handlers_suite_as ?_
    refine fly_on (s := { s1 with heap := h5 }) x5 fun h6 x6 y6 => ?_
    have I6 : Inv X pins σ H' { s1 with heap := h6 } := I0.flown os bare un hok fl.stays b1 b2 b3 x6.stays ((y4.trans y5).trans y6)
    have I7 : Inv X pins σ (upd H' a (excO a (.ref C) d)) { s1 with heap := h6 } := by
      refine I6.track ha ?_ ?_ ?_ ?_ (excO_ok x6.obj)
      · obtain ⟨m, ⟨o, _, _, ho, _⟩, _⟩ := I0.loc
        intro z
        rw [← z, fr0] at ho
        cases ho
      · intro x c ec z
        obtain ⟨v, o, ho, _⟩ := I0.cell x c ec
        rw [z, fr0] at ho
        cases ho
      · intro p hp z
        have ho := (I0.pin p hp).1
        rw [z, fr0] at ho
        cases ho
      · cases z : X.s₀.heap.get? a with
        | none => rfl
        | some o =>
          obtain ⟨o', ho⟩ := I0.base.there a o z (by rw [hex]; simp)
          rw [fr0] at ho
          cases ho
    have I8 := (I7.caught a).wish fun _ _ => False
    refine store_ok (X := (X.caught a).nox) (M := model X.prog X.w) (i := j) (v := .ref a) I8 hN hj (.inl hn) rfl (fun s7 I9 => ?_) (.inr hn)
    refine wpAny_mono (hs a pins s7 _ _ _ I9 (q a ha)) ?_ fun _ _ z => False.elim z
    intro f s8 z
    show wpAny _ _ (do bindName X.env n .none; unbindBehindTheSuite X.env n hpos) _ _ _
    cases f with
    | next =>
      obtain ⟨σ', H8, J, z⟩ := z
      exact Inv.unname (J.unwish.uncaught I.ok) hN hj hn fun s9 J9 => ⟨_, H8, J9, z⟩
    | brk =>
      obtain ⟨σ', H8, J, z⟩ := z
      exact Inv.unname (J.unwish.uncaught I.ok) hN hj hn fun s9 J9 => ⟨_, H8, J9, z⟩
    | cont =>
      obtain ⟨σ', H8, J, z⟩ := z
      exact Inv.unname (J.unwish.uncaught I.ok) hN hj hn fun s9 J9 => ⟨_, H8, J9, z⟩
    | ret u =>
      obtain ⟨v, σ', H8, J, r, z⟩ := z
      exact Inv.unname (J.unwish.uncaught I.ok) hN hj hn fun s9 J9 => ⟨v, _, H8, J9, r, z⟩
end
end L2

set_option linter.all false
set_option maxRecDepth 100000
set_option maxHeartbeats 4000000
/-! A list comprehension over the layer: one clause, no test, a plain name as its target. -/
namespace L2
open PySem PySem.Spec PyProof.Rows

theorem comp_loop {prog : Program} {w : World} {A : Around} {R : Result → Shared → Prop} {s : Shared} {elt target iter : Expr} {sc : Scope} {pos : Pos} {it acc : Value} {env : Env} (J : Nat → Shared → Prop)
    (turn : ∀ n s, J n s → wpAny (model prog w) A (pyNext it) (fun r s1 => match r with
      | none => R (.ok .next) s1
      | some v => wpAny (model prog w) A (letOwnedTupleGo target it v) (fun _ s2 => wpAny (model prog w) A (assign target env v) (fun _ s3 => wpAny (model prog w) A (eval elt env) (fun x s4 =>
          wpAny (model prog w) A (call (.builtin "list.append") [acc, x]) (fun _ s5 => ∃ m, m < n ∧ J m s5) (fun _ _ => False) s4) (fun _ _ => False) s3) (fun _ _ => False) s2) (fun _ _ => False) s1) (fun _ _ => False) s)
    (n : Nat) (h : J n s) : codeAny (model prog w) A (.compLoop (.ListComp elt [⟨target, iter, [], 0⟩] sc pos) 0 it acc env) R s := by
  refine codeAny_loop rfl J ?_ n h
  intro n s hJ
  show wpAny _ _ ((compTurn (.ListComp elt [⟨target, iter, [], 0⟩] sc pos) 0 it acc env).onRaise (fun x => do noteFrame x env; theTreesLotGoes x)) _ _ s
  refine wpAny_noted ?_
  rw [compTurn_list1]
  refine wpAny_bind (wpAny_standAt (wpAny_bind (wpAny_mono (turn n s hJ) ?_ fun _ _ z => False.elim z)))
  intro r s1 h1
  cases r with
  | none => exact wpAny_pure h1
  | some v =>
    refine wpAny_bind (wpAny_mono h1 ?_ fun _ _ z => False.elim z)
    intro _ s2 h2
    refine wpAny_bind (wpAny_mono h2 ?_ fun _ _ z => False.elim z)
    intro _ s3 h3
    refine wpAny_bind (wpAny_bind (wpAny_mono h3 ?_ fun _ _ z => False.elim z))
    intro x s4 h4
    refine wpAny_bind (wpAny_mono h4 ?_ fun _ _ z => False.elim z)
    intro _ s5 h5
    exact wpAny_pure (wpAny_pure ⟨rfl, h5⟩)

/-- the context of a comprehension's block -/
def compCx (X : Cx) (sc : Scope) (N' : List Str) (cl : List (Str × Addr)) (s2 : Shared) (H2 : Hp) (C : Addr) (ex : List Addr) : Cx :=
  { X with N := N', s₀ := s2, H₀ := H2, env := compEnvC sc cl C X.env, outer := X.stack, ex := ex, fn := fun _ => false, pn := [], xe := fun _ _ => False }

/-- the names that the block takes from around it: each in its slot there, a cell in both -/
def Caps (X : Cx) (sc : Scope) (cl : List (Str × Addr)) : List Str → List Nat → Prop
  | [], [] => True
  | y :: ys, j :: js => X.N[j]? = some y ∧ X.env.kindOf y = some .cell ∧ cl.lookup y = X.env.cells.lookup y ∧ (relabel sc X.env).names.lookup y = some .cell ∧ Caps X sc cl ys js
  | _, _ => False
theorem Caps.get {X : Cx} {sc : Scope} {cl : List (Str × Addr)} : ∀ {ys : List Str} {js : List Nat} {i : Nat} {y : Str}, Caps X sc cl ys js → ys[i]? = some y →
    ∃ j, js[i]? = some j ∧ X.N[j]? = some y ∧ X.env.kindOf y = some .cell ∧ cl.lookup y = X.env.cells.lookup y ∧ (relabel sc X.env).names.lookup y = some .cell
  | [], [], i, y, _, e => by simp at e
  | _ :: _, j :: _, 0, y, h, e => by
    simp at e
    subst e
    exact ⟨j, rfl, h.1, h.2.1, h.2.2.1, h.2.2.2.1⟩
  | _ :: _, _ :: _, i + 1, y, h, e => by
    have q := Caps.get (i := i) (y := y) h.2.2.2.2 (by simpa using e)
    simpa using q
  | [], _ :: _, _, _, h, _ => False.elim h
  | _ :: _, [], _, _, h, _ => False.elim h
theorem Caps.len {X : Cx} {sc : Scope} {cl : List (Str × Addr)} : ∀ {ys : List Str} {js : List Nat}, Caps X sc cl ys js → ys.length = js.length
  | [], [], _ => rfl
  | _ :: _, _ :: _, h => by simp [Caps.len h.2.2.2.2]
  | [], _ :: _, h => False.elim h
  | _ :: _, [], h => False.elim h
def capt (σ : St) (js : List Nat) : St := js.map fun j => (σ[j]?).join

/-- what the block is worth: W holds between its turns -/
def Comped (J : It) (cap : St) (te : TE) (Q : VK) (H1 : Hp) : Prop := ∀ D, H1 D = none → ∃ W : Nat → Nat → List V → Hp → Prop, (∃ m, W 0 m [] (upd H1 D (.lst []))) ∧ ∀ i m ys H2, W i m ys H2 → H2 D = some (.lst ys) ∧
  ((J.stop i H2 ∧ Q (.ref D) H2) ∨ (J.go i H2 ∧ ∀ x H3, J.yld i H2 x H3 → te (some x :: cap) H3 fun y H4 => H4 D = some (.lst ys) ∧ ys.length < sizeLine ∧ ∃ m', m' < m ∧ W (i + 1) m' (ys ++ [y]) (upd H4 D (.lst (ys ++ [y])))))
def tComp (wi : TI) (js : List Nat) (te : TE) : TE := fun σ H Q => wi σ H fun J H1 => Comped J (capt σ js) te Q H1

section
variable {X : Cx} {x : Str} {px pos : Pos} {elt iter : Expr} {sc : Scope} {ys : List Str} {js : List Nat} {cl : List (Str × Addr)}

theorem inv_comp {pins : List (Addr × Obj)} {σ : St} {H : Hp} {s s4 : Shared} {fp : List Addr} {C : Addr} {H4 : Hp} {m : Str → Option Value} (I : Inv X pins σ H s) (hf : ∀ b ∈ fp, FpOk X pins H b)
    (hkind : sc.kind = .function) (hcap : Caps X sc cl ys js) (hin : ∀ y c, cl.lookup y = some c → X.env.cells.lookup y = some c) (hhas : ∀ y, ((relabel sc X.env).names.lookup y = some .cell ∨ (relabel sc X.env).names.lookup y = some .free) → ∃ c, cl.lookup y = some c)
    (hfl : ∀ b ∈ fp, b < s.heap.objs.size) (hC : s.heap.objs.size ≤ C) (hos : s4.os = s.os) (hb : AllBare s4.gens) (un : Un (frs X.stack) fp H H4 s.heap s4.heap) (kp : ∀ b o, s.heap.get? b = some o → s4.heap.get? b = some o) (hn : s4.heap.Ns C m) (hC4 : H4 C = none)
    (hok : HOk X.prog X.w H4 s4.heap) : Inv (compCx X sc (x :: ys) cl s H C fp) [] (none :: capt σ js) H4 s4 := by
  have frb : ∀ b ∈ fp, b ∉ frs X.stack := fun b hb z => by
    rcases List.mem_cons.mp (I.stkSub b z) with q | q
    · exact (hf b hb).2.1 q
    · exact (hf b hb).2.2.1 q
  refine ⟨⟨I.ok.mod, hkind, I.ok.glob, I.ok.blt, hC, fun y z c h1 h2 => I.ok.inj y z c (hin y c h1) (hin z c h2), hhas, (fun _ _ z => nomatch z), I.ok.hd, I.ok.frames, .inl rfl, fun b z => ⟨?_, fun y c e => ?_⟩, I.bs, Nat.le_trans I.ok.bsz I.sz, fun b o e z => ?_, frb, I.stack, I.stkFree⟩,
    hos, hb, un, ⟨m, hn, fun i y v e1 e2 e3 => ?_⟩, fun y c e => ?_, hC4, fun y c e => ?_, fun p hp => ?_, hok, ?_⟩
  · exact Nat.ne_of_lt (Nat.lt_of_lt_of_le (hfl b z) hC)
  · exact (hf b z).2.2.2.2.1 y c (hin y c e)
  · rcases (hf b z).2.2.2.1 with q | q
    · exact I.ok.noex b o e q
    · exact absurd (Nat.lt_of_lt_of_le (Heap.lt_size e) (Nat.le_trans I.ok.bsz q)) (Nat.lt_irrefl _)
  · cases i with
    | zero =>
      have z : (none : Option V) = some v := by simpa using e2
      cases z
    | succ i =>
      have e1' : ys[i]? = some y := by simpa [compCx] using e1
      have e2' : (capt σ js)[i]? = some (some v) := by simpa using e2
      obtain ⟨j, q1, q2, q3, q4, q5⟩ := hcap.get e1'
      unfold capt at e2'
      rw [List.getElem?_map, q1] at e2'
      have e2'' : (σ[j]?).join = some v := by simpa using e2'
      have e3' : σ[j]? = some (some v) := by
        cases z : σ[j]? with
        | none => rw [z] at e2''; cases e2''
        | some o =>
          cases o with
          | none => rw [z] at e2''; cases e2''
          | some w' => rw [z] at e2''; cases e2''; rfl
      obtain ⟨m0, _, hl⟩ := I.loc
      obtain ⟨u, r, l⟩ := hl j y v q2 e3' (.inr (.inl q3))
      refine ⟨u, r, .inr ⟨.inl q5, ?_⟩⟩
      rcases l with ⟨l1, _⟩ | ⟨_, c, l2, l3⟩
      · rw [q3] at l1; cases l1
      · obtain ⟨o, ho, hd⟩ := l3
        exact ⟨c, q4.trans l2, o, kp c o ho, hd⟩
  · obtain ⟨v, o, ho, hd⟩ := I.cell y c (hin y c e)
    exact ⟨v, o, kp c o ho, hd⟩
  · obtain ⟨v, o, ho, hd⟩ := I.cell y c (hin y c e)
    exact un.free c o ho (I.freeC y c (hin y c e)) fun z => (hf c z).2.2.2.2.1 y c (hin y c e) rfl
  · exact absurd (show p ∈ ([] : List (Addr × Obj)) from hp) (by simp)
  · show (none :: capt σ js).length = (x :: ys).length
    unfold capt
    rw [List.length_cons, List.length_cons, List.length_map, hcap.len]

theorem pe_comp {wi : TI} {te : TE} (hclos : closureFor sc X.env = pure cl) (hcell : ∀ y ∈ sc.names, y.2 ≠ .cell) (hkind : sc.kind = .function) (hnames : ∀ y ∈ sc.names, y.2 = .local → sc.names.lookup y.1 = some .local)
    (hx : (relabel sc X.env).names.lookup x = some .local) (hcap : Caps X sc cl ys js) (hin : ∀ y c, cl.lookup y = some c → X.env.cells.lookup y = some c)
    (hhas : ∀ y, ((relabel sc X.env).names.lookup y = some .cell ∨ (relabel sc X.env).names.lookup y = some .free) → ∃ c, cl.lookup y = some c) (hnd : (x :: ys).Nodup) (hc : X.calm = true)
    (hi : PI X.nox (.Name x px) iter wi) (he : ∀ s2 H2 C ex, PE (compCx X sc (x :: ys) cl s2 H2 C ex) elt te) (hs : ∀ v, foldedSetIterable iter X.env v = pure v := by intro _; rfl) :
    PE X (.ListComp elt [⟨.Name x px, iter, [], 0⟩] sc pos) (tComp wi js te) := by
  intro pins s σ H Q I h
  rw [eval_ListComp]
  refine wpAny_mono (E := fun _ _ => False) (wpAny_comprehension_free (use := none) rfl hs hclos hkind hnames (wpAny_mono (hi pins s σ H _ (I.wish _) h) ?_ fun _ _ z => False.elim z)) (fun _ _ z => z) fun _ _ z => False.elim z
  intro v s1 h1
  refine wpAny_mono h1 ?_ fun _ _ z => False.elim z
  rintro itv s2 ⟨it, fp, tn, J, H2, rfl, I2w, T, st2, f2w, q⟩
  have I2 := I2w.unwish
  have f2 : ∀ b ∈ fp, FpOk X pins H2 b := f2w
  -- the list that grows, the block's own names
  refine wpAny_newObj_type (wpAny_newFunctionEnv hcell (by intro y hy; simp at hy) (fun h4 hns hsb => ?_) hkind)
  dsimp only at hns hsb ⊢
  generalize hE : s2.heap.push { cls := .type "list", dict := none, data := .seq ([] : List Value).toArray } = g3 at hns hsb ⊢
  have hsz : g3.objs.size = s2.heap.objs.size + 1 := by rw [← hE, Heap.size_push]
  have hDC : s2.heap.objs.size ≠ g3.objs.size := by omega
  have old : ∀ b o, s2.heap.get? b = some o → h4.get? b = some o := fun b o e => by
    have lt : b < s2.heap.objs.size := Heap.lt_size e
    rw [hsb.2 b (Nat.ne_of_lt (by rw [hsz]; exact Nat.lt_succ_of_lt lt))]
    exact Heap.get?_push_of_some _ (hE ▸ Heap.get?_push_of_some _ e)
  have hD0 : H2 s2.heap.objs.size = none := I2.hok.fresh (Nat.le_refl _)
  have hC0 : H2 g3.objs.size = none := I2.hok.fresh (by omega)
  have hDat : h4.get? s2.heap.objs.size = some { cls := .type "list", data := .seq ([] : List Value).toArray } := by
    rw [hsb.2 _ hDC]
    exact Heap.get?_push_of_some _ (hE ▸ Heap.get?_push_size _ rfl)
  obtain ⟨W, ⟨m0, w0⟩, turn⟩ := q s2.heap.objs.size hD0
  have hfl : ∀ b ∈ fp, b < s2.heap.objs.size := fun b hb => by
    obtain ⟨o, e, _⟩ := T.obj _ _ st2 b hb
    exact Heap.lt_size e
  have J0 : Inv (compCx X sc (x :: ys) cl s2 H2 g3.objs.size fp) [] (none :: capt σ js) (upd H2 s2.heap.objs.size (.lst [])) { s2 with heap := h4, toks := s2.toks + ([] : List (Str × Value)).length } := by
    refine inv_comp (m := fun y => ([] : List (Str × Value)).reverse.lookup y) I2 f2 hkind hcap hin hhas hfl (by omega) rfl I2.bare (Un.laid old (Nat.le_refl _) hD0) old hns ?_ ?_
    · rw [upd_ne (Ne.symm hDC)]; exact hC0
    · exact I2.hok.laid old (Nat.le_refl _) ⟨Nat.zero_le _, [], 0, .nil, hDat⟩
  have st4 : tn 0 h4 := T.keep _ _ _ st2 fun b hb o e => old b o e
  have xcell : ∀ y c, (compCx X sc (x :: ys) cl s2 H2 g3.objs.size fp).env.cells.lookup y = some c → X.env.cells.lookup y = some c := hin
  have stat : ∀ {H' : Hp}, (∀ b ∈ fp, H' b = none) → ∀ b ∈ fp, FpOk (compCx X sc (x :: ys) cl s2 H2 g3.objs.size fp) [] H' b := fun hn b hb => by
    refine ⟨hn b hb, ?_, ?_, .inl hb, fun y c e => (f2 b hb).2.2.2.2.1 y c (hin y c e), fun p hp => absurd (show p ∈ ([] : List (Addr × Obj)) from hp) (by simp)⟩
    · have lt : b < s2.heap.objs.size := hfl b hb
      exact Nat.ne_of_lt (by show b < g3.objs.size; rw [hsz]; exact Nat.lt_succ_of_lt lt)
    · intro z
      rcases List.mem_cons.mp (I2.stkSub b z) with q | q
      · exact (f2 b hb).2.1 q
      · exact (f2 b hb).2.2.1 q
  have fin : ∀ {σ' : St} {H' : Hp} {s' : Shared}, Inv (compCx X sc (x :: ys) cl s2 H2 g3.objs.size fp) [] σ' H' s' → Q (.ref s2.heap.objs.size) H' →
      compPost (model X.prog X.w) X.A (fun _ _ => False) none (EP X pins σ Q) (.ref s2.heap.objs.size) g3.objs.size (.ok .next) s' := fun {σ' H' s'} J' q' => by
    obtain ⟨m, hm, _⟩ := J'.loc
    refine ⟨m, hm, fun h' sb => ?_⟩
    have neC : ∀ b o, s2.heap.get? b = some o → b ≠ g3.objs.size := fun b o e => by
      have lt : b < s2.heap.objs.size := Heap.lt_size e
      exact Nat.ne_of_lt (by rw [hsz]; exact Nat.lt_succ_of_lt lt)
    have ub := J'.base
    refine ⟨.ref s2.heap.objs.size, H', ?_, rfl, q'⟩
    refine I2.call' (s' := { s' with heap := h' }) (ch := fp) J'.os ⟨fun b o e n hb hx => (sb.2 b (neC b o e)).trans (ub.keep b o e n hb hx), fun b o e n hb hx => ?_, ub.free, fun b o e hx => ?_, ub.tups, ub.frzs, ub.tbls⟩ (fun b u e => ?_) J'.bare fun b hb => ⟨(f2 b hb).2.2.2.1, (f2 b hb).2.1, (f2 b hb).2.2.2.2.1, (f2 b hb).2.2.2.2.2⟩
    · obtain ⟨sl, e1⟩ := ub.slot b o e n hb hx
      exact ⟨sl, (sb.2 b (neC b o e)).trans e1⟩
    · obtain ⟨o', e1⟩ := ub.there b o e hx
      exact ⟨o', (sb.2 b (neC b o e)).trans e1⟩
    · have hCn : H' g3.objs.size = none := J'.free
      refine (J'.hok b u e).stay (fun c v hc z => (sb.2 c ?_).trans z) (fun _ z => z) fun _ _ z => z
      rintro rfl
      rcases hc with hc | hc
      · rw [← hc, hCn] at e; cases e
      · rw [hCn] at hc; cases hc
  have loop : ∀ s4 : Shared, s4 = { s2 with heap := h4, toks := s2.toks + ([] : List (Str × Value)).length } →
      codeAny (model X.prog X.w) X.A (.compLoop (.ListComp elt [⟨.Name x px, iter, [], 0⟩] sc pos) 0 (.ref it) (.ref s2.heap.objs.size) (compEnvC sc cl g3.objs.size X.env))
        (compPost (model X.prog X.w) X.A (fun _ _ => False) none (EP X pins σ Q) (.ref s2.heap.objs.size) g3.objs.size) s4 := by
    rintro s4 rfl
    refine comp_loop (fun n s' => ∃ i xo ys' H', Inv (compCx X sc (x :: ys) cl s2 H2 g3.objs.size fp) [] (xo :: capt σ js) H' s' ∧ tn i s'.heap ∧ (∀ b ∈ fp, H' b = none) ∧ W i n ys' H') ?_ m0 ⟨0, none, [], _, J0, st4, fun b hb => ?_, w0⟩
    · rintro n s' ⟨i, xo, ys', H', J', st', fr', w'⟩
      obtain ⟨hD, alt⟩ := turn i n ys' H' w'
      rcases alt with ⟨stop, qn⟩ | ⟨go, step⟩
      · refine wpAny_mono (T.done (compCx X sc (x :: ys) cl s2 H2 g3.objs.size fp) rfl rfl rfl hc i [] s' _ H' (fun _ _ => False) J' (stat fr') st' stop) ?_ fun _ _ z => z
        rintro r s'' ⟨rfl, J''⟩
        exact fin J'' qn
      · refine wpAny_mono (T.item (compCx X sc (x :: ys) cl s2 H2 g3.objs.size fp) rfl rfl rfl hc i [] s' _ H' (fun _ _ => False) J' (stat fr') st' go) ?_ fun _ _ z => z
        rintro r s'' ⟨u, rfl, hu⟩
        refine wpAny_mono hu ?_ fun _ _ z => z
        rintro _ s5 ⟨xv, H5, J5, r5, y5, st5, fr5⟩
        have J5' := J5.pinned (stat fr5) (T.obj _ _ st5)
        refine wpAny_assign_Name (store_ok (X := compCx X sc (x :: ys) cl s2 H2 g3.objs.size fp) (i := 0) J5' hnd rfl (.inl hx) r5 (fun s6 J6 => ?_) (.inr hx))
        refine wpAny_mono (he s2 H2 g3.objs.size fp _ s6 _ H5 _ J6 (step xv H5 y5)) ?_ fun _ _ z => z
        rintro yv s7 ⟨yy, H7, J7, r7, hD7, hlen, m', hm', w7⟩
        refine wpAny_mono (mt_append (X := compCx X sc (x :: ys) cl s2 H2 g3.objs.size fp) _ s7 _ H7 (.ref s2.heap.objs.size) [yy] (.ref s2.heap.objs.size) [yv] (fun _ H8 => H8 = upd H7 s2.heap.objs.size (.lst (ys' ++ [yy]))) J7 rfl (.cons r7 .nil) ⟨_, ys', yy, rfl, rfl, hD7, hlen, rfl⟩) ?_ fun _ _ z => z
        rintro _ s8 ⟨_, H8, J8, _, rfl⟩
        have pinned : ∀ b ∈ fp, ∀ o, s5.heap.get? b = some o → s8.heap.get? b = some o ∧ (upd H7 s2.heap.objs.size (.lst (ys' ++ [yy]))) b = none := fun b hb o e => by
          obtain ⟨q1, q2, _⟩ := J8.pin (b, o) (List.mem_append_right _ (List.mem_append_right _ (mem_pinsAt hb e)))
          exact ⟨q1, q2⟩
        refine ⟨m', hm', i + 1, some xv, ys' ++ [yy], _, J8.unpinned, T.keep _ _ _ st5 fun b hb o e => (pinned b hb o e).1, fun b hb => ?_, w7⟩
        obtain ⟨o, e, _⟩ := T.obj _ _ st5 b hb
        exact (pinned b hb o e).2
    · rw [upd_ne (Nat.ne_of_lt (hfl b hb))]
      exact (f2 b hb).1
  exact codeAny_compStart_list (loop _ rfl) (T.self _ _ _ _ _ st4 (loop _ rfl))
end
end L2

set_option linter.all false
set_option maxRecDepth 100000
set_option maxHeartbeats 4000000
/-! Texts, their signs in a loop, all, int(text), isinstance, deep equality: more rules over the layer. -/
namespace L2
open PySem PySem.Spec PyProof.Rows

section
variable {X : Cx}
/-! ### texts -/
/-- x[lo:hi] of a text -/
def rSlS : V → Option Int → Option Int → Hp → VK → Prop := fun x lo hi H Q => ∃ z, x = .str z ∧ z.length ≤ sizeLine ∧ Q (.str (Txt.slice z lo hi)) H
def rZfill : V → List V → Hp → VK → Prop := fun x vs H Q => ∃ z k, x = .str z ∧ vs = [.int k] ∧ PadOk k = true ∧ Q (.str (Txt.zfill z k)) H
/-! ### the signs of a text -/
def Its (x : Str) : It := ⟨fun i _ => i < x.cps.size, fun i H v H' => H' = H ∧ ∃ c, x.cps[i]? = some c ∧ v = .str ⟨#[c]⟩, fun i _ => x.cps.size ≤ i⟩
def iStr (tl : TE) : TI := fun σ H R => tl σ H fun v H1 => ∃ x, v = .str x ∧ R (Its x) H1
/-! ### all(a list of bools) -/
theorem call_all : CallR X (.builtin "all") (fun xs H Q => ∃ (a : Addr) (bs : List Bool), xs = [.ref a] ∧ SqL X.K H a (bs.map V.bl) ∧ X.calm = true ∧ Q (.bl (bs.all id)) H) := by
  intro pins s σ H xs us Q I r h
  obtain ⟨a, bs, rfl, hS, hc, q⟩ := h
  obtain ⟨u, rfl, rx⟩ := vals1 r
  cases rx
  obtain ⟨its, rv, pl, hz⟩ := I.list hS
  have hlen : its.length = bs.length := by rw [← rv.length, List.length_map]
  refine call_all_walk (wpAny_pyIter_list pl.isList ?_)
  have ne : a ≠ s.heap.objs.size := by
    obtain ⟨o, e, _⟩ := pl.isList
    exact Nat.ne_of_lt (Heap.lt_size e)
  have hh : X.A.in1.handled = none := I.ok.hd hc
  refine ⟨s.heap.objs.size, _, _, _, _, _, fun i => bs.getD i true, rfl, Walks.list hh s.heap.objs.size a ne its.toArray, ⟨⟨_, Heap.get?_push_size _ rfl, rfl, rfl⟩, ?_⟩, ?_, ?_⟩
  · obtain ⟨o, e, r⟩ := pl.isList
    exact ⟨o, Heap.get?_push_of_some _ e, r⟩
  · intro i v s' Q' E' hv hq
    have hv' : its[i]? = some v := by simpa using hv
    have hi : i < its.length := (List.getElem?_eq_some_iff.mp hv').1
    have hb : bs[i]? = some bs[i] := List.getElem?_eq_getElem (by omega)
    obtain ⟨u, hu, ru⟩ := rv.get (i := i) (x := V.bl bs[i]) (by rw [List.getElem?_map, hb]; rfl)
    rw [hv'] at hu
    cases hu
    cases ru
    refine wpAny_truthy_bool ?_
    have e : bs.getD i true = bs[i] := by rw [List.getD_eq_getElem?_getD, hb]; rfl
    exact e ▸ hq
  · intro h' tk kp
    have e : (List.range its.toArray.size).all (fun i => bs.getD i true) = bs.all id := by
      rw [List.size_toArray, hlen]
      clear q hS rv hz hlen pl
      induction bs with
      | nil => rfl
      | cons b r ih =>
        rw [List.length_cons, List.range_succ_eq_map, List.all_cons, List.all_cons, ← ih, List.all_map]
        rfl
    rw [e]
    refine ⟨.bl _, H, ?_, rfl, q⟩
    refine I.kept (h' := h') fun b o e => kp b o ?_ (Heap.get?_push_of_some _ e)
    have lt : b < s.heap.objs.size := Heap.lt_size e
    rw [List.mem_singleton]
    exact Nat.ne_of_lt lt
end

/-! ### data: what a value is worth, whatever its places -/
mutual
inductive Den (K : PySem.W.Frag) (H : Hp) : V → PyData → Prop
  | non : Den K H .non .none
  | bl (b : Bool) : Den K H (.bl b) (.bool b)
  | int (i : Int) : Den K H (.int i) (.int i)
  | str (x : Str) : Den K H (.str x) (.str x)
  | lst {a : Addr} {xs : List V} {ds : List PyData} : SqL K H a xs → DenAll K H xs ds → Den K H (.ref a) (.list ds)
  | tup {a : Addr} {xs : List V} {ds : List PyData} : SqT K H a xs → DenAll K H xs ds → Den K H (.ref a) (.tuple ds)
inductive DenAll (K : PySem.W.Frag) (H : Hp) : List V → List PyData → Prop
  | nil : DenAll K H [] []
  | cons {x : V} {xs : List V} {d : PyData} {ds : List PyData} : Den K H x d → DenAll K H xs ds → DenAll K H (x :: xs) (d :: ds)
end
section
variable {X : Cx} {pins : List (Addr × Obj)} {σ : St} {H : Hp} {s : Shared}
mutual
theorem Den.reads (I : Inv X pins σ H s) : ∀ {v : V} {d : PyData} {u : Value}, Den X.K H v d → RelV v u → ∃ as, Reads s.heap u d as
  | _, _, _, .non, r => by cases r; exact ⟨_, .none⟩
  | _, _, _, .bl b, r => by cases r; exact ⟨_, .bool b⟩
  | _, _, _, .int i, r => by obtain ⟨t, rfl⟩ := r; exact ⟨_, .int i t⟩
  | _, _, _, .str x, r => by obtain ⟨t, rfl⟩ := r; exact ⟨_, .str x t⟩
  | _, _, _, .lst hS ha, r => by
    cases r
    obtain ⟨its, rv, ⟨o, n, e, c, _, d⟩, _⟩ := I.list hS
    obtain ⟨as, ra⟩ := DenAll.reads I ha rv
    exact ⟨_, .list e c d (by simpa using ra)⟩
  | _, _, _, .tup hS ha, r => by
    cases r
    obtain ⟨its, rv, ⟨o, e, c, n, d⟩, _⟩ := I.tuple hS
    obtain ⟨as, ra⟩ := DenAll.reads I ha rv
    exact ⟨_, .tuple e c d (by simpa using ra)⟩
theorem DenAll.reads (I : Inv X pins σ H s) : ∀ {vs : List V} {ds : List PyData} {us : List Value}, DenAll X.K H vs ds → Vals vs us → ∃ as, ReadsAll s.heap us ds as
  | _, _, _, .nil, r => by cases r; exact ⟨_, .nil⟩
  | _, _, _, .cons h t, r => by
    cases r with
    | cons r1 r2 =>
      obtain ⟨as, ra⟩ := Den.reads I h r1
      obtain ⟨bs, rb⟩ := DenAll.reads I t r2
      exact ⟨_, .cons ra rb⟩
end
end
section
variable {X : Cx}
def rEqD (K : PySem.W.Frag) : R2 := fun x y H Q => ∃ da db, Den K H x da ∧ Den K H y db ∧ da.canLay0 = true ∧ db.canLay0 = true ∧ min da.depth db.depth ≤ 60 ∧ Q (.bl (PyData.eqv da db)) H
def rNeD (K : PySem.W.Frag) : R2 := fun x y H Q => ∃ da db, Den K H x da ∧ Den K H y db ∧ da.canLay0 = true ∧ db.canLay0 = true ∧ min da.depth db.depth ≤ 60 ∧ Q (.bl (!PyData.eqv da db)) H
theorem op_eqD {k : Nat} (hr : Room k X.A) : OpR X (compareOp .Eq) (rEqD X.K) := by
  intro pins s σ H x y v u Q I rx ry h
  obtain ⟨da, db, ha, hb, ca, cb, hd, q⟩ := h
  obtain ⟨as, ra⟩ := ha.reads I rx
  obtain ⟨bs, rb⟩ := hb.reads I ry
  have hu := hr.units
  exact PySem.SeqAt.compareEq_reads ra rb ca cb (by omega) ⟨.bl _, H, I, rfl, q⟩
theorem op_neD {k : Nat} (hr : Room k X.A) : OpR X (compareOp .NotEq) (rNeD X.K) := by
  intro pins s σ H x y v u Q I rx ry h
  obtain ⟨da, db, ha, hb, ca, cb, hd, q⟩ := h
  obtain ⟨as, ra⟩ := ha.reads I rx
  obtain ⟨bs, rb⟩ := hb.reads I ry
  have hu := hr.units
  exact PySem.SeqAt.compareNe_reads ra rb ca cb (by omega) ⟨.bl _, H, I, rfl, q⟩

/-! ### isinstance -/
def valOf : V → Value
  | .ref a => .ref a
  | .ty n => .type n
  | _ => .none
theorem call_isinst : CallR X (.builtin "isinstance") (fun xs H Q => ∃ x c t b, xs = [x, c] ∧ TyOf X.K H x t ∧ (c = .ref (match c with | .ref a => a | _ => 0) ∨ ∃ n, c = .ty n) ∧ PySem.W.kitOne X.K t (valOf c) = some b ∧ Q (.bl b) H) := by
  intro pins s σ H xs us Q I r h
  obtain ⟨x, c, t, b, rfl, ty, hc, hk, q⟩ := h
  obtain ⟨u, w', rfl, rx, rc⟩ := vals2 r
  have e : w' = valOf c := by
    cases c with
    | ref a => exact rc
    | ty n => exact rc
    | _ => rcases hc with z | ⟨n, z⟩ <;> cases z
  subst e
  exact isinst_ok I rx ty hk fun tk => ⟨.bl b, H, I.tok _, rfl, q⟩
end
end L2

set_option maxRecDepth 100000
set_option maxHeartbeats 4000000
/-! An attribute of an exception of an own class: through BaseException's own road. -/
namespace L2
open PySem PySem.W

section
variable {prog : Program} {w : World} {A : Around} {E : Value → Shared → Prop} {K : Frag} {x C : Addr} {ox : Obj} {od : Option Obj} {name : Str}

/-- where the road goes behind the look -/
def foundGoes (prog : Program) (w : World) (A : Around) (x C : Addr) (Q : Value → Shared → Prop) (s : Shared) : Builtin.ObjectAttr.Found → Prop
  | .value v => handedIn v = true ∧ Q v s
  | .bind g a => wpAny (model prog w) A (call g [a, .ref x, .ref C]) (fun v s' => handedIn v = true ∧ Q v s') (fun _ _ => False) s
  | .missing => False

theorem exc_entry {s : Shared} {tk : Tok} {r : Builtin.ObjectAttr.Found} {Q : Value → Shared → Prop} (X : K.In s.heap) (I : InstAt s.heap x ox C od) (hf : findObj K C od name = some r) (h : foundGoes prog w A x C Q s r) :
    wpAny (model prog w) A (Builtin.«object.__getattribute__» ⟨[.ref x, .str name tk], []⟩) (fun fin s' => match fin with | .done (.ret v) => handedIn v = true ∧ Q v s' | _ => False) (fun _ _ => False) s := by
  obtain ⟨hh, g, d, t, os⟩ := s
  have L0 := I.type (M := model prog w)
  have L1 := looks_find (M := model prog w) X I hf
  unfold Builtin.«object.__getattribute__»
  refine wpAny_bind (wpAny_pure ?_)
  dsimp only
  refine wpAny_bind (wpAny_pure ?_)
  refine wpAny_bind (L0.at ?_)
  refine wpAny_bind (L1.at ?_)
  cases r with
  | value v => exact wpAny_pure h
  | bind g a =>
    dsimp only
    unfold Builtin.ObjectAttr.bindTo
    exact wpAny_bind (wpAny_holding (wpAny_mono h (fun v s' q => wpAny_pure q) fun _ _ z => z))
  | missing => exact False.elim h

theorem exc_call {s : Shared} {tk : Tok} {r : Builtin.ObjectAttr.Found} {Q : Value → Shared → Prop} (X : K.In s.heap) (I : InstAt s.heap x ox C od) (hm : mroIn K C (.type "BaseException") = some true) (hf : findObj K C od name = some r)
    (h : foundGoes prog w A.in1 x C Q s r) :
    wpAny (model prog w) A (call (.builtin "BaseException.__getattribute__") [.ref x, .str name tk]) (fun v s' => handedIn v = true ∧ Q v s') (fun _ _ => False) s := by
  have hk : builtinKind "BaseException.__getattribute__" = some .slot := by decide +kernel
  have hsplit : splitId "BaseException.__getattribute__" = some ("BaseException", "__getattribute__") := by decide +kernel
  have ha := PySem.F.args_bexc_ga (.ref x) (.str name tk)
  have L0 := I.type (M := model prog w)
  have L1 := looks_mroIn (M := model prog w) X hm
  refine wpAny_call (codeAny_call_builtin PySem.F.attr_ValueError.ga.plain PySem.F.entry_bexc_ga ?_)
  simp only [checkBuiltinCall, hk, hsplit]
  refine wpAny_bind ?_
  unfold isInstance
  refine wpAny_bind (L0.here (L1.here ?_))
  rw [if_neg (by decide)]
  unfold argsOk at ha
  have go := wpAny_mono (exc_entry (tk := tk) X I hf h) (Q' := fun fin s' => match fin with
    | .done f => (match (Except.ok f : Result) with | .ok (.ret v) => handedIn v = true ∧ Q v s' | .ok _ => False | .error _ => False)
    | .again c' => c'.quiet = true ∧ codeAny (model prog w) A c' (fun r s' => match r with | .ok (.ret v) => handedIn v = true ∧ Q v s' | .ok _ => False | .error _ => False) s') (fun fin s' z => by
      rcases fin with (_ | _ | _ | _) | _ <;> first | exact z | exact False.elim z) fun _ _ z => z
  cases hs : Manifest.signature? "BaseException.__getattribute__" with
  | none => exact wpAny_pure go
  | some sg =>
    rw [hs] at ha
    dsimp only at ha ⊢
    rw [ha]
    exact wpAny_pure go

theorem exc_by {s : Shared} {tk : Tok} {fill expr : Bool} {r : Builtin.ObjectAttr.Found} {Q : Value → Shared → Prop} (X : K.In s.heap) (I : InstAt s.heap x ox C od) (hm : mroIn K C (.type "BaseException") = some true) (hf : findObj K C od name = some r)
    (hga : findIn K (.ref C) "__getattribute__" = some (some (.builtin "BaseException.__getattribute__"))) (hgn : findIn K (.ref C) "__getattr__" = some none) (h : foundGoes prog w A.in1 x C Q s r) :
    wpAny (model prog w) A (getAttrBy (.ref x) (.str name tk) fill expr) Q E s := by
  have L0 := I.type (M := model prog w)
  have L1 := looks_findIn (M := model prog w) X hga
  have L2 := looks_findIn (M := model prog w) X hgn
  have hx2 : (Value.builtin "BaseException.__getattribute__" == Value.builtin "object.__getattribute__") = false := by decide +kernel
  unfold getAttrBy
  refine wpAny_holding (wpAny_bind (L0.here (wpAny_bind (L1.here ?_))))
  dsimp only
  rw [hx2, Bool.and_false, if_neg (by decide)]
  unfold getAttrByItsOwn hookBefore
  rw [if_pos (show onTheHeap (Value.ref C) = true from rfl)]
  refine wpAny_bind (L2.here (wpAny_bind (wpAny_attempt (wpAny_holding ?_))))
  unfold callGetattribute
  rw [show (expr && onTheHeap (Value.builtin "BaseException.__getattribute__")) = false by cases expr <;> rfl, if_neg (by decide)]
  unfold boundAndCalled
  rw [PySem.F.attr_ValueError.ga.bind (.ref x)]
  refine wpAny_bind (wpAny_pure (wpAny_mono (exc_call X I hm hf h) ?_ fun _ _ z => False.elim z))
  rintro v s' ⟨hv, q⟩
  exact handed_on hv q

theorem exc_attr {s : Shared} {expr : Bool} {r : Builtin.ObjectAttr.Found} {Q : Value → Shared → Prop} (X : K.In s.heap) (I : InstAt s.heap x ox C od) (hm : mroIn K C (.type "BaseException") = some true) (hf : findObj K C od name = some r)
    (hga : findIn K (.ref C) "__getattribute__" = some (some (.builtin "BaseException.__getattribute__"))) (hgn : findIn K (.ref C) "__getattr__" = some none) (h : foundGoes prog w A.in1 x C Q { s with toks := s.toks + 1 } r) :
    wpAny (model prog w) A (getAttr (.ref x) name expr) Q E s := by
  unfold getAttr
  exact wpAny_bind (wpAny_mkText (exc_by (s := { s with toks := s.toks + 1 }) X I hm hf hga hgn h))
end
end L2

set_option linter.all false
set_option maxRecDepth 100000
set_option maxHeartbeats 4000000
namespace L2
open PySem PySem.Spec PyProof.Rows

/-- what the written part says of a class whose exceptions are asked for their class -/
structure ExcK (K : PySem.W.Frag) (C : Addr) : Prop where
  hm : PySem.W.mroIn K C (.type "BaseException") = some true
  hmo : PySem.W.mroIn K C (.type "object") = some true
  hga : PySem.W.findIn K (.ref C) "__getattribute__" = some (some (.builtin "BaseException.__getattribute__"))
  hgn : PySem.W.findIn K (.ref C) "__getattr__" = some none
  hc : (PySem.W.clsIn K C).isSome = true
  ha : PySem.W.findIn K (.ref C) "__class__" = some (some (.builtin "object.__class__"))
  hn : PySem.W.specialIn K (.builtin "object.__class__") "__get__" = some (some (.builtin "getset_descriptor.__get__"))
  ht : PySem.W.takesIn K (.builtin "object.__class__") = some true

section
variable {X : Cx}
end
end L2

set_option linter.all false
set_option maxRecDepth 100000
set_option maxHeartbeats 4000000
namespace L2
open PySem PySem.Spec PyProof.Rows

theorem Same.new {H : Hp} {p : Addr} (h : H p = none) (o : HO) : Same H (upd H p o) := fun b u q => by rw [upd_ne (ne_of_none q h)]; exact q
theorem Same.seqT {K : PySem.W.Frag} {H H' : Hp} {a : Addr} {xs : List V} (e : Same H H') (h : SqT K H a xs) : SqT K H' a xs := by
  rcases h with (h | ⟨o, h⟩) | h
  · exact .inl (.inl (e _ _ h))
  · exact .inl (.inr ⟨o, e _ _ h⟩)
  · exact .inr h

end L2

namespace L2
open PySem PySem.Spec PyProof.Rows
def ClIn (env : Env) : List (Str × Addr) → Prop
  | [] => True
  | p :: r => env.cells.lookup p.1 = some p.2 ∧ ClIn env r
theorem ClIn.mem {env : Env} : ∀ {cl : List (Str × Addr)} {p : Str × Addr}, ClIn env cl → p ∈ cl → env.cells.lookup p.1 = some p.2
  | [], _, _, h => by cases h
  | q :: r, p, k, h => by
    rcases List.mem_cons.mp h with z | z
    · subst z; exact k.1
    · exact ClIn.mem k.2 z
/-- a comprehension, its sides shown by computation -/
theorem pe_compR {X : Cx} {x : Str} {px pos : Pos} {elt iter : Expr} {sc : Scope} {wi : TI} {te : TE} (ys : List Str) (js : List Nat) (cl : List (Str × Addr)) (hclos : closureFor sc X.env = pure cl) (hcap : Caps X sc cl ys js) (hin : ClIn X.env cl)
    (hi : PI X.nox (.Name x px) iter wi) (he : ∀ s2 H2 C ex, PE (compCx X sc (x :: ys) cl s2 H2 C ex) elt te) (hc : X.calm = true := by rfl)
    (hcell : (sc.names.all fun p => p.2 != NameKind.cell) = true := by rfl) (hkind : sc.kind = .function := by rfl) (hnames : (sc.names.all fun p => p.2 != NameKind.local || sc.names.lookup p.1 == some NameKind.local) = true := by rfl)
    (hx : (relabel sc X.env).names.lookup x = some .local := by rfl) (hhas : ((relabel sc X.env).names.all fun p => p.2 == NameKind.local || p.2 == NameKind.globalImplicit || (cl.lookup p.1).isSome) = true := by rfl)
    (hnd : (x :: ys).Nodup := by decide +kernel) (hs : ∀ v, foldedSetIterable iter X.env v = pure v := by intro _; rfl) : PE X (.ListComp elt [⟨.Name x px, iter, [], 0⟩] sc pos) (tComp wi js te) := by
  refine pe_comp hclos (fun y hy z => ?_) hkind (fun y hy z => ?_) hx hcap (fun y c e => hin.mem (PySem.mem_of_lookup e)) (fun y h => ?_) hnd hc hi he hs
  · have := List.all_eq_true.mp hcell y hy
    rw [z] at this
    exact absurd this (by decide)
  · have := List.all_eq_true.mp hnames y hy
    rw [z] at this
    simpa using this
  · have hm : ∃ k, (y, k) ∈ (relabel sc X.env).names ∧ (k = .cell ∨ k = .free) := by
      rcases h with h | h
      · exact ⟨_, PySem.mem_of_lookup h, .inl rfl⟩
      · exact ⟨_, PySem.mem_of_lookup h, .inr rfl⟩
    obtain ⟨k, hk, hz⟩ := hm
    have := List.all_eq_true.mp hhas _ hk
    rcases hz with rfl | rfl
    · exact Option.isSome_iff_exists.mp (by simpa using this)
    · exact Option.isSome_iff_exists.mp (by simpa using this)
end L2

set_option linter.all false
set_option maxRecDepth 100000
set_option maxHeartbeats 4000000
namespace L2
open PySem PySem.Spec PyProof.Rows

/-! ### a def of the text with its promise, by its name -/
def Def (P : Program) (w : World) (K : PySem.W.Frag) (mg : Str → Option Value) (base : Heap) (CX : CXT) (x : Str) (k : Nat) (ps : List Str) (sp : Sp) : Prop :=
  ∃ f fd, FnOk P w K mg base CX k f fd ps sp ∧ Binds K fd ps [] ∧ PySem.W.keepIn K (.ref f) = true ∧ mg x = some (.ref f)
section
variable {X : Cx} {CX : CXT} {j k : Nat} {ps : List Str} {sp : Sp} {E : XK} {x : Str} {p pos : Pos} {e : Expr} {es : List Expr} {t : TA}
theorem pe_callD (D : Def X.prog X.w X.K X.mg X.base CX x j ps sp) (hr : Room k X.A) (hx : Passes CX X E) (ha : PA X (e :: es) t) (hj : j ≤ k := by decide) (hg : Gl X x := by rfl)
    (hdb : (x == ("__debug__" : Str)) = false := by decide) (he : starEach (e :: es) X.env = (false, eval e X.env) :: starEach es X.env := by rfl) (hpl : (backTo pos (starEach es X.env)).any (·.1) = false := by rfl) :
    PE X (.Call (.Name x p) (e :: es) [] pos) (tCall sp [] E t) := by
  obtain ⟨f, fd, F, b, kk, m⟩ := D
  exact pe_call F (hr.mono hj) hg m kk b .nil hx ha hdb he hpl
theorem pex_callD (D : Def X.prog X.w X.K X.mg X.base (CX1 X.prog X.w) x j ps sp) (hr : Room k X.A) (ha : PA X.nox (e :: es) t) (hj : j ≤ k := by decide) (hg : Gl X x := by rfl)
    (hdb : (x == ("__debug__" : Str)) = false := by decide) (he : starEach (e :: es) X.env = (false, eval e X.env) :: starEach es X.env := by rfl) (hpl : (backTo pos (starEach es X.env)).any (·.1) = false := by rfl) :
    PEX X (.Call (.Name x p) (e :: es) [] pos) (tCallX sp [] t) := by
  obtain ⟨f, fd, F, b, kk, m⟩ := D
  exact pex_call F (hr.mono hj) hg m kk b .nil ha hdb he hpl
/-! ### a cut: what holds behind a statement, said once -/
def tCut (t : TS) : TS := fun D σ H => ∃ P : St → Hp → Prop, t { D with nx := P } σ H ∧ ∀ σ' H', P σ' H' → D.nx σ' H'
theorem ps_cut {st : Stmt} {t : TS} (h : PS X st t) : PS X st (tCut t) := by
  rintro pins s σ H D I ⟨P, hp, hq⟩
  refine thn (h pins s σ H _ I hp) fun f s' q => ?_
  cases f with
  | next =>
    obtain ⟨σ', H', I', q⟩ := q
    exact ⟨σ', H', I', hq _ _ q⟩
  | brk => exact q
  | cont => exact q
  | ret v => exact q
def tCutE (t : TE) : TE := fun σ H Q => ∃ P : VK, t σ H P ∧ ∀ v H', P v H' → Q v H'
end
end L2

set_option linter.all false
set_option maxRecDepth 100000
set_option maxHeartbeats 4000000
namespace L2
open PySem PySem.Spec PyProof.Rows

/-- a def of the text as the written part has it -/
def FunIn (K : PySem.W.Frag) (x : Str) (st : Stmt) : Prop := ∃ f fd, PySem.W.nsIn K mainGlobals x = some (some (.ref f)) ∧ Fun K x x st f fd
theorem funIn_mk {K : PySem.W.Frag} {x : Str} {st : Stmt} {f : Addr} {oc : Value} {od an : Option Addr} {osl : Array (Option Value)} {kV doc pm cdv ct : Value} (a : PySem.W.nsIn K mainGlobals x = some (some (.ref f)))
    (l : K.lookup f = some ⟨oc, od, .func (PySem.W.fnOf x x (defArgs st) (defBody st) (defScope st) .none kV doc pm an cdv ct), osl⟩) (c : PySem.W.codeIn K cdv x = true) (k : PySem.W.keepIn K (.ref f) = true) : FunIn K x st :=
  ⟨f, _, a, fun_mk l c k⟩
theorem Def.of {P : Program} {w : World} {K : PySem.W.Frag} {mg : Str → Option Value} {base h : Heap} {CX : CXT} {x : Str} {k : Nat} {ps : List Str} {sp : Sp} {st : Stmt} (X : K.In h) (G : h.Ns mainGlobals mg) (FI : FunIn K x st)
    (ok : ∀ f fd, Fun K x x st f fd → FnOk P w K mg base CX k f fd ps sp)
    (hb : ∀ (kV doc pm : Value) (an : Option Addr) (cdv ct : Value) (us : List Value), us.length = ps.length → bindArgs (PySem.W.fnOf x x (defArgs st) (defBody st) (defScope st) .none kV doc pm an cdv ct) ⟨us, []⟩ = pure (ps.zip us)) :
    Def P w K mg base CX x k ps sp := by
  obtain ⟨f, fd, a, F⟩ := FI
  exact ⟨f, fd, ok f fd F, F.binds hb, F.kp, PySem.W.mg_of X G a⟩
end L2

set_option maxRecDepth 100000
set_option maxHeartbeats 4000000
/-! An attribute stored into an exception of an own class. -/
namespace L2
open PySem PySem.W Builtin Builtin.ObjectAttr

/-- own classes, then those of ValueError -/
def onlyVE : List Value → Bool
  | .ref _ :: r => onlyVE r
  | l => l == [.type "ValueError", .type "Exception", .type "BaseException", .type "object"]
theorem onlyVE_nil : onlyVE [] = false := by decide
theorem onlyVE_other {v : Value} {r : List Value} (h : ∀ c, v ≠ .ref c) (e : onlyVE (v :: r) = true) : v :: r = [.type "ValueError", .type "Exception", .type "BaseException", .type "object"] := by
  have z : onlyVE (v :: r) = (v :: r == [.type "ValueError", .type "Exception", .type "BaseException", .type "object"]) := by
    cases v <;> first | rfl | exact absurd rfl (h _)
  rw [z] at e
  exact beq_iff_eq.mp e
theorem refuse_VE (self : Value) : ∀ {l : List Value}, onlyVE l = true → refuseLoop self "__setattr__" l = pure ()
  | [], e => by rw [onlyVE_nil] at e; cases e
  | v :: r, e => by
    by_cases h : ∃ c, v = .ref c
    · obtain ⟨c, rfl⟩ := h
      rw [refuseLoop_ref]
      exact refuse_VE self (l := r) e
    · rw [onlyVE_other (fun c z => h ⟨c, z⟩) e]
      exact PySem.F.store_ValueError.passes self
theorem has_VE : ∀ {l : List Value}, onlyVE l = true → l.contains (.type "object") = true
  | [], e => by rw [onlyVE_nil] at e; cases e
  | v :: r, e => by
    by_cases h : ∃ c, v = .ref c
    · obtain ⟨c, rfl⟩ := h
      rw [List.contains_cons, has_VE (l := r) e, Bool.or_true]
    · rw [onlyVE_other (fun c z => h ⟨c, z⟩) e]
      decide

section
variable {prog : Program} {w : World} {A : Around} {E : Value → Shared → Prop} {K : Frag} {x C : Addr} {ox : Obj} {od : Option Obj} {name : Str} {s : Shared} {cd : ClassData} {v : Value} {R : Result → Shared → Prop}
theorem osa_exc {tk : Tok} (X : K.In s.heap) (I : InstAt s.heap x ox C od) (hc : clsIn K C = some cd) (ho : onlyVE cd.mro = true) (ht : takerIn K C name = some none)
    (h : ∀ b, wpAny (model prog w) A.in1 (storeInOwnDict (.ref x) (.ref C) (.str name tk) name v b)
      (fun fin s' => match fin with | .done f => R (.ok f) s' | .again c' => c'.quiet = true ∧ codeAny (model prog w) A c' R s') (fun e s' => R (.error e) s') s) :
    codeAny (model prog w) A (.call (.builtin "object.__setattr__") ⟨[.ref x, .str name tk, v], []⟩) R s := by
  have SF := PySem.F.store_object
  have ne : cd.mro.isEmpty = false := by cases q : cd.mro with | nil => rw [q, onlyVE_nil] at ho; cases ho | cons _ _ => rfl
  have sub : Looks (model prog w) s.heap (isInstance (.ref x) (.type "object")) true := I.type.andThen (looks_mroIn X (by unfold mroIn; rw [hc, Option.bind_some, if_neg (by rw [ne]; decide), has_VE ho]))
  refine codeAny_call_builtin SF.slot.plain SF.entry (@check_slot (model prog w) _ _ s "object.__setattr__" "object" "__setattr__" (.ref x) [.str name tk, v] [] _ SF.kind SF.split sub (SF.args (.ref x) (.str name tk) v) ?_)
  obtain ⟨attr, ha, hr⟩ := Option.bind_eq_some_iff.mp ht
  have hm : Looks (model prog w) s.heap (mroOf (.ref C)) cd.mro := (looks_clsIn X hc).andThen .now
  have L3 : Looks (model prog w) s.heap (storeTaker? attr) none := by
    cases attr with
    | none => exact .now
    | some a =>
      obtain ⟨b, hb, e⟩ := Option.map_eq_some_iff.mp hr
      refine (looks_takesIn X hb).andThen ?_
      cases b with
      | true => cases e
      | false => exact .now
  rw [osa_eq, refuse_eq]
  refine wpAny_bind (wpAny_bind (I.type.here (wpAny_bind (hm.here ?_))))
  rw [refuse_VE _ ho]
  refine wpAny_pure (wpAny_bind (I.type.here (wpAny_bind ((looks_findIn X ha).here (wpAny_bind (L3.here ?_))))))
  exact h _

/-- the first attribute: its dict is made -/
theorem exc_set_new {ws : Array Value} {Q : Unit → Shared → Prop} (X : K.In s.heap) (I : InstAt s.heap x ox C od) (hc : clsIn K C = some cd) (ho : onlyVE cd.mro = true) (ht : takerIn K C name = some none)
    (hs : findIn K (.ref C) "__setattr__" = some (some (.builtin "object.__setattr__"))) (hdd : cd.hasDict = true) (hn : ox.dict = none) (hf : ox.data = .fields ws)
    (h : ∀ h', h'.get? x = some { ox with dict := some s.heap.objs.size } → h'.Ns1 s.heap.objs.size (fun y => if y = name then some v else none) →
      (∀ b o, b ≠ x → s.heap.get? b = some o → h'.get? b = some o) → Q () { s with heap := h', toks := s.toks + 2 }) :
    wpAny (model prog w) A (setAttr (.ref x) name v) Q E s := by
  refine PySem.W.set_plain X I hs (osa_exc (s := { s with toks := s.toks + 1 }) X I hc ho ht fun b => ?_)
  obtain ⟨hx, hcl, _, _⟩ := I
  have hxs : x ≠ s.heap.objs.size := Nat.ne_of_lt (Heap.lt_size hx)
  unfold storeInOwnDict ownStreamTells
  refine wpAny_bind (wpAny_pure ?_)
  rw [if_neg (by intro z; cases (beq_iff_eq.mp z))]
  refine wpAny_bind ?_
  unfold ownDictForStores instanceDict
  refine wpAny_bind (wpAny_loadPart hx ?_)
  rw [hcl]
  dsimp only
  refine wpAny_bind (Looks.here (s := { s with toks := s.toks + 1 }) (looks_clsIn X hc) ?_)
  rw [hdd, hn, hf]
  dsimp only
  rw [if_neg (by decide), if_neg (show ¬ ((!true || !typeHasDict (Value.ref C)) = true) by simp [typeHasDict])]
  have hx1 : (s.heap.push { cls := .type "dict", data := .dict #[] }).get? x = some ox := Heap.get?_push_of_some _ hx
  refine wpAny_bind (wpAny_alloc' ?_)
  refine wpAny_bind (wpAny_update' hx1 ?_)
  refine wpAny_pure ?_
  have hgd : ((s.heap.push { cls := .type "dict", data := .dict #[] }).update x fun o => { cls := o.cls, dict := some s.heap.objs.size, data := o.data, slots := o.slots }).get? s.heap.objs.size = some { cls := .type "dict", data := .dict #[] } :=
    (Heap.get?_update_ne _ _ _ _ hxs.symm).trans (Heap.get?_push_at rfl rfl)
  have hnd : ((s.heap.push { cls := .type "dict", data := .dict #[] }).update x fun o => { cls := o.cls, dict := some s.heap.objs.size, data := o.data, slots := o.slots }).Ns s.heap.objs.size (fun _ => none) :=
    ⟨_, #[], _, hgd, rfl, fun e he => absurd he (by simp), fun _ => rfl⟩
  show wpAny _ _ (storeInDict s.heap.objs.size (.str name _) name v) _ _ _
  unfold storeInDict newKeyGuard
  refine wpAny_bind (wpAny_pure (wpAny_bind (wpAny_nsSet1 (Heap.Ns1.of_empty hnd) fun h' hn' hs' => ?_)))
  obtain ⟨oD, esD, epD, hoD, hdD, hcD⟩ := hn'.count (Within.cons name v Within.nil)
  refine wpAny_bind (wpAny_lookBehind hoD (by rw [hdD]; exact pastItsLine_dict (Nat.le_trans hcD (by rw [List.length_cons, List.length_nil, sizeLine_eq]; omega))) ?_)
  refine wpAny_pure (h h' ?_ hn' fun b ob hbx hb => ?_)
  · refine (hs'.2 x hxs).trans (Heap.get?_update_self _ hx1 ?_)
    exact Obj.isFreed_of_fields (o := { ox with dict := some s.heap.objs.size }) (by exact hf)
  · exact (hs'.2 b (Nat.ne_of_lt (Heap.lt_size hb))).trans ((Heap.get?_update_ne _ _ _ _ hbx).trans (Heap.get?_push_of_some _ hb))
/-- a later attribute -/
theorem exc_set_old {dx : Addr} {mA : Str → Option Value} {ns : List Str} {Q : Unit → Shared → Prop} (X : K.In s.heap) (I : InstAt s.heap x ox C od) (hc : clsIn K C = some cd) (ho : onlyVE cd.mro = true) (ht : takerIn K C name = some none)
    (hs : findIn K (.ref C) "__setattr__" = some (some (.builtin "object.__setattr__"))) (hdd : cd.hasDict = true) (hn : ox.dict = some dx) (hm : s.heap.Ns1 dx mA) (hw : PySem.Within mA ns) (hsz : ns.length ≤ 1000)
    (h : ∀ h', h'.Ns1 dx (fun y => if y = name then some v else mA y) → Heap.SameBut dx s.heap h' → Q () { s with heap := h', toks := s.toks + 2 }) :
    wpAny (model prog w) A (setAttr (.ref x) name v) Q E s := by
  refine PySem.W.set_plain X I hs (osa_exc (s := { s with toks := s.toks + 1 }) X I hc ho ht fun b => ?_)
  obtain ⟨hx, hcl, _, _⟩ := I
  unfold storeInOwnDict ownStreamTells
  refine wpAny_bind (wpAny_pure ?_)
  rw [if_neg (by intro z; cases (beq_iff_eq.mp z))]
  refine wpAny_bind ?_
  unfold ownDictForStores instanceDict
  refine wpAny_bind (wpAny_loadPart hx ?_)
  rw [hcl]
  dsimp only
  refine wpAny_bind (Looks.here (s := { s with toks := s.toks + 1 }) (looks_clsIn X hc) ?_)
  rw [hdd, hn]
  dsimp only
  rw [if_neg (by decide)]
  refine wpAny_pure ?_
  show wpAny _ _ (storeInDict dx (.str name _) name v) _ _ _
  unfold storeInDict newKeyGuard
  refine wpAny_bind (wpAny_pure (wpAny_bind (wpAny_nsSet1 hm fun h' hn' hs' => ?_)))
  obtain ⟨oD, esD, epD, hoD, hdD, hcD⟩ := hn'.count (Within.cons name v hw)
  refine wpAny_bind (wpAny_lookBehind hoD (by rw [hdD]; exact pastItsLine_dict (Nat.le_trans hcD (by rw [List.length_cons, sizeLine_eq]; omega))) ?_)
  exact wpAny_pure (h h' hn' hs')
end
end L2

set_option maxRecDepth 100000
set_option maxHeartbeats 4000000
/-! C(..) of an own exception class with an own __init__. -/
namespace L2
open PySem PySem.W
section
variable {prog : Program} {w : World} {A : Around} {E : Value → Shared → Prop} {h : Heap} {g : Array GenState} {d : Drawn} {t : Nat} {os : OsState}
variable {nm q : Str} {C N fI : Addr} {bs bm bmB : List Value} {hdct : Bool} {sn : List Str} {sub : List Value} {ab : Bool} {col : Option Bool} {dd : Option Addr} {k0 k1 k2 k3 k5 : Option Value} {B Bn newId nid initId inN : String} {bmN : List Value} {K : Frag}

abbrev excObj (C t : Addr) : Obj := { cls := .ref C, data := .fields #[.ref t, .none, .none, .none, .bool false, .none] }
abbrev excObjD (C t : Addr) (dO : Option Addr) : Obj := { cls := .ref C, dict := dO, data := .fields #[.ref t, .none, .none, .none, .bool false, .none] }
abbrev excHeap (h : Heap) (C : Addr) (rest : List Value) : Heap := (h.push { cls := .type "tuple", data := .seq rest.toArray }).push (excObj C h.objs.size)
theorem type_call_init (Fn : ExcBaseFacts Bn newId inN bmN) (hBn : bmB.contains (.type Bn) = true) (F : ExcBaseFacts B nid initId bmB) (T : OwnTail h bmB bm) {rest : List Value} {Q : Fin → Shared → Prop} (X : K.In h)
    (hC : h.get? C = some (excClassObj nm q C N bs bm hdct sn sub ab col dd k0 k1 k2 k3 k5 newId)) (hi : findIn K (.ref C) "__init__" = some (some (.ref fI))) (hf : typeIn K (.ref fI) = some (.type "function"))
    (hq : wpAny (model prog w) A (call (.ref fI) (.ref (h.objs.size + 1) :: rest)) (fun v s' => v = .none ∧ Q (.done (.ret (.ref (h.objs.size + 1)))) s') E ⟨excHeap h C rest, g, d, t, os⟩) (hrest : rest.length ≤ sizeLine) :
    wpAny (model prog w) A (Builtin.«type.__call__» ⟨.ref C :: rest, []⟩) Q E ⟨h, g, d, t, os⟩ := by
  repeat (first | with_reducible refine wpAny_loadPart_at hC ?_ | with_reducible refine wpAny_madeBy_exc hC ?_ | wp_step)
  refine codeAny_call_builtin_code (Code.quiet_builtin _ Fn.quiet) (wpAny_check_new_subU Fn hBn T hC ?_)
  refine codeAny_exc_new_subU Fn hBn F T hC ?_ hrest
  show wpAny _ _ _ _ _ _
  have hC₁ := Heap.get?_push_of_some { cls := .ref C, data := .fields #[.ref h.objs.size, .none, .none, .none, .bool false, .none] }
    (Heap.get?_push_of_some { cls := .type "tuple", data := .seq rest.toArray } hC)
  have hget : ((h.push { cls := .type "tuple", data := .seq rest.toArray }).push
      { cls := .ref C, data := .fields #[.ref h.objs.size, .none, .none, .none, .bool false, .none] }).get? (h.objs.size + 1) = some
      { cls := .ref C, data := .fields #[.ref h.objs.size, .none, .none, .none, .bool false, .none] } := by heap_get
  have hcC : (Value.ref C :: bm).contains (.ref C) = true := by simp
  have X₁ : K.In (excHeap h C rest) := X.keeps fun b o e => Heap.get?_push_of_some _ (Heap.get?_push_of_some _ e)
  unfold isInstance
  repeat (first | with_reducible refine wpAny_loadPart_at hget ?_ | (with_reducible refine wpAny_isSubtype_exc hC₁ ?_; rw [hcC]) | wp_step)
  show wpAny _ _ (typeLookup (.ref C) _) _ _ _
  refine (looks_findIn X₁ hi).at ?_
  refine wpAny_holding (wpAny_bind ((bind_fn X₁ _ hf).at ?_))
  refine wpAny_bind (wpAny_mono hq ?_ fun _ _ z => z)
  rintro v s' ⟨rfl, z⟩
  wp_walk
  exact z
theorem call_init (Fn : ExcBaseFacts Bn newId inN bmN) (hBn : bmB.contains (.type Bn) = true) (F : ExcBaseFacts B nid initId bmB) (T : OwnTail h bmB bm) {rest : List Value} {Q : Value → Shared → Prop} (X : K.In h)
    (hC : h.get? C = some (excClassObj nm q C N bs bm hdct sn sub ab col dd k0 k1 k2 k3 k5 newId)) (hi : findIn K (.ref C) "__init__" = some (some (.ref fI))) (hf : typeIn K (.ref fI) = some (.type "function"))
    (hq : wpAny (model prog w) (A.under (.builtin "type.__call__" ⟨.ref C :: rest, []⟩)) (call (.ref fI) (.ref (h.objs.size + 1) :: rest)) (fun v s' => v = .none ∧ Q (.ref (h.objs.size + 1)) s') E ⟨excHeap h C rest, g, d, t, os⟩) (hrest : rest.length ≤ sizeLine) :
    wpAny (model prog w) A (call (.ref C) rest) Q E ⟨h, g, d, t, os⟩ := by
  have f1 := tc_lookup
  have f2 := tc_bind (.ref C)
  have hT : (⟨h, g, d, t, os⟩ : Shared).TypeIs (.ref C) "type" := ⟨_, hC, rfl⟩
  refine wpAny_call (codeAny_of_tree ?_)
  show wpAny _ _ (callAny (.ref C) _) _ _ _
  repeat (any_goals (first | assumption | with_reducible refine wpAny_loadPart_at hC ?_ | wp_step))
  refine ⟨rfl, ?_⟩
  refine codeAny_call_builtin_at (Code.quiet_builtin _ (by decide +kernel)) entry_typeCall (wpAny_check_type_call_sub hC (type_call_init Fn hBn F T X hC hi hf ?_ hrest))
  exact hq
end
section
variable {prog : Program} {w : World} {A : Around} {E : Value → Shared → Prop} {s : Shared} {env : Env}
variable {nm q : Str} {C N fI : Addr} {bs bm bmB : List Value} {hdct : Bool} {sn : List Str} {sub : List Value} {ab : Bool} {col : Option Bool} {dd : Option Addr} {k0 k1 k2 k3 k5 : Option Value} {B Bn newId nid initId inN : String} {bmN : List Value} {K : Frag}

/-- what is raised may have a dict -/
theorem raiseStmt_any {M : Model} {x : Sem Value} {Q : Flow → Shared → Prop} (hbase : bm.contains (.type "BaseException") = true) (hh : A.handled = none)
    (h : wpAny M A x (fun v s₁ => ∃ e t dO, v = .ref e ∧ s₁.heap.get? C = some (excClassObj nm q C N bs bm hdct sn sub ab col dd k0 k1 k2 k3 k5 newId) ∧ s₁.heap.get? e = some (excObjD C t dO) ∧ E (.ref e) s₁) E s) :
    wpAny M A (raiseStmt env (some x) none) Q E s := by
  have hcB : (Value.ref C :: bm).contains (.type "BaseException") = true := by rw [List.contains_cons, hbase, Bool.or_true]
  unfold raiseStmt
  refine wpAny_bind (wpAny_mono h (fun v s₁ h₁ => ?_) fun _ _ x => x)
  obtain ⟨e, t, dO, rfl, hC, he, hE⟩ := h₁
  obtain ⟨hp, g, d, tk, os⟩ := s₁
  repeat (first | with_reducible refine wpAny_loadPart_at he ?_ | with_reducible refine wpAny_loadPart_at hC ?_ | (with_reducible refine wpAny_isSubtype_exc hC ?_; rw [hcB]) | wp_step)
  exact wpAny_raiseNew_none hh hE

theorem Raise_init (Fn : ExcBaseFacts Bn newId inN bmN) (hBn : bmB.contains (.type Bn) = true) (F : ExcBaseFacts B nid initId bmB) {x : Str} {np cpos pos : Pos} {args : List Expr} {Q : Flow → Shared → Prop}
    (hbase : bm.contains (.type "BaseException") = true) (hh : A.handled = none) (hplain : (backTo cpos (starEach args env)).any (·.1) = false) (hi : findIn K (.ref C) "__init__" = some (some (.ref fI))) (hf : typeIn K (.ref fI) = some (.type "function"))
    (h : wpAny (model prog w) A (eval (.Name x np) env) (fun f s₁ => f = .ref C ∧ wpAny (model prog w) A (evalArgs (.ref C) true (backTo cpos (starEach args env)) [])
      (fun a s₂ => a.kw = [] ∧ a.pos.length ≤ sizeLine ∧ s₂.heap.get? C = some (excClassObj nm q C N bs bm hdct sn sub ab col dd k0 k1 k2 k3 k5 newId) ∧ K.In s₂.heap ∧ OwnTail s₂.heap bmB bm ∧
        wpAny (model prog w) (A.under (.builtin "type.__call__" ⟨.ref C :: a.pos, []⟩)) (call (.ref fI) (.ref (s₂.heap.objs.size + 1) :: a.pos)) (fun v s' => v = .none ∧ s'.heap.get? C = some (excClassObj nm q C N bs bm hdct sn sub ab col dd k0 k1 k2 k3 k5 newId) ∧
          (∃ t dO, s'.heap.get? (s₂.heap.objs.size + 1) = some (excObjD C t dO)) ∧ E (.ref (s₂.heap.objs.size + 1)) s') E { s₂ with heap := excHeap s₂.heap C a.pos }) E s₁) E s) :
    wpAny (model prog w) A (exec (.Raise (some (.Call (.Name x np) args [] cpos)) none pos) env) Q E s := by
  rw [arm_exec_Raise]
  first
    | refine wpAny_bind (wpAny_standAt (raiseStmt_any (C := C) (nm := nm) (q := q) (N := N) (bs := bs) (bm := bm) (hdct := hdct) (sn := sn) (sub := sub) (ab := ab) (col := col) (dd := dd) (k0 := k0) (k1 := k1) (k2 := k2) (k3 := k3) (k5 := k5) (newId := newId) hbase hh (wpAny_bind (wpAny_mono (wpAny_Call_ofName (wpAny_mono h (fun f s₁ h₁ => ?_) fun _ _ x => x)) (fun v s₃ h₃ => wpAny_bind (wpAny_standAt (wpAny_pure h₃))) fun _ _ x => x))))
    | (simp only [evalOpt, Option.map]; refine wpAny_bind (wpAny_standAt (raiseStmt_any (C := C) (nm := nm) (q := q) (N := N) (bs := bs) (bm := bm) (hdct := hdct) (sn := sn) (sub := sub) (ab := ab) (col := col) (dd := dd) (k0 := k0) (k1 := k1) (k2 := k2) (k3 := k3) (k5 := k5) (newId := newId) hbase hh (wpAny_bind (wpAny_mono (wpAny_Call_ofName (wpAny_mono h (fun f s₁ h₁ => ?_) fun _ _ x => x)) (fun v s₃ h₃ => wpAny_bind (wpAny_standAt (wpAny_pure h₃))) fun _ _ x => x)))))
  obtain ⟨rfl, h₁⟩ := h₁
  unfold callWith
  refine wpAny_bind (wpAny_holding (wpAny_mono h₁ (fun a s₂ h₂ => wpAny_bind (wpAny_standAt ?_)) fun _ _ x => x))
  obtain ⟨apos, akw⟩ := a
  obtain ⟨hkw, hlen, hC, X, T, h₂⟩ := h₂
  obtain rfl : akw = [] := hkw
  obtain ⟨hp, g, d, tk, os⟩ := s₂
  simp only [hplain]
  refine wpAny_bind (wpAny_keeperOf_exc hC ?_)
  refine wpAny_bind (call_init Fn hBn F T X hC hi hf (wpAny_mono h₂ ?_ fun _ _ z => z) hlen)
  rintro v s' ⟨rfl, hC', ⟨t, dO, he⟩, hE⟩
  exact ⟨rfl, wpAny_bind (wpAny_holding (wpAny_point (wpAny_pure ⟨_, t, dO, rfl, hC', he, hE⟩)))⟩
end
end L2

set_option linter.all false
set_option maxRecDepth 100000
set_option maxHeartbeats 4000000
/-! Exceptions with fields over the layer: made with an own __init__, raised, caught, read. -/
namespace L2
open PySem PySem.Spec PyProof.Rows

/-- a new exception of the class at C, its dict at d -/
def newO (a C : Addr) (d : Option Addr) : HO := .ext fun h => ∃ t, h.get? a = some (excObjD C t d)
/-- an exception's dict, with these attributes -/
def xdO (a : Addr) (fs : List (Str × V)) : HO := .ext fun h => ∃ mA, h.Ns1 a mA ∧ ∀ f, RelO (fs.lookup f) (mA f)
section
variable {P : Program} {w : World} {H : Hp} {h : Heap} {a C : Addr} {d : Option Addr} {fs : List (Str × V)}
theorem newO_ok (x : ∃ t, h.get? a = some (excObjD C t d)) : ObjOk P w H h a (newO a C d) := by
  obtain ⟨t, e⟩ := x
  refine ⟨⟨t, e⟩, ⟨_, e⟩, ?_⟩
  rintro h1 h2 ⟨t, f⟩ k
  exact ⟨t, k _ f⟩
theorem newO_get (x : ObjOk P w H h a (newO a C d)) : ∃ t, h.get? a = some (excObjD C t d) := x.1
theorem xdO_ok (x : ∃ mA, h.Ns1 a mA ∧ ∀ f, RelO (fs.lookup f) (mA f)) : ObjOk P w H h a (xdO a fs) := by
  obtain ⟨mA, n, r⟩ := x
  refine ⟨⟨mA, n, r⟩, ?_, ?_⟩
  · obtain ⟨o, _, _, e, _⟩ := n
    exact ⟨o, e⟩
  · rintro h1 h2 ⟨mA, n, r⟩ k
    obtain ⟨o, es, ep, e, q⟩ := n
    exact ⟨mA, ⟨o, es, ep, k _ e, q⟩, r⟩
theorem xdO_get (x : ObjOk P w H h a (xdO a fs)) : ∃ mA, h.Ns1 a mA ∧ ∀ f, RelO (fs.lookup f) (mA f) := x.1
theorem within_of {mA : Str → Option Value} (r : ∀ f, RelO (fs.lookup f) (mA f)) : PySem.Within mA (fs.map (·.1)) := by
  intro g hg
  cases q : fs.lookup g with
  | none =>
    have z := r g
    rw [q] at z
    exact absurd z.none_of hg
  | some v =>
    exact List.mem_map.mpr ⟨(g, v), PySem.mem_of_lookup q, rfl⟩
end

/-- what the text says of a class whose exceptions bear attributes -/
structure XCls (K : PySem.W.Frag) (C : Addr) : Prop where
  cd : ∃ cd, PySem.W.clsIn K C = some cd ∧ onlyVE cd.mro = true ∧ cd.hasDict = true
  sa : PySem.W.findIn K (.ref C) "__setattr__" = some (some (.builtin "object.__setattr__"))
def XNo (K : PySem.W.Frag) (C : Addr) (f : Str) : Prop := PySem.W.findIn K (.ref C) f = some none
theorem XNo.taker {K : PySem.W.Frag} {C : Addr} {f : Str} (n : XNo K C f) : PySem.W.takerIn K C f = some none := by
  unfold PySem.W.takerIn
  rw [n]
  rfl

theorem get_push_ne {h : Heap} {o v : Obj} {b : Addr} (z : (h.push o).get? b = some v) (hb : b ≠ h.objs.size) : h.get? b = some v := by
  rw [← z]
  exact (Heap.get?_push_ne h b o hb).symm
def sX (K : PySem.W.Frag) (ta tv : TE) (f : Str) : TS := fun D σ H => tv σ H fun y H1 => ta σ H1 fun x H2 => ∃ a C, x = .ref a ∧ XCls K C ∧ XNo K C f ∧
  ((H2 a = some (newO a C none) ∧ ∀ dx, H2 dx = none → dx ≠ a → D.nx σ (upd (upd H2 dx (xdO dx [(f, y)])) a (newO a C (some dx)))) ∨
    (∃ dx fs, H2 a = some (newO a C (some dx)) ∧ H2 dx = some (xdO dx fs) ∧ fs.length < 1000 ∧ D.nx σ (upd H2 dx (xdO dx (putF f y fs)))))
section
variable {X : Cx} {o value : Expr} {f : Str} {pos pos' : Pos} {ta tv : TE}
theorem ps_xset (ha : PE X o ta) (hv : PE X value tv) (hs : swapsWith value (some (.Attribute o f pos')) pos.line X.env = pure false := by rfl) : PS X (.Assign [.Attribute o f pos'] value pos) (sX X.K ta tv f) := by
  intro pins s σ H D I h
  refine plainObj_wpAny_Assign_Attribute (thn (hv pins s σ H _ I h) fun u s1 ⟨y, H1, I1, ry, q⟩ => thn (ha pins s1 σ H1 _ I1 q) fun ov s2 ⟨x, H2, I2, rx, a, C, ex, c, n, q2⟩ => ?_) hs
  subst ex
  obtain rfl : ov = Value.ref a := rx
  obtain ⟨cd, c1, c2, c3⟩ := c.cd
  rcases q2 with ⟨ea, q2⟩ | ⟨dx, fs, ea, ed, hl, q2⟩
  · obtain ⟨t, et⟩ := newO_get (I2.hok a _ ea)
    have hI : PySem.W.InstAt s2.heap a (excObjD C t none) C none := ⟨et, rfl, rfl, trivial⟩
    refine exc_set_new I2.kIn hI c1 c2 n.taker c.sa c3 rfl rfl fun h' g1 g2 g3 => ?_
    have nd : H2 s2.heap.objs.size = none := I2.hok.fresh (Nat.le_refl _)
    have na : s2.heap.objs.size ≠ a := Ne.symm (Nat.ne_of_lt (Heap.lt_size et))
    obtain ⟨od, es, ep, e1, e2⟩ := id g2
    have hfr : od.isFreed = false := (Heap.get?_some_iff.mp e1).2
    have p1 : (s2.heap.push od).get? s2.heap.objs.size = some od := Heap.get?_push_size _ hfr
    have J1 := I2.laid (a := s2.heap.objs.size) (o := xdO s2.heap.objs.size [(f, y)]) (h' := s2.heap.push od) (t' := s2.toks) (fun b v z => Heap.get?_push_of_some _ z) (Nat.le_refl _) (xdO_ok ⟨_, ⟨od, es, ep, p1, e2⟩, fun g => by
      by_cases z : g = f
      · subst z
        simp only [List.lookup, beq_self_eq_true, if_pos]
        exact ry
      · have z' : (g == f) = false := beq_eq_false_iff_ne.mpr z
        simp only [List.lookup, z', if_neg z]
        trivial⟩)
    refine ⟨σ, _, J1.write (x := a) (e := a) (o := newO a C (some s2.heap.objs.size)) (h' := h') (t' := s2.toks + 2) ?_ (.inl rfl) ?_ ⟨_, g1⟩ (newO_ok ⟨t, g1⟩), q2 _ nd na⟩
    · rw [upd_ne (Ne.symm na), ea]
      exact True.intro
    · intro b v hb z
      by_cases hd : b = s2.heap.objs.size
      · subst hd
        rw [p1] at z
        cases z
        exact e1
      · refine g3 b v hb ?_
        exact get_push_ne z hd
  · obtain ⟨t, et⟩ := newO_get (I2.hok a _ ea)
    obtain ⟨mA, hm, r⟩ := xdO_get (I2.hok dx _ ed)
    obtain ⟨od, es, ep, e1, e2⟩ := id hm
    have hI : PySem.W.InstAt s2.heap a (excObjD C t (some dx)) C (some od) := ⟨et, rfl, rfl, e1⟩
    refine exc_set_old I2.kIn hI c1 c2 n.taker c.sa c3 rfl hm (within_of r) (by rw [List.length_map]; omega) fun h' g1 g2 => ?_
    refine ⟨σ, _, I2.write (x := dx) (e := dx) (o := xdO dx (putF f y fs)) (h' := h') (t' := s2.toks + 2) (by rw [ed]; exact True.intro) (.inl rfl) (fun b v hb z => (g2.2 b hb).trans z) (let ⟨o, _, _, e', _⟩ := g1; ⟨o, e'⟩) (xdO_ok ⟨_, g1, fun g => ?_⟩), q2⟩
    rw [lookup_putF]
    by_cases z : g = f
    · rw [if_pos z, if_pos z]; exact ry
    · rw [if_neg z, if_neg z]; exact r g
end
end L2

set_option linter.all false
set_option maxRecDepth 100000
set_option maxHeartbeats 4000000
namespace L2
open PySem PySem.Spec PyProof.Rows

def del (H : Hp) (a : Addr) : Hp := fun b => if b = a then none else H b
theorem del_same {H : Hp} {a : Addr} : del H a a = none := if_pos rfl
theorem del_ne {H : Hp} {a b : Addr} (h : b ≠ a) : del H a b = H b := if_neg h
theorem del_some {H : Hp} {a b : Addr} {u : HO} (h : del H a b = some u) : b ≠ a ∧ H b = some u := by
  by_cases e : b = a
  · subst e; rw [del_same] at h; cases h
  · rw [del_ne e] at h; exact ⟨e, h⟩
theorem del_none {H : Hp} {a b : Addr} (h : H b = none) : del H a b = none := by
  by_cases e : b = a
  · subst e; exact del_same
  · rw [del_ne e]; exact h
/-- what stays when an exception that was tracked is let go -/
theorem Same.del {H H' : Hp} {a : Addr} (e : Same H H') (n : H a = none) : Same H (del H' a) := fun b o q => by
  rw [del_ne (ne_of_none q n)]
  exact e b o q

section
variable {X : Cx} {pins : List (Addr × Obj)} {σ : St} {H H' : Hp} {s s1 : Shared} {B h' : Heap} {a C : Addr} {d : Option Addr}
theorem un_del {fs : List Addr} {φ : Heap → Prop} (e : H a = some (.ext φ)) : Un fs [] H (del H a) s.heap s.heap where
  keep := fun b o q _ _ _ => q
  slot := fun b o q _ _ _ => ⟨o.slots, q⟩
  free := fun b o q n _ => del_none n
  there := fun b o q _ => ⟨o, q⟩
  tups := fun b xs q => by rw [del_ne (by intro z; subst z; rw [e] at q; cases q)]; exact q
  frzs := fun b o u q => by rw [del_ne (by intro z; subst z; rw [e] at q; cases q)]; exact q
  tbls := fun b ps q => ⟨#[], by rw [del_ne (by intro z; subst z; rw [e] at q; cases q)]; simpa using q⟩
theorem hok_del {φ : Heap → Prop} {P : Program} {w : World} {h : Heap} (ok : HOk P w H h) (e : H a = some (.ext φ)) : HOk P w (del H a) h := fun b u q => by
  obtain ⟨hb, q⟩ := del_some q
  refine (ok b u q).stay (fun _ _ _ z => z) (fun c z => ?_) fun c xs z => ?_
  · rw [del_ne (by intro y; subst y; rw [e] at z; cases z)]; exact z
  · rw [del_ne (by intro y; subst y; rw [e] at z; cases z)]; exact z
/-- behind a flight, the exception itself being one of the objects -/
theorem Inv.flown2 (I : Inv X pins σ H s) (os : s1.os = s.os) (bare : AllBare s1.gens) (un : Un (frs X.stack) [] H H' s.heap s1.heap) (hok : HOk X.prog X.w H' s1.heap) (bs : B.StaysIn s1.heap)
    (b1 : ∀ b o, s.heap.get? b = some o → b ∉ frs X.stack → H b = none → B.get? b = some o) (b2 : ∀ b u, H' b = some u → ∃ o, B.get? b = some o)
    (b3 : ∀ b o, s.heap.get? b = some o → b ∈ frs X.stack ∨ (∃ o', B.get? b = some o') ∨ ∃ o', h'.get? b = some o') (st : B.StaysIn h') (up : s1.heap.UpToSlots h') : Inv X pins σ H' { s1 with heap := h' } := by
  have nf : ∀ b ∈ frs X.stack, ∀ o, s.heap.get? b = some o → ∀ vs, o.data ≠ .fields vs := fun b hb o e => by
    obtain ⟨_, o', e', r⟩ := I.stack.mem hb
    rw [e] at e'
    cases e'
    exact r
  have sl : ∀ b o, s.heap.get? b = some o → b ∈ frs X.stack → ∃ sl, h'.get? b = some { o with slots := sl } := fun b o e hb => by
    obtain ⟨s2, e2⟩ := un.slot b o e (I.stkFree b hb) hb (by simp)
    obtain ⟨s3, e3⟩ := up b _ e2 (nf b hb o e)
    exact ⟨s3, e3⟩
  refine I.call' (s' := { s1 with heap := h' }) os ⟨fun b o e n hb _ => st b o (b1 b o e hb n), fun b o e n hb _ => sl b o e hb, un.free, fun b o e hx => ?_, un.tups, un.frzs, un.tbls⟩ (fun b u e => ?_) bare fun b z => nomatch z
  · rcases b3 b o e with z | ⟨o', z⟩ | z
    · obtain ⟨_, q⟩ := sl b o e z
      exact ⟨_, q⟩
    · exact ⟨o', st b o' z⟩
    · exact z
  · refine (hok b u e).stay (fun c v hc q => ?_) (fun _ q => q) fun _ _ q => q
    have ht : ∃ u', H' c = some u' := by
      rcases hc with rfl | hc
      · exact ⟨u, e⟩
      · exact ⟨_, hc⟩
    obtain ⟨u', hu⟩ := ht
    obtain ⟨o, ho⟩ := b2 c u' hu
    have q' := bs c o ho
    rw [q] at q'
    cases q'
    exact st c v ho
end

section
variable {P : Program} {w : World} {K : PySem.W.Frag} {mg : Str → Option Value} {base : Heap} {N : List Str} {qual : Str} {scope : Scope} {f : Addr} {cd : Value} {A : Around} {outer : List Env} {s₀ : Shared} {H₀ : Hp} {E : XK}
/-- an exception with attributes leaves the def that made it -/
theorem leaves_any {pins : List (Addr × Obj)} {σ : St} {H : Hp} {s : Shared} {a C : Addr} {d : Option Addr} (I : Inv (cxOf (CX1 P w) P w K mg base N qual scope f cd A outer s₀ H₀ E) pins σ H s)
    (hd : H a = some (newO a C d)) (n0 : s₀.heap.get? a = none) (q : E (.ref C) d (del H a)) : (cxOf (CX1 P w) P w K mg base N qual scope f cd A outer s₀ H₀ E).xe (.ref a) s := by
  have hfr : (envOfC qual scope s₀.heap.objs.size f cd).frame = some s₀.heap.objs.size := rfl
  have hstk : s.heap.FunFrames base (envOfC qual scope s₀.heap.objs.size f cd :: outer) := I.stack
  obtain ⟨t, et⟩ := newO_get (I.hok a _ hd)
  have nfr : a ∉ frs (envOfC qual scope s₀.heap.objs.size f cd :: outer) := fun z => by
    have := I.stkFree a z
    rw [hd] at this
    cases this
  have hin : ∀ env ∈ (envOfC qual scope s₀.heap.objs.size f cd :: outer), ∀ b, env.frame = some b → b ∈ a :: frs (envOfC qual scope s₀.heap.objs.size f cd :: outer) := fun env he b hb => .tail _ (List.mem_filterMap.mpr ⟨env, he, hb⟩)
  have hB := PySem.W.funFrames_hide hstk hin
  have hBa : (PySem.W.hideAll s.heap (a :: frs (envOfC qual scope s₀.heap.objs.size f cd :: outer))).get? a = none := PySem.W.hideAll_none _ (.head _)
  generalize hBB : PySem.W.hideAll s.heap (a :: frs (envOfC qual scope s₀.heap.objs.size f cd :: outer)) = B at hB hBa
  have inB : ∀ b o, s.heap.get? b = some o → b ≠ a → b ∉ frs (envOfC qual scope s₀.heap.objs.size f cd :: outer) → B.get? b = some o := fun b o e n1 n => by
    rw [← hBB]
    refine PySem.W.hideAll_get _ e fun z => ?_
    rcases List.mem_cons.mp z with z | z
    · exact n1 z
    · exact n z
  have ofB : ∀ b o, B.get? b = some o → s.heap.get? b = some o := fun b o e => by rw [← hBB] at e; exact PySem.W.of_hideAll _ e
  show wpAny _ _ (leaving _ (.ref a)) _ _ _
  refine leave_first (B := B) (outer := outer) (s := s) I.ok.frames hB hfr et (fun b o e => ofB b o e) hBa rfl rfl fun h' x y => ?_
  have b2 : ∀ b u, del H a b = some u → ∃ o, B.get? b = some o := fun b u e => by
    obtain ⟨hb, e⟩ := del_some e
    obtain ⟨o, eo⟩ := (I.hok b u e).ex
    refine ⟨o, inB b o eo hb fun z => ?_⟩
    have := I.stkFree b z
    rw [this] at e
    cases e
  have J := I.flown2 (s1 := s) (H' := del H a) rfl I.bare (un_del hd) (hok_del I.hok hd) (fun b o e => ofB b o e) (fun b o e hb n => inB b o e (by intro z; subst z; rw [hd] at n; cases n) hb) b2 (fun b o e => by
    by_cases hb : b ∈ frs (envOfC qual scope s₀.heap.objs.size f cd :: outer)
    · exact .inl hb
    · by_cases hba : b = a
      · subst hba
        obtain ⟨ox, ws, e1, _⟩ := x.obj
        exact .inr (.inr ⟨ox, e1⟩)
      · exact .inr (.inl ⟨o, inB b o e hba hb⟩)) x.stays y
  have nL : ∀ b o, s₀.heap.get? b = some o → b ∉ frs outer → b ∉ frs (envOfC qual scope s₀.heap.objs.size f cd :: outer) := fun b o e hb z => by
    rw [frs_cons hfr] at z
    rcases List.mem_cons.mp z with z | z
    · exact absurd (Heap.lt_size e) (by rw [z]; exact Nat.lt_irrefl _)
    · exact hb z
  have nA : ∀ b o, s₀.heap.get? b = some o → b ≠ a := fun b o e z => by rw [z, n0] at e; cases e
  refine ⟨a, .ref C, d, B, del H a, rfl, J.os, J.bare, J.base, J.hok, x, del_same, fun b o e hb n => ?_, b2, fun b o e => ?_, q⟩
  · exact inB b o (I.base.keep b o e n hb (by intro z; cases z)) (nA b o e) (nL b o e hb)
  · obtain ⟨o', e'⟩ := I.base.there b o e (by intro z; cases z)
    by_cases hb : b ∈ frs outer
    · exact .inl hb
    · exact .inr ⟨o', inB b o' e' (nA b o e) (nL b o e hb)⟩

/-- what the text says of a class that is raised and has an own __init__ at fI -/
structure XRaise (K : PySem.W.Frag) (C fI : Addr) : Prop where
  obj : ∃ nm qn NN bs bm hd sn sub ab col dd k0 k1 k2 k3 k5, K.lookup C = some (excClassObj nm qn C NN bs bm hd sn sub ab col dd k0 k1 k2 k3 k5 "ValueError.__new__") ∧ PySem.W.tailIn K bmVE bm = true
  init : PySem.W.findIn K (.ref C) "__init__" = some (some (.ref fI))
  fn : PySem.W.typeIn K (.ref fI) = some (.type "function")
def tRaiseI (C : Addr) (sp : Sp) (E : XK) (t : TA) : TS := fun _ σ H => t σ H fun vs H1 => vs.length ≤ sizeLine ∧ ∀ a, H1 a = none →
  sp (.ref a :: vs) (upd H1 a (newO a C none)) (fun v H2 => v = .non ∧ ∃ d, H2 a = some (newO a C d) ∧ E (.ref C) d (del H2 a)) E0
theorem ps_raiseI {x : Str} {C fI : Addr} {fd : FuncData} {ps : List Str} {sp : Sp} {k : Nat} {e : Expr} {es : List Expr} {t : TA} {np cpos pos : Pos} (hg : Gl (cxOf (CX1 P w) P w K mg base N qual scope f cd A outer s₀ H₀ E) x) (hm : mg x = some (.ref C)) (R : XRaise K C fI)
    (G : FnOk P w K mg base CX0 k fI fd ps sp) (hr : Room (k + 1) (cxOf (CX1 P w) P w K mg base N qual scope f cd A outer s₀ H₀ E).A) (hb : Binds K fd ps [])
    (ha : PA (cxOf (CX1 P w) P w K mg base N qual scope f cd A outer s₀ H₀ E) (e :: es) t) (hdb : (x == ("__debug__" : Str)) = false := by decide)
    (he : starEach (e :: es) (cxOf (CX1 P w) P w K mg base N qual scope f cd A outer s₀ H₀ E).env = (false, eval e (cxOf (CX1 P w) P w K mg base N qual scope f cd A outer s₀ H₀ E).env) :: starEach es (cxOf (CX1 P w) P w K mg base N qual scope f cd A outer s₀ H₀ E).env := by rfl)
    (hpl : (backTo cpos (starEach es (cxOf (CX1 P w) P w K mg base N qual scope f cd A outer s₀ H₀ E).env)).any (·.1) = false := by rfl) :
    PS (cxOf (CX1 P w) P w K mg base N qual scope f cd A outer s₀ H₀ E) (.Raise (some (.Call (.Name x np) (e :: es) [] cpos)) none pos) (tRaiseI C sp E t) := by
  intro pins s σ H D I h
  obtain ⟨nm, qn, NN, bs, bm, hdd, sn, sub, ab, col, dd, k0, k1, k2, k3, k5, lC, ht⟩ := R.obj
  have hbase : bm.contains (.type "BaseException") = true := (PySem.W.tail_of_in I.kIn ht).hasType (by decide)
  refine Raise_init (K := K) (C := C) (nm := nm) (q := qn) (N := NN) (bs := bs) (bm := bm) (hdct := hdd) (sn := sn) (sub := sub) (ab := ab) (col := col) (dd := dd) (k0 := k0) (k1 := k1) (k2 := k2) (k3 := k3) (k5 := k5) (newId := "ValueError.__new__")
    PySem.F.excBase_ValueError (by decide : bmVE.contains (.type "ValueError") = true) PySem.F.excBase_ValueError hbase (I.ok.hd rfl) ?_ R.init R.fn (ld_glob I hg hm ⟨rfl, ?_⟩ hdb)
  · rw [he]
    show (false || (backTo cpos (starEach es _)).any (·.1)) = false
    rw [hpl]
    rfl
  · have hp := ha cpos pins s σ H _ I h
    rw [he] at hp ⊢
    refine Calls.evalArgs_plain (thn hp ?_)
    rintro us s2 ⟨vs, H1, I2, r, hz, q⟩
    refine ⟨rfl, by rw [← r.length]; exact hz, I2.kIn _ _ lC, I2.kIn, PySem.W.tail_of_in I2.kIn ht, ?_⟩
    have I3 : Inv (cxOf (CX1 P w) P w K mg base N qual scope f cd A outer s₀ H₀ E) pins σ (upd H1 (s2.heap.objs.size + 1) (newO (s2.heap.objs.size + 1) C none)) { s2 with heap := excHeap s2.heap C us } := by
      have J := I2.kept (h' := s2.heap.push { cls := .type "tuple", data := .seq us.toArray }) (t' := s2.toks) fun b o e => Heap.get?_push_of_some _ e
      refine J.laid (a := s2.heap.objs.size + 1) (h' := excHeap s2.heap C us) (t' := s2.toks) (fun b o e => Heap.get?_push_of_some _ e) (Nat.le_of_eq (Heap.size_push _ _)) (newO_ok ⟨s2.heap.objs.size, ?_⟩)
      exact Heap.get?_push_at (by rw [Heap.size_push]) rfl
    have nA : H1 (s2.heap.objs.size + 1) = none := I2.hok.fresh (Nat.le_succ _)
    have hq := q _ nA
    have r2 : Vals (V.ref (s2.heap.objs.size + 1) :: vs) (Value.ref (s2.heap.objs.size + 1) :: us) := .cons rfl r
    have hl : ((Value.ref (s2.heap.objs.size + 1) :: us) ++ []).length = ps.length := by
      rw [List.append_nil, ← r2.length]
      exact G.len _ _ _ _ hq
    have hbd := hb { s2 with heap := excHeap s2.heap C us } (Value.ref (s2.heap.objs.size + 1) :: us) I3.kIn hl
    rw [List.append_nil] at hbd
    refine wpAny_call (codeAny_mono (G.run _ (cxOf (CX1 P w) P w K mg base N qual scope f cd A outer s₀ H₀ E).stack _ _ ⟨Value.ref (s2.heap.objs.size + 1) :: us, []⟩ (Value.ref (s2.heap.objs.size + 1) :: us) _ _ _ (hr.make C us []) (I3.env0.make C us []) hbd r2 hq) fun r s' hq' => ?_)
    cases r with
    | error e => exact False.elim hq'
    | ok fl =>
      cases fl with
      | ret u =>
        obtain ⟨v, H4, I4, rv, ev, d, hd, q4⟩ := I3.after hq'
        subst ev
        have n0 : s₀.heap.get? (s2.heap.objs.size + 1) = none := Heap.get?_none_of_le (Nat.le_trans I2.sz (Nat.le_succ _))
        obtain ⟨t, et⟩ := newO_get (I4.hok _ _ hd)
        exact ⟨rv, I4.kIn _ _ lC, ⟨t, d, et⟩, leaves_any I4 hd n0 q4⟩
      | next => exact False.elim hq'
      | brk => exact False.elim hq'
      | cont => exact False.elim hq'
end

section
variable {X : Cx}
/-- the dict of an exception that is caught: it has none, or a tracked one -/
def XDict (H : Hp) (d : Option Addr) : Prop := d = none ∨ ∃ dx fs, d = some dx ∧ H dx = some (xdO dx fs)
/-- e.f of an exception that was caught -/
def tXFld (K : PySem.W.Frag) (ta : TE) (f : Str) : TE := fun σ H Q => ta σ H fun x H1 => ∃ a C dx fs v, x = .ref a ∧ H1 a = some (excO a (.ref C) (some dx)) ∧ H1 dx = some (xdO dx fs) ∧ ExcK K C ∧ XCls K C ∧ XNo K C f ∧ fs.lookup f = some v ∧ Q v H1
theorem pe_xfld {e : Expr} {f : Str} {pos : Pos} {ta : TE} (he : PE X e ta) (hb : attributeBase e f X.env (eval e X.env) = eval e X.env := by rfl) : PE X (.Attribute e f pos) (tXFld X.K ta f) := by
  intro pins s σ H Q I h
  refine attr_of hb (thn (he pins s σ H _ I h) ?_)
  rintro u s1 ⟨x, H1, I1, rx, a, C, dx, fs, v, rfl, hH, hx, k, c, n, l, q⟩
  obtain rfl : u = Value.ref a := rx
  obtain ⟨⟨ox, ws, e1, e2, e3, e4⟩, _, _⟩ := (show ObjOk X.prog X.w H1 s1.heap a (excO a (.ref C) (some dx)) from I1.hok a _ hH)
  obtain ⟨mA, hn, r⟩ := xdO_get (I1.hok dx _ hx)
  obtain ⟨od, ho, hl⟩ := lookIn_ns hn
  have hI : PySem.W.InstAt s1.heap a ox C (some od) := ⟨e1, e2, by unfold PySem.W.notCls; rw [e4], by rw [e3]; exact ho⟩
  obtain ⟨cd, c1, c2, c3⟩ := c.cd
  have rv := r f
  rw [l] at rv
  obtain ⟨u, hu, ru⟩ := rv.some_of
  have hf : PySem.W.findObj X.K C (some od) f = some (.value u) := by
    unfold PySem.W.findObj
    rw [c1, Option.bind_some, n, Option.bind_some]
    simp only [Option.bind_some, PySem.W.ownOf, c3, hl f, hu, if_true]
  exact exc_attr I1.kIn hI k.hm hf k.hga k.hgn ⟨handed_of ru, ⟨v, H1, I1.tok _, ru, q⟩⟩
end
end L2

set_option Elab.async false
set_option linter.all false
set_option maxRecDepth 100000
namespace L2
open PySem PySem.Spec PyProof.Rows

/-! ### lists of pairs as tables -/
section
variable {κ : Type} [DecidableEq κ]
def valV (kvs : List (κ × V)) (k : κ) : Option V := (kvs.find? fun kv => decide (kv.1 = k)).map (·.2)
/-- in its place, or at the end -/
def putK (kvs : List (κ × V)) (k : κ) (v : V) : List (κ × V) :=
  if (kvs.any fun kv => decide (kv.1 = k)) = true then kvs.map (fun kv => if kv.1 = k then (kv.1, v) else kv) else kvs ++ [(k, v)]
def dropK (kvs : List (κ × V)) (k : κ) : List (κ × V) := kvs.filter fun kv => decide (kv.1 ≠ k)

end


/-! ### a tracked dict, its keys ints and texts or tuples of these -/
/-- raw entries of a dict with tuple keys -/
abbrev KT (H : Hp) : List (List Key × V) → List (List Key × Addr × Value) → Prop := Paired fun p q => p.1 = q.1 ∧ H q.2.1 = some (.tup (p.1.map kV)) ∧ RelV p.2 q.2.2
section
variable {P : Program} {w : World} {H : Hp} {h : Heap} {a : Addr}
end

/-- what the dict at a holds at the key y -/
def DGet (H : Hp) (a : Addr) (y : V) (r : Option V) : Prop :=
  (∃ kvs k, Rd H a (.dK kvs) ∧ y = kV k ∧ r = valV kvs k) ∨ ∃ kvs k b, Rd H a (.dT kvs) ∧ y = .ref b ∧ H b = some (.tup (k.map kV)) ∧ r = valV kvs k
/-- the heap behind a[y] = v -/
def DPut (H : Hp) (a : Addr) (y v : V) (H' : Hp) : Prop :=
  (∃ kvs k, H a = some (.dK kvs) ∧ y = kV k ∧ kvs.length < sizeLine ∧ H' = upd H a (.dK (putK kvs k v))) ∨
  ∃ kvs k b, H a = some (.dT kvs) ∧ y = .ref b ∧ H b = some (.tup (k.map kV)) ∧ kvs.length < sizeLine ∧ H' = upd H a (.dT (putK kvs k v))
section
variable {X : Cx} {pins : List (Addr × Obj)} {σ : St} {H : Hp} {s : Shared} {a : Addr} {y v : V} {u r : Value} {o : Option V} {A : Around} {E : Value → Shared → Prop}

end

section
variable {X : Cx} {pins : List (Addr × Obj)} {σ : St} {H : Hp} {s : Shared} {a : Addr} {kvs : List (Key × V)} {k : Key} {u : Value} {A : Around} {E : Value → Shared → Prop}
end


/-! ### readings and rules -/
/-- the element of a subscription, not a slice -/
def NoSl (i : Expr) : Prop := ∀ ov iv, subscripted i false ov iv = operate [ov, iv] (getItem ov iv)
/-- d[y] -/
def tDGet (td ty : TE) : TE := fun σ H Q => td σ H fun x H1 => ty σ H1 fun y H2 => ∃ a v, x = .ref a ∧ DGet H2 a y (some v) ∧ Q v H2
/-- y in d, y not in d -/
def tDIn (ty td : TE) : TE := fun σ H Q => ty σ H fun y H1 => td σ H1 fun x H2 => ∃ a o, x = .ref a ∧ DGet H2 a y o ∧ Q (.bl o.isSome) H2
def tDNotIn (ty td : TE) : TE := fun σ H Q => ty σ H fun y H1 => td σ H1 fun x H2 => ∃ a o, x = .ref a ∧ DGet H2 a y o ∧ Q (.bl (!o.isSome)) H2
/-- d[y] = v -/
def sDPut (td ty tv : TE) : TS := fun D σ H => tv σ H fun v H1 => td σ H1 fun x H2 => ty σ H2 fun y H3 => ∃ a H4, x = .ref a ∧ DPut H3 a y v H4 ∧ D.nx σ H4
/-- d[y] op= v -/
def sDAug (td ty tv : TE) (rd : V → V → Hp → VK → Prop) : TS := fun D σ H => td σ H fun x H1 => ty σ H1 fun y H2 => ∃ a v, x = .ref a ∧ DGet H2 a y (some v) ∧
  tv σ H2 fun y2 H3 => rd v y2 H3 fun z H4 => ∃ H5, DPut H4 a y z H5 ∧ D.nx σ H5
/-- del d[y] -/
def sDDel (td ty : TE) : TS := fun D σ H => td σ H fun x H1 => ty σ H1 fun y H2 => ∃ a kvs k, x = .ref a ∧ H2 a = some (.dK kvs) ∧ y = kV k ∧ (valV kvs k).isSome = true ∧ D.nx σ (upd H2 a (.dK (dropK kvs k)))

section
variable {X : Cx} {o i e value : Expr} {pos pos' tpos : Pos} {td ty tv : TE}
end


/-! ### displays -/
/-- {}, to be a dict of the kind that is wanted -/
def tDNewK : TE := fun _ H Q => ∀ p, H p = none → Q (.ref p) (upd H p (.dK []))
def tDNewT : TE := fun _ H Q => ∀ p, H p = none → Q (.ref p) (upd H p (.dT []))
section
variable {X : Cx} {pos : Pos}
end

/-- the pairs of a display, from the left -/
def tPairs : List (TE × TE) → St → Hp → (List (V × V) → Hp → Prop) → Prop
  | [], _, H, Q => Q [] H
  | (tk, tv) :: r, σ, H, Q => tk σ H fun x H1 => tv σ H1 fun y H2 => tPairs r σ H2 fun ps H3 => Q ((x, y) :: ps) H3
abbrev VV : List (V × V) → List (Value × Value) → Prop := Paired fun p q => RelV p.1 q.1 ∧ RelV p.2 q.2
def PPs (X : Cx) (pos : Pos) (keys : List (Option Expr)) (values : List Expr) (trs : List (TE × TE)) : Prop :=
  ∀ (pins : List (Addr × Obj)) (s : Shared) (σ : St) (H : Hp) (Q : List (V × V) → Hp → Prop), Inv X pins σ H s → tPairs trs σ H Q →
    wpAny (model X.prog X.w) X.A (evalPairs (pairTrees keys values X.env pos)) (fun vs s' => ∃ ps H', Inv X pins σ H' s' ∧ VV ps vs ∧ Q ps H') X.xe s
def mergeK (kvs more : List (Key × V)) : List (Key × V) := more.foldl (fun acc kv => putK acc kv.1 kv.2) kvs
/-- {k: v, ..} with keys ints and texts; the new dict stands empty while the pairs are made -/
def tDisp (trs : List (TE × TE)) : TE := fun σ H Q => ∀ p, H p = none → tPairs trs σ (upd H p (.dK [])) fun ps H2 => H2 p = some (.dK []) ∧ ∃ kvs : List (Key × V), ps = kvs.map (fun kv => (kV kv.1, kv.2)) ∧ kvs.length ≤ 15 ∧ Q (.ref p) (upd H2 p (.dK (mergeK [] kvs)))
/-! ### methods -/
/-- a method call o.m(e) of a built-in, with one argument: what must be seen of the text -/
structure M1 (X : Cx) (o : Expr) (m : Str) (apos : Pos) (e : Expr) (cpos : Pos) : Prop where
  base : attributeBase o m X.env (eval o X.env) = eval o X.env
  few : ((backTo cpos (starEach [e] X.env)).all (fun x => !x.1) && (backToKw cpos (keywordEach [] X.env)).all (fun x => x.1.isSome)
    && decide (([e] : List Expr).length + ([] : List Keyword).length + (if ([] : List Keyword).isEmpty then 0 else 1) < 30)) = true
  line : (apos.endLine == cpos.line) = true
  trees : backTo cpos (starEach [e] X.env) = [(false, eval e X.env)]
structure M2 (X : Cx) (o : Expr) (m : Str) (apos : Pos) (e f : Expr) (cpos : Pos) : Prop where
  base : attributeBase o m X.env (eval o X.env) = eval o X.env
  few : ((backTo cpos (starEach [e, f] X.env)).all (fun x => !x.1) && (backToKw cpos (keywordEach [] X.env)).all (fun x => x.1.isSome)
    && decide (([e, f] : List Expr).length + ([] : List Keyword).length + (if ([] : List Keyword).isEmpty then 0 else 1) < 30)) = true
  line : (apos.endLine == cpos.line) = true
  trees : backTo cpos (starEach [e, f] X.env) = [(false, eval e X.env), (false, eval f X.env)]

/-- a is a dict, whatever its keys -/
def IsD (H : Hp) (a : Addr) : Prop := (∃ kvs, Rd H a (.dK kvs)) ∨ ∃ kvs, Rd H a (.dT kvs)
section
variable {X : Cx} {pins : List (Addr × Obj)} {σ : St} {H : Hp} {s : Shared} {a : Addr} {y d : V} {u r : Value} {o : Option V} {A : Around} {E : Value → Shared → Prop}
end

def tDGet1 (td ty : TE) : TE := fun σ H Q => td σ H fun x H1 => ∃ a, x = .ref a ∧ IsD H1 a ∧ ty σ H1 fun y H2 => ∃ o, DGet H2 a y o ∧ Q (o.getD .non) H2
def tDGet2 (td ty tx : TE) : TE := fun σ H Q => td σ H fun x H1 => ∃ a, x = .ref a ∧ IsD H1 a ∧ ty σ H1 fun y H2 => tx σ H2 fun z H3 => ∃ o, DGet H3 a y o ∧ Q (o.getD z) H3
/-- d.pop(k): there; d.pop(k, x): there or not -/
def tDPop1 (td ty : TE) : TE := fun σ H Q => td σ H fun x H1 => ∃ a, x = .ref a ∧ IsD H1 a ∧ ty σ H1 fun y H2 => ∃ kvs k v, H2 a = some (.dK kvs) ∧ y = kV k ∧ valV kvs k = some v ∧ Q v (upd H2 a (.dK (dropK kvs k)))
def tDPop2 (td ty tx : TE) : TE := fun σ H Q => td σ H fun x H1 => ∃ a, x = .ref a ∧ IsD H1 a ∧ ty σ H1 fun y H2 => tx σ H2 fun z H3 => ∃ kvs k, H3 a = some (.dK kvs) ∧ y = kV k ∧
  (∀ v, valV kvs k = some v → Q v (upd H3 a (.dK (dropK kvs k)))) ∧ (valV kvs k = none → Q z H3)
section
variable {X : Cx} {o e f : Expr} {apos cpos : Pos} {td ty tx : TE}
end

/-! ### dict(d): a copy -/
section
variable {X : Cx} {pins : List (Addr × Obj)} {σ : St} {H : Hp} {s : Shared} {a : Addr} {kvs : List (Key × V)} {A : Around} {E : Value → Shared → Prop}
end


section
variable {X : Cx} {pins : List (Addr × Obj)} {σ : St} {H : Hp} {s : Shared} {a : Addr} {y : V} {u : Value} {A : Around} {E : Value → Shared → Prop}
end
end L2

namespace L2
open PySem PySem.Spec PyProof.Rows
section
variable {X : Cx}
end
/-! ### a dict's pairs: keys that differ -/
section
variable {κ : Type} [DecidableEq κ]
end
end L2

set_option linter.all false
set_option maxRecDepth 100000
set_option maxHeartbeats 4000000
/-! for i, x in enumerate(a list); join. -/
namespace L2
open PySem PySem.Spec PyProof.Rows
section
variable {X : Cx} {pins : List (Addr × Obj)} {σ : St} {H : Hp} {s : Shared} {h' : Heap}
/-- untracked records of ours have turned -/
theorem Inv.turnedL {t' : Nat} {ch : List Addr} (I : Inv X pins σ H s) (k : ∀ b o, b ∉ ch → s.heap.get? b = some o → h'.get? b = some o) (hf : ∀ b ∈ ch, FpOk X pins H b) : Inv X pins σ H { s with heap := h', toks := t' } := by
  have nit : ∀ b u, H b = some u → b ∉ ch := fun b u e z => by rw [(hf b z).1] at e; cases e
  refine I.step (g' := s.gens) (d' := s.drawn) (ch := ch) (fun b hb => ⟨(hf b hb).2.2.2.1, (hf b hb).2.1, (hf b hb).2.2.2.2.1, (hf b hb).2.2.2.2.2⟩) (fun b o _ _ hc e _ => k b o hc e) (fun b o _ _ hc e _ => ⟨o.slots, k b o hc e⟩) (fun _ _ _ _ n => n)
    (fun b o hc e => ⟨o, k b o hc e⟩) (fun _ _ e => e) (fun _ _ _ e => e) (fun b ps e => ⟨#[], by rw [e]; simp⟩) (fun m hm => ?_) (fun b u e => ?_) I.bare
  · obtain ⟨o, es, ep, ho, r⟩ := hm
    exact ⟨o, es, ep, k _ o (fun z => (hf _ z).2.1 rfl) ho, r⟩
  · refine (I.hok b u e).stay (fun c v hc q => k c v ?_ q) (fun _ q => q) fun _ _ q => q
    rcases hc with z | z
    · rw [z]; exact nit b u e
    · exact nit c _ z
end

def Ite (K : PySem.W.Frag) (a : Addr) : It :=
  ⟨fun i H => ∃ xs x, SqL K H a xs ∧ xs[i]? = some x, fun i H x H' => ∃ p v, x = .ref p ∧ H p = none ∧ H' = upd H p (.tup [.int (i : Int), v]) ∧ ∀ xs, SqL K H a xs → xs[i]? = some v, fun i H => ∃ xs, SqL K H a xs ∧ xs.length ≤ i⟩
theorem turn_enum {P : Program} {w : World} {K : PySem.W.Frag} {elts : List Expr} {x1} {pos : Pos} (a e it : Addr) (hne : e ≠ it) :
    Turn P w K (.Tuple elts x1 pos) (Ite K a) [e, it] e (fun i h => ∃ old, IsEnum h e it (i : Int) old ∧ h.IsListIter it a i) where
  mem := by simp
  obj := fun i h st b hb => by
    obtain ⟨old, he, o, e1, c, d⟩ := st
    have hb' : b = e ∨ b = it := by simpa using hb
    rcases hb' with rfl | rfl
    · exact ⟨_, he, fun v z => by
        have z' : Data.fields _ = Data.cell v := z
        cases z'⟩
    · exact ⟨o, e1, fun v z => by rw [d] at z; cases z⟩
  keep := fun i h h' st k => by
    obtain ⟨old, he, hi⟩ := st
    exact ⟨old, k e (by simp) _ he, hi.at fun o q => k it (by simp) o q⟩
  item := by
    intro X hP hw hK hc i pins s σ H E I hf st hg
    subst hP hw hK
    obtain ⟨xs, x, hq, hx⟩ := hg
    obtain ⟨old, he, hit⟩ := st
    obtain ⟨its, rv, p, hz⟩ := I.list hq
    obtain ⟨u, hu, ru⟩ := rv.get hx
    refine wpAny_pyNext_enum_item he hit p.isList (x := u) (by simpa using hu) hne fun h1 eo hit1 ht hz1 hk1 => ?_
    refine ⟨_, rfl, wpAny_letOwnedTupleGo_enum (s := { s with heap := h1, toks := s.toks + 1 }) eo fun h2 he2 hs2 => ?_⟩
    have hs2' : Heap.SameBut e h1 h2 := hs2
    have nH : H s.heap.objs.size = none := I.hok.fresh (Nat.le_refl _)
    have eL : e < s.heap.objs.size := Heap.lt_size he
    obtain ⟨oi, hoi, ci, di⟩ := id hit
    have iL : it < s.heap.objs.size := Heap.lt_size hoi
    have ht2 : h2.get? s.heap.objs.size = some { cls := .type "tuple", data := .seq #[.int i s.toks, u] } := (hs2'.2 _ (Nat.ne_of_gt eL)).trans ht
    have pg : (s.heap.push { cls := .type "tuple", data := .seq #[.int i s.toks, u] }).get? s.heap.objs.size = some { cls := .type "tuple", data := .seq #[.int i s.toks, u] } := Heap.get?_push_size _ rfl
    have J1 := I.laid (a := s.heap.objs.size) (o := .tup [.int (i : Int), x]) (h' := s.heap.push { cls := .type "tuple", data := .seq #[.int i s.toks, u] }) (t' := s.toks) (fun b v z => Heap.get?_push_of_some _ z) (Nat.le_refl _)
      ⟨(by show 2 ≤ sizeLine; decide), [.int i s.toks, u], .cons ⟨_, rfl⟩ (.cons ru .nil), ⟨_, pg, rfl, _, rfl⟩⟩
    have fp' : ∀ b ∈ [e, it], FpOk X pins (upd H s.heap.objs.size (.tup [.int (i : Int), x])) b := fun b hb => by
      obtain ⟨f0, f1, f2, f3, f4, f5⟩ := hf b hb
      have hb' : b = e ∨ b = it := by simpa using hb
      refine ⟨?_, f1, f2, f3, f4, f5⟩
      rw [upd_ne (by rcases hb' with rfl | rfl; exact Nat.ne_of_lt eL; exact Nat.ne_of_lt iL)]
      exact f0
    have J2 := J1.turnedL (h' := h2) (t' := s.toks + 1) (ch := [e, it]) (fun b o hb z => by
      have n1 : b ≠ e := fun y => hb (by simp [y])
      have n2 : b ≠ it := fun y => hb (by simp [y])
      by_cases hp : b = s.heap.objs.size
      · subst hp
        have z' : s.heap.objs.size = s.heap.objs.size → (s.heap.push { cls := .type "tuple", data := .seq #[.int i s.toks, u] }).get? s.heap.objs.size = some o := fun _ => z
        rw [pg] at z'
        have := z' rfl
        cases this
        exact ht2
      · have z2 : s.heap.get? b = some o := get_push_ne z hp
        exact (hs2'.2 b n1).trans (hk1 b o n1 n2 z2)) fp'
    refine ⟨.ref s.heap.objs.size, _, J2, rfl, ⟨_, x, rfl, nH, rfl, fun ys hy => by rw [I.list_inj hy hq]; exact hx⟩, ⟨u, ?_, ?_⟩, fun b hb => (fp' b hb).1⟩
    · have e1 : ((i : Int) + 1) = ((i + 1 : Nat) : Int) := by omega
      rw [← e1]
      exact he2
    · exact hit1.at fun o q => (hs2'.2 it (Ne.symm hne)).trans q
  done := by
    intro X hP hw hK hc i pins s σ H E I hf st hg
    subst hP hw hK
    obtain ⟨xs, hq, hx⟩ := hg
    obtain ⟨old, he, hit⟩ := st
    obtain ⟨its, rv, p, hz⟩ := I.list hq
    have hl := rv.length
    refine wpAny_pyNext_enum_end (I.ok.hd hc) he hit p.isList (by simp; omega) fun h' eb => ⟨rfl, I.turnedL (t' := s.toks) (ch := [e, it]) (fun b o hb z => eb b o (fun y => hb (by simp [y])) z) hf⟩
  self := fun _ _ _ _ _ st h => by
    obtain ⟨old, he, _⟩ := st
    exact wpAny_pyIter_enum he h
def iEnum (K : PySem.W.Frag) (ta : TA) : TI := fun σ H R => ta σ H fun vs H1 => ∃ a, vs = [.ref a] ∧ (∃ xs, SqL K H1 a xs) ∧ R (Ite K a) H1
section
variable {X : Cx}
theorem pi_enum {elts : List Expr} {x1} {tpos p pos : Pos} {a : Expr} {ta : TA} (hg : Gl X "enumerate") (hm : X.mg "enumerate" = none) (hbt : bootBuiltins "enumerate" = some (.type "enumerate")) (ha : PA X [a] ta) (hs : starEach [a] X.env = [(false, eval a X.env)] := by rfl) :
    PI X (.Tuple elts x1 tpos) (.Call (.Name "enumerate" p) [a] [] pos) (iEnum X.K ta) := by
  intro pins s σ H R I h
  refine Call_ (ld_blt I hg hm hbt (PyProof.Rows.callWith_type1 (thn (ha pos pins s σ H _ I h) fun us s1 ⟨vs, H1, I1, r1, q1⟩ => ?_) hs rfl))
  obtain ⟨a, rfl, ⟨xs, hq⟩, q⟩ := q1
  obtain ⟨u, rfl, ru⟩ := vals1 r1
  cases ru
  obtain ⟨its, rv, pl, hz⟩ := I1.list hq
  refine call_enumerate_list pl.isList fun h' he hi hsz hk => ?_
  refine wpAny_pyIter_enum he ?_
  have I2 : Inv X pins σ H1 { s1 with heap := h' } := I1.kept (t' := s1.toks) hk
  refine ⟨s1.heap.objs.size + 1, [s1.heap.objs.size + 1, s1.heap.objs.size], _, _, H1, rfl, I2, turn_enum a _ _ (Nat.succ_ne_self _), ⟨_, he, hi⟩, fun b hb => ?_, q⟩
  have hb' : b = s1.heap.objs.size + 1 ∨ b = s1.heap.objs.size := by simpa using hb
  rcases hb' with rfl | rfl
  · exact I1.fpOk (Nat.le_succ _) (I1.hok.fresh (Nat.le_succ _))
  · exact I1.fpOk (Nat.le_refl _) (I1.hok.fresh (Nat.le_refl _))
theorem for_enum {K : PySem.W.Frag} {a : Addr} {xs : List V} {g : TG} {tb : TS} {D : Ends} {σ : St} {H : Hp} (Pv : Nat → St → Hp → Prop) (h0 : Pv 0 σ H) (hl : ∀ i σ H, i ≤ xs.length → Pv i σ H → SqL K H a xs)
    (hs : ∀ i x σ H p, xs[i]? = some x → Pv i σ H → H p = none → g (.ref p) σ (upd H p (.tup [.int (i : Int), x])) fun σ2 H2 => tb { D with nx := Pv (i + 1), ct := Pv (i + 1), bk := D.nx } σ2 H2) (hd : ∀ σ H, Pv xs.length σ H → D.nx σ H) :
    ∃ W : Nat → Nat → St → Hp → Prop, (∃ m, W 0 m σ H) ∧ ∀ i m σ H, W i m σ H →
      ((Ite K a).stop i H ∧ D.nx σ H) ∨ ((Ite K a).go i H ∧ ∃ N : St → Hp → Prop, (∀ σ' H', N σ' H' → ∃ m', m' < m ∧ W (i + 1) m' σ' H') ∧ ∀ x H', (Ite K a).yld i H x H' → g x σ H' fun σ2 H2 => tb { D with nx := N, ct := N, bk := D.nx } σ2 H2) := by
  refine ⟨fun i m σ H => m = xs.length - i ∧ i ≤ xs.length ∧ Pv i σ H, ⟨xs.length, by simp, Nat.zero_le _, h0⟩, ?_⟩
  rintro i m σ H ⟨rfl, hi, p⟩
  have q := hl i σ H hi p
  by_cases hlt : i < xs.length
  · refine .inr ⟨⟨xs, xs[i], q, by simp [hlt]⟩, Pv (i + 1), fun σ' H' p' => ⟨xs.length - (i + 1), by omega, rfl, hlt, p'⟩, fun x H' y => ?_⟩
    obtain ⟨pp, v, rfl, hn, rfl, y⟩ := y
    exact hs i v σ H pp (y xs q) p hn
  · have e : i = xs.length := by omega
    subst e
    exact .inl ⟨⟨xs, q, Nat.le_refl _⟩, hd σ H p⟩
end
end L2

set_option linter.all false
set_option maxRecDepth 100000
set_option maxHeartbeats 4000000
namespace L2
open PySem PySem.Spec PyProof.Rows
section
variable {X : Cx}
def rJoin (K : PySem.W.Frag) : V → List V → Hp → VK → Prop := fun x vs H Q => ∃ z p l, x = .str z ∧ vs = [.ref p] ∧ SqL K H p (l.map V.str) ∧ JoinOk z l = true ∧ Q (.str (Txt.join z l)) H
end
end L2

set_option linter.all false
set_option maxRecDepth 100000
namespace L2
open PySem PySem.Spec PyProof.Rows
def nostar : Expr → Bool
  | .Starred _ _ => false
  | _ => true
theorem star_plain {e : Expr} {es : List Expr} {env : Env} (h : nostar e = true) : starEach (e :: es) env = (false, eval e env) :: starEach es env := by
  cases e <;> first | rfl | cases h
theorem any_plain {env : Env} {pos : Pos} : ∀ {es : List Expr}, es.all nostar = true → (backTo pos (starEach es env)).any (·.1) = false
  | [], _ => rfl
  | e :: es, h => by
    rw [List.all_cons, Bool.and_eq_true] at h
    rw [star_plain h.1]
    show (false || (backTo pos (starEach es env)).any (·.1)) = false
    rw [any_plain h.2]
    rfl
section
variable {X : Cx}
/-- a name in its slot, a plain local: the kernel looks it up -/
theorem pw' (i : Nat) {x : Str} {pos : Pos} (hN : X.N[i]? = some x := by kernel_rfl) (hv : X.env.scope.names.lookup x = some .local := by kernel_rfl) (hd : (x == ("__debug__" : Str)) = false := by kernel_rfl)
    (hcd : (x == ("__classdict__" : Str)) = false := by kernel_rfl) : PE X (.Name x pos) (tVar i) := pe_var hN (.inl hv) hd hcd
/-- .. a cell -/
theorem pc' (i : Nat) {x : Str} {pos : Pos} (hN : X.N[i]? = some x := by kernel_rfl) (hv : X.env.scope.names.lookup x = some .cell := by kernel_rfl) (hd : (x == ("__debug__" : Str)) = false := by kernel_rfl)
    (hcd : (x == ("__classdict__" : Str)) = false := by kernel_rfl) : PE X (.Name x pos) (tVar i) := pe_var hN (.inr (.inl hv)) hd hcd
theorem ps_setL {i : Nat} {x : Str} {e : Expr} {te : TE} {pos pos' : Pos} (hN : X.N.Nodup) (he : PE X e te) (hi : X.N[i]? = some x := by kernel_rfl) (hx : X.env.scope.names.lookup x = some .local := by kernel_rfl)
    (hs : swapsWith e (some (.Name x pos')) pos.line X.env = pure false := by kernel_rfl) : PS X (.Assign [.Name x pos'] e pos) (tAsg te (gName i)) := ps_set (i := i) hN hi (.inl hx) he hs (.inr hx)
theorem ps_setC {i : Nat} {x : Str} {e : Expr} {te : TE} {pos pos' : Pos} (hN : X.N.Nodup) (hfn : X.fn x = true) (he : PE X e te) (hi : X.N[i]? = some x := by kernel_rfl) (hx : X.env.scope.names.lookup x = some .cell := by kernel_rfl)
    (hs : swapsWith e (some (.Name x pos')) pos.line X.env = pure false := by kernel_rfl) : PS X (.Assign [.Name x pos'] e pos) (tAsg te (gName i)) := ps_set (i := i) hN hi (.inr hx) he hs (.inl hfn)
theorem pg_nameL {i : Nat} {x : Str} {pos : Pos} (hN : X.N.Nodup) (hi : X.N[i]? = some x := by kernel_rfl) (hx : X.env.scope.names.lookup x = some .local := by kernel_rfl) : PG X (.Name x pos) (gName i) := pg_name hN hi (.inl hx) (.inr hx)
theorem pa' {e : Expr} {es : List Expr} {te : TE} {t : TA} (ha : PE X e te) (hr : PA X es t) (hs : nostar e = true := by rfl) : PA X (e :: es) (tCons te t) := pa_cons ha hr (star_plain hs)
theorem pe_callE {CX : CXT} {j k : Nat} {ps : List Str} {sp : Sp} {E : XK} {x : Str} {p pos : Pos} {e : Expr} {es : List Expr} {t : TA} (D : Def X.prog X.w X.K X.mg X.base CX x j ps sp) (hr : Room k X.A) (hx : Passes CX X E) (ha : PA X (e :: es) t) (hj : j ≤ k := by decide) (hg : X.env.kindOf x = some .globalImplicit := by kernel_rfl)
    (hdb : (x == ("__debug__" : Str)) = false := by kernel_rfl) (he : nostar e = true := by rfl) (hpl : es.all nostar = true := by rfl) :
    PE X (.Call (.Name x p) (e :: es) [] pos) (tCall sp [] E t) := pe_callD D hr hx ha hj hg hdb (star_plain he) (any_plain hpl)
theorem pex_callE {j k : Nat} {ps : List Str} {sp : Sp} {x : Str} {p pos : Pos} {e : Expr} {es : List Expr} {t : TA} (D : Def X.prog X.w X.K X.mg X.base (CX1 X.prog X.w) x j ps sp) (hr : Room k X.A) (ha : PA X.nox (e :: es) t) (hj : j ≤ k := by decide) (hg : X.env.kindOf x = some .globalImplicit := by kernel_rfl)
    (hdb : (x == ("__debug__" : Str)) = false := by kernel_rfl) (he : nostar e = true := by rfl) (hpl : es.all nostar = true := by rfl) :
    PEX X (.Call (.Name x p) (e :: es) [] pos) (tCallX sp [] t) := pex_callD D hr ha hj hg hdb (star_plain he) (any_plain hpl)
theorem pb' {id : String} {r : List V → Hp → VK → Prop} {x : Str} {p pos : Pos} {e : Expr} {es : List Expr} {t : TA} (hc : CallR X (.builtin id) r) (hm : X.mg x = none) (hv : bootBuiltins x = some (.builtin id)) (ha : PA X (e :: es) t) (hg : X.env.kindOf x = some .globalImplicit := by kernel_rfl) (hn : x ≠ "__name__" := by decide) (hdb : (x == ("__debug__" : Str)) = false := by kernel_rfl)
    (he : nostar e = true := by rfl) (hpl : es.all nostar = true := by rfl) : PE X (.Call (.Name x p) (e :: es) [] pos) (tCB r t) := pe_callB hc hg hm hv ha hn hdb (star_plain he) (any_plain hpl)
theorem pt' {T : String} {r : List V → Hp → VK → Prop} {x : Str} {p pos : Pos} {e : Expr} {es : List Expr} {t : TA} (hc : CallR X (.type T) r) (hm : X.mg x = none) (hv : bootBuiltins x = some (.type T)) (ha : PA X (e :: es) t) (hg : X.env.kindOf x = some .globalImplicit := by kernel_rfl) (hn : x ≠ "__name__" := by decide) (hdb : (x == ("__debug__" : Str)) = false := by kernel_rfl)
    (he : nostar e = true := by rfl) (hpl : es.all nostar = true := by rfl) : PE X (.Call (.Name x p) (e :: es) [] pos) (tCB r t) := pe_callTy hc hg hm hv ha hn hdb (star_plain he) (any_plain hpl)
theorem pbl {x : Str} {v : V} {u : Value} {pos : Pos} (hm : X.mg x = none) (hv : bootBuiltins x = some u) (r : RelV v u) (hg : X.env.kindOf x = some .globalImplicit := by kernel_rfl) (hn : x ≠ "__name__" := by decide) (hd : (x == ("__debug__" : Str)) = false := by kernel_rfl) : PE X (.Name x pos) (tC v) := pe_bltn hg hm hv r hn hd
end
end L2

set_option linter.all false
set_option maxRecDepth 100000
set_option maxHeartbeats 4000000
set_option autoImplicit true
set_option relaxedAutoImplicit true
/-! The layer's rules behind plain structures: nothing unfolds while a term of rules is elaborated. -/
namespace L2
open PySem PySem.Spec PyProof.Rows
structure QE (X : Cx) (e : Expr) (t : TE) : Prop where
  h : PE X e t
structure QT (X : Cx) (e : Expr) (t : TT) : Prop where
  h : PT X e t
structure QW (X : Cx) (e : Expr) (t : TT) : Prop where
  h : PW X e t
structure QA (X : Cx) (es : List Expr) (t : TA) : Prop where
  h : PA X es t
structure QS (X : Cx) (st : Stmt) (t : TS) : Prop where
  h : PS X st t
structure QSs (X : Cx) (st : List Stmt) (t : TS) : Prop where
  h : PSs X st t
structure QG (X : Cx) (e : Expr) (t : TG) : Prop where
  h : PG X e t
structure QGs (X : Cx) (es : List Expr) (t : TGs) : Prop where
  h : PGs X es t
structure QO (X : Cx) (e : Option Expr) (t : TO) : Prop where
  h : PO X e t
structure QI (X : Cx) (tg it : Expr) (t : TI) : Prop where
  h : PI X tg it t
structure QX (X : Cx) (e : Expr) (t : TX) : Prop where
  h : PEX X e t
section
variable {X : Cx}
theorem e_int {i j pos} : QE X (.Constant (.int i) j pos) (tC (.int i)) := ⟨pe_int⟩
theorem e_str {x j pos} : QE X (.Constant (.str x) j pos) (tC (.str x)) := ⟨pe_str⟩
theorem e_bl {b j pos} : QE X (.Constant (.bool b) j pos) (tC (.bl b)) := ⟨pe_bl⟩
theorem e_non {j pos} : QE X (.Constant .none j pos) (tC .non) := ⟨pe_non⟩
theorem e_v (i : Nat) {x : Str} {pos : Pos} (hN : X.N[i]? = some x := by kernel_rfl) (hv : X.env.scope.names.lookup x = some .local := by kernel_rfl) (hd : (x == ("__debug__" : Str)) = false := by kernel_rfl) (hcd : (x == ("__classdict__" : Str)) = false := by kernel_rfl) : QE X (.Name x pos) (tVar i) := ⟨pw' i hN hv hd hcd⟩
theorem e_c (i : Nat) {x : Str} {pos : Pos} (hN : X.N[i]? = some x := by kernel_rfl) (hv : X.env.scope.names.lookup x = some .cell := by kernel_rfl) (hd : (x == ("__debug__" : Str)) = false := by kernel_rfl) (hcd : (x == ("__classdict__" : Str)) = false := by kernel_rfl) : QE X (.Name x pos) (tVar i) := ⟨pc' i hN hv hd hcd⟩
/-- within a comprehension: its own name, or one from around it -/
theorem e_n (i : Nat) {x : Str} {pos : Pos} (hN : X.N[i]? = some x := by rfl) (hv : Vis X.env.scope x := by first | exact Or.inl rfl | exact Or.inr (Or.inl rfl) | exact Or.inr (Or.inr rfl)) (hd : (x == ("__debug__" : Str)) = false := by kernel_rfl) (hcd : (x == ("__classdict__" : Str)) = false := by kernel_rfl) : QE X (.Name x pos) (tVar i) := ⟨pe_var hN hv hd hcd⟩
theorem e_bt {x : Str} {v : V} {u : Value} {pos : Pos} (hm : X.mg x = none) (hv : bootBuiltins x = some u) (r : RelV v u) (hg : X.env.kindOf x = some .globalImplicit := by kernel_rfl) (hn : x ≠ "__name__" := by decide) (hd : (x == ("__debug__" : Str)) = false := by kernel_rfl) : QE X (.Name x pos) (tC v) := ⟨pbl hm hv r hg hn hd⟩
theorem e_op {op : Operator} {r : R2} {a b : Expr} {ta tb : TE} {pos : Pos} (ho : OpR X (binaryOp op) r) (ha : QE X a ta) (hb : QE X b tb) : QE X (.BinOp a op b pos) (tOp r ta tb) := ⟨pe_op ho ha.h hb.h⟩
theorem e_un {op : UnaryOp} {r : V → Hp → VK → Prop} {a : Expr} {ta : TE} {pos : Pos} (ho : UnR X (unaryOp op) r) (ha : QE X a ta) : QE X (.UnaryOp op a pos) (tUn r ta) := ⟨pe_un ho ha.h⟩
theorem e_cmp {op : CmpOp} {r : R2} {a b : Expr} {ta tb : TE} {pos : Pos} (ho : OpR X (compareOp op) r) (ha : QE X a ta) (hb : QE X b tb) (hm : behindInMarks op b = false := by first | exact nomark _ | with_unfolding_all rfl) : QE X (.Compare a [op] [b] pos) (tOp r ta tb) := ⟨pe_cmpR ho ha.h hb.h hm⟩
theorem t_cmp {op : CmpOp} {r : R2} {a b : Expr} {ta tb : TE} {pos : Pos} (ho : OpR X (compareOp op) r) (ha : QE X a ta) (hb : QE X b tb) (hm : behindInMarks op b = false := by first | exact nomark _ | with_unfolding_all rfl) : QT X (.Compare a [op] [b] pos) (tTest (tOp r ta tb)) := ⟨pt_cmpR ho ha.h hb.h hm⟩
theorem t_notN {a : Expr} {ta : TE} {j pos pos'} (ha : QE X a ta) : QT X (.Compare a [.IsNot] [.Constant .none j pos'] pos) (tB (tNotN ta)) := ⟨pt_cmp (pc_notN ha.h)⟩
theorem t_val {e : Expr} {t : TE} (h : QE X e t) (he : ∀ whole, isTrue e X.env whole = (do let v ← whole; standAt e.pos; holding [v] (truthy v)) := by intro _; rfl) : QT X e (tB t) := ⟨pt_val h.h he⟩
theorem t_not {a : Expr} {t : TT} {pos} (h : QT X a t) : QT X (.UnaryOp .Not a pos) (tNot t) := ⟨pt_not h.h⟩
theorem t_w {e : Expr} {t : TT} (h : QW X e t) : QT X e t := ⟨PW.pt h.h⟩
theorem w_and1 {a : Expr} {t : TT} {pos} (h : QT X a t) : QW X (.BoolOp .And [a] pos) t := ⟨pw_and1 h.h⟩
theorem w_or1 {a : Expr} {t : TT} {pos} (h : QT X a t) : QW X (.BoolOp .Or [a] pos) t := ⟨pw_or1 h.h⟩
theorem w_and {a b : Expr} {rest : List Expr} {t u : TT} {pos} (ha : QT X a t) (hb : QW X (.BoolOp .And (b :: rest) pos) u) : QW X (.BoolOp .And (a :: b :: rest) pos) (tAnd t u) := ⟨pw_and ha.h hb.h⟩
theorem w_or {a b : Expr} {rest : List Expr} {t u : TT} {pos} (ha : QT X a t) (hb : QW X (.BoolOp .Or (b :: rest) pos) u) : QW X (.BoolOp .Or (a :: b :: rest) pos) (tOr t u) := ⟨pw_or ha.h hb.h⟩
theorem e_one {op} {a : Expr} {t : TE} {pos} (h : QE X a t) : QE X (.BoolOp op [a] pos) t := ⟨pe_one h.h⟩
theorem e_or {a b : Expr} {rest : List Expr} {ta tb : TE} {pos} (ha : QE X a ta) (hb : QE X (.BoolOp .Or (b :: rest) pos) tb) : QE X (.BoolOp .Or (a :: b :: rest) pos) (tOrV ta tb) := ⟨pe_or ha.h hb.h⟩
theorem e_if {c a b : Expr} {t : TT} {ta tb : TE} {pos} (hc : QT X c t) (ha : QE X a ta) (hb : QE X b tb) : QE X (.IfExp c a b pos) (tIf t ta tb) := ⟨pe_ifExp hc.h ha.h hb.h⟩
theorem a_nil : QA X [] tNil := ⟨pa_nil⟩
theorem a_cons {e : Expr} {es : List Expr} {te : TE} {t : TA} (ha : QE X e te) (hr : QA X es t) (hs : nostar e = true := by rfl) : QA X (e :: es) (tCons te t) := ⟨pa' ha.h hr.h hs⟩
theorem e_lst {es : List Expr} {t : TA} {pos} (h : QA X es t) : QE X (.List es pos) (tLst t) := ⟨pe_lst h.h⟩
theorem e_tup {es : List Expr} {t : TA} {x1 pos} (h : QA X es t) : QE X (.Tuple es x1 pos) (tTup t) := ⟨pe_tup h.h⟩
theorem e_ix {r : R2} {a b : Expr} {ta tb : TE} {pos} (hr : IxR X r) (ha : QE X a ta) (hb : QE X b tb) (hs : PlainIx b := by exact fun _ _ => rfl) : QE X (.Subscript a b pos) (tOp r ta tb) := ⟨pe_ix hr ha.h hb.h hs⟩
theorem o_none : QO X none tNoPart := ⟨po_none⟩
theorem o_some {e : Expr} {t : TE} (h : QE X e t) : QO X (some e) (tPart t) := ⟨po_some h.h⟩
theorem e_sl {r : V → Option Int → Option Int → Hp → VK → Prop} {e : Expr} {lo hi : Option Expr} {te : TE} {tl th : TO} {p2 pos} (hr : SlR X r) (he : QE X e te) (hl : QO X lo tl) (hu : QO X hi th) : QE X (.Subscript e (.Slice lo hi none p2) pos) (tSl r te tl th) := ⟨pe_slice hr he.h hl.h hu.h⟩
theorem e_call {CX : CXT} {j k : Nat} {ps : List Str} {sp : Sp} {E : XK} {x : Str} {p pos : Pos} {e : Expr} {es : List Expr} {t : TA} (D : Def X.prog X.w X.K X.mg X.base CX x j ps sp) (hr : Room k X.A) (hx : Passes CX X E) (ha : QA X (e :: es) t) (hj : j ≤ k := by decide) (hg : X.env.kindOf x = some .globalImplicit := by kernel_rfl)
    (hdb : (x == ("__debug__" : Str)) = false := by kernel_rfl) (he : nostar e = true := by rfl) (hpl : es.all nostar = true := by rfl) : QE X (.Call (.Name x p) (e :: es) [] pos) (tCall sp [] E t) := ⟨pe_callE D hr hx ha.h hj hg hdb he hpl⟩
theorem x_call {j k : Nat} {ps : List Str} {sp : Sp} {x : Str} {p pos : Pos} {e : Expr} {es : List Expr} {t : TA} (D : Def X.prog X.w X.K X.mg X.base (CX1 X.prog X.w) x j ps sp) (hr : Room k X.A) (ha : QA X.nox (e :: es) t) (hj : j ≤ k := by decide) (hg : X.env.kindOf x = some .globalImplicit := by kernel_rfl)
    (hdb : (x == ("__debug__" : Str)) = false := by kernel_rfl) (he : nostar e = true := by rfl) (hpl : es.all nostar = true := by rfl) : QX X (.Call (.Name x p) (e :: es) [] pos) (tCallX sp [] t) := ⟨pex_callE D hr ha.h hj hg hdb he hpl⟩
theorem e_b {id : String} {r : List V → Hp → VK → Prop} {x : Str} {p pos : Pos} {e : Expr} {es : List Expr} {t : TA} (hc : CallR X (.builtin id) r) (hm : X.mg x = none) (hv : bootBuiltins x = some (.builtin id)) (ha : QA X (e :: es) t) (hg : X.env.kindOf x = some .globalImplicit := by kernel_rfl) (hn : x ≠ "__name__" := by decide) (hdb : (x == ("__debug__" : Str)) = false := by kernel_rfl)
    (he : nostar e = true := by rfl) (hpl : es.all nostar = true := by rfl) : QE X (.Call (.Name x p) (e :: es) [] pos) (tCB r t) := ⟨pb' hc hm hv ha.h hg hn hdb he hpl⟩
theorem e_t {T : String} {r : List V → Hp → VK → Prop} {x : Str} {p pos : Pos} {e : Expr} {es : List Expr} {t : TA} (hc : CallR X (.type T) r) (hm : X.mg x = none) (hv : bootBuiltins x = some (.type T)) (ha : QA X (e :: es) t) (hg : X.env.kindOf x = some .globalImplicit := by kernel_rfl) (hn : x ≠ "__name__" := by decide) (hdb : (x == ("__debug__" : Str)) = false := by kernel_rfl)
    (he : nostar e = true := by rfl) (hpl : es.all nostar = true := by rfl) : QE X (.Call (.Name x p) (e :: es) [] pos) (tCB r t) := ⟨pt' hc hm hv ha.h hg hn hdb he hpl⟩
theorem e_append {o e : Expr} {to te : TE} {apos cpos : Pos} (ho : QE X o to) (ha : QE X e te) (hs : nostar e = true := by rfl) (hbase : attributeBase o "append" X.env (eval o X.env) = eval o X.env := by rfl) (hline : (apos.endLine == cpos.line) = true := by rfl) :
    QE X (.Call (.Attribute o "append" apos) [e] [] cpos) (tBM X.K "list" rAppend to (tCons te tNil)) := ⟨pe_bm PySem.F.plainAttrs_list PySem.F.slot_list_append PySem.F.type_list_append mt_append ho.h (pa' ha.h pa_nil hs) hbase (by rw [star_plain hs]; rfl) hline (star_plain hs)⟩
theorem e_xf {e : Expr} {f : Str} {pos : Pos} {ta : TE} (he : QE X e ta) (hb : attributeBase e f X.env (eval e X.env) = eval e X.env := by rfl) : QE X (.Attribute e f pos) (tXFld X.K ta f) := ⟨pe_xfld he.h hb⟩
theorem e_comp {x : Str} {px pos : Pos} {elt iter : Expr} {sc : Scope} {wi : TI} {te : TE} (ys : List Str) (js : List Nat) (cl : List (Str × Addr)) (hclos : closureFor sc X.env = pure cl) (hcap : Caps X sc cl ys js) (hin : ClIn X.env cl)
    (hi : QI X.nox (.Name x px) iter wi) (he : ∀ s2 H2 C ex, QE (compCx X sc (x :: ys) cl s2 H2 C ex) elt te) (hc : X.calm = true := by rfl)
    (hcell : (sc.names.all fun p => p.2 != NameKind.cell) = true := by rfl) (hkind : sc.kind = .function := by rfl) (hnames : (sc.names.all fun p => p.2 != NameKind.local || sc.names.lookup p.1 == some NameKind.local) = true := by rfl)
    (hx : (relabel sc X.env).names.lookup x = some .local := by rfl) (hhas : ((relabel sc X.env).names.all fun p => p.2 == NameKind.local || p.2 == NameKind.globalImplicit || (cl.lookup p.1).isSome) = true := by rfl)
    (hnd : (x :: ys).Nodup := by decide +kernel) (hs : ∀ v, foldedSetIterable iter X.env v = pure v := by intro _; rfl) : QE X (.ListComp elt [⟨.Name x px, iter, [], 0⟩] sc pos) (tComp wi js te) :=
  ⟨pe_compR ys js cl hclos hcap hin hi.h (fun a b c d => (he a b c d).h) hc hcell hkind hnames hx hhas hnd hs⟩
/-! statements -/
theorem ss_nil : QSs X [] tNext := ⟨pss_nil⟩
theorem ss_cons {st : Stmt} {rest : List Stmt} {t u : TS} (h1 : QS X st t) (h2 : QSs X rest u) : QSs X (st :: rest) (tSeq t u) := ⟨pss_cons h1.h h2.h⟩
theorem ss_one {st : Stmt} {t : TS} (h1 : QS X st t) : QSs X [st] t := ⟨pss_one h1.h⟩
theorem s_set {i : Nat} {x : Str} {e : Expr} {te : TE} {pos pos' : Pos} (hN : X.N.Nodup) (he : QE X e te) (hi : X.N[i]? = some x := by kernel_rfl) (hx : X.env.scope.names.lookup x = some .local := by kernel_rfl)
    (hs : swapsWith e (some (.Name x pos')) pos.line X.env = pure false := by kernel_rfl) : QS X (.Assign [.Name x pos'] e pos) (tAsg te (gName i)) := ⟨ps_setL (i := i) hN he.h hi hx hs⟩
theorem s_setc {i : Nat} {x : Str} {e : Expr} {te : TE} {pos pos' : Pos} (hN : X.N.Nodup) (he : QE X e te) (hfn : X.fn x = true := by rfl) (hi : X.N[i]? = some x := by kernel_rfl) (hx : X.env.scope.names.lookup x = some .cell := by kernel_rfl)
    (hs : swapsWith e (some (.Name x pos')) pos.line X.env = pure false := by kernel_rfl) : QS X (.Assign [.Name x pos'] e pos) (tAsg te (gName i)) := ⟨ps_setC (i := i) hN hfn he.h hi hx hs⟩
theorem s_asg {tg e : Expr} {te : TE} {g : TG} {pos} (he : QE X e te) (hg : QG X tg g) (hs : swapsWithSole [tg] e pos.line X.env = pure false := by rfl) (hw : swappedStores [tg] e X.env = pure none := by rfl)
    (h1 : (assignEach [tg] X.env).map (·.2) = [assign tg X.env] := by rfl) : QS X (.Assign [tg] e pos) (tAsg te g) := ⟨ps_asg he.h hg.h hs hw h1⟩
theorem s_if {c : Expr} {a b : List Stmt} {tc : TT} {t u : TS} {pos} (hc : QT X c tc) (ha : QSs X a t) (hb : QSs X b u) : QS X (.If c a b pos) (tIfS tc t u) := ⟨ps_if hc.h ha.h hb.h⟩
theorem s_for {tg iter : Expr} {body : List Stmt} {wi : TI} {g : TG} {tb : TS} {pos} (hp : PassesOwn (model X.prog X.w) X.A X.env X.xe) (hc : X.calm = true) (hi : QI X tg iter wi) (hg : QG X tg g) (hb : QSs X body tb)
    (hs : ∀ x, foldedSetIterable iter X.env x = pure x := by intro _; rfl) : QS X (.For tg iter body [] pos) (tFor wi g tb) := ⟨ps_for hp hc hi.h hg.h hb.h hs⟩
theorem s_ret {e : Expr} {t : TE} {pos} (h : QE X e t) : QS X (.Return (some e) pos) (tRet t) := ⟨ps_ret h.h⟩
theorem s_expr {e : Expr} {t : TE} {pos} (h : QE X e t) (hs : swapsWith e none pos.line X.env = pure false := by rfl) : QS X (.Expr e pos) (tDrop t) := ⟨ps_expr h.h hs⟩
theorem s_cut {st : Stmt} {t : TS} (h : QS X st t) : QS X st (tCut t) := ⟨ps_cut h.h⟩
theorem s_xset {o value : Expr} {f : Str} {pos pos' : Pos} {ta tv : TE} (ha : QE X o ta) (hv : QE X value tv) (hs : swapsWith value (some (.Attribute o f pos')) pos.line X.env = pure false := by rfl) : QS X (.Assign [.Attribute o f pos'] value pos) (sX X.K ta tv f) := ⟨ps_xset ha.h hv.h hs⟩
theorem g_name {i : Nat} {x : Str} {pos : Pos} (hN : X.N.Nodup) (hi : X.N[i]? = some x := by kernel_rfl) (hx : X.env.scope.names.lookup x = some .local := by kernel_rfl) : QG X (.Name x pos) (gName i) := ⟨pg_nameL hN hi hx⟩
theorem gs_nil : QGs X [] gNil := ⟨pgs_nil⟩
theorem gs_cons {e : Expr} {es : List Expr} {t : TG} {u : TGs} (h1 : QG X e t) (h2 : QGs X es u) (hs : (assignEach (e :: es) X.env).map (·.2) = assign e X.env :: (assignEach es X.env).map (·.2) := by rfl) : QGs X (e :: es) (gCons t u) := ⟨pgs_cons h1.h h2.h hs⟩
theorem g_tup {es : List Expr} {k : Nat} {t : TGs} {n : Nat} {pos} (hc : X.calm = true) (h : QGs X es t) (hn : (assignEach es X.env).length = n := by rfl) (hst : (assignEach es X.env).findIdx? (·.1) = none := by rfl) : QG X (.Tuple es k pos) (gTup X.K n t) := ⟨pg_tup hc h.h hn hst⟩
theorem i_list {tg l : Expr} {t : TE} (h : QE X l t) : QI X tg l (iList X.K t) := ⟨pi_list h.h⟩
theorem i_tup {tg l : Expr} {t : TE} (h : QE X l t) : QI X tg l (iTup X.K t) := ⟨pi_tup h.h⟩
theorem i_rng1 {tg a : Expr} {t : TE} {p pos : Pos} (hm : X.mg "range" = none) (ha : QE X a t) (hg : X.env.kindOf "range" = some .globalImplicit := by kernel_rfl) (hs : nostar a = true := by rfl) : QI X tg (.Call (.Name "range" p) [a] [] pos) (iRng1 (tCons t tNil)) := ⟨pi_range1 hg hm (pa' ha.h pa_nil hs) ((star_plain hs).trans rfl)⟩
theorem i_rng2 {tg a b : Expr} {t u : TE} {p pos : Pos} (hm : X.mg "range" = none) (ha : QE X a t) (hb : QE X b u) (hg : X.env.kindOf "range" = some .globalImplicit := by kernel_rfl) (hs : nostar a = true := by rfl) (hs2 : nostar b = true := by rfl) : QI X tg (.Call (.Name "range" p) [a, b] [] pos) (iRng2 (tCons t (tCons u tNil))) :=
  ⟨pi_range2 hg hm (pa' ha.h (pa' hb.h pa_nil hs2) hs) (by rw [star_plain hs, star_plain hs2]; rfl) (by rw [star_plain hs2]; rfl)⟩
theorem i_enum {elts : List Expr} {x1} {tpos p pos : Pos} {a : Expr} {t : TE} (hm : X.mg "enumerate" = none) (ha : QE X a t) (hg : X.env.kindOf "enumerate" = some .globalImplicit := by kernel_rfl) (hs : nostar a = true := by rfl) : QI X (.Tuple elts x1 tpos) (.Call (.Name "enumerate" p) [a] [] pos) (iEnum X.K (tCons t tNil)) :=
  ⟨pi_enum hg hm (by decide +kernel) (pa' ha.h pa_nil hs) ((star_plain hs).trans rfl)⟩
theorem s_try {i j : Nat} {y n S' : Str} {S : Addr} {bmS : List Value} {idS : String} {ce : Expr} {b0 : Stmt} {suite : List Stmt} {py np apos hpos pos : Pos} {tx : TX} {ts : Addr → TS}
    (hN : X.N.Nodup) (hmS : X.mg S' = some (.ref S)) (cS : ExcC X.K S bmS idS) (hbS : bmS.contains (.type "BaseException") = true) (hx : QX X ce tx) (hs : ∀ a, QSs (X.caught a).nox (b0 :: suite) (ts a))
    (hi : X.N[i]? = some y := by kernel_rfl) (hy : X.env.scope.names.lookup y = some .local := by kernel_rfl) (hj : X.N[j]? = some n := by kernel_rfl) (hn : X.env.scope.names.lookup n = some .local := by kernel_rfl) (hfr : X.env.frame = some X.env.locals := by rfl) (hst : X.stack = X.env :: X.outer := by rfl) (hex : X.ex = [] := by rfl)
    (hgS : X.env.kindOf S' = some .globalImplicit := by kernel_rfl) (hsw : swapsWith ce (some (.Name y py)) apos.line X.env = pure false := by rfl) (hdb : (S' == ("__debug__" : Str)) = false := by kernel_rfl) :
    QS X (.Try [.Assign [.Name y py] ce apos] [.ExceptHandler (some (.Name S' np)) (some n) (b0 :: suite) hpos] [] [] pos) (tTryAs X.K i j S tx ts) :=
  ⟨ps_tryas (i := i) (j := j) hN hi (.inl hy) hj hn hfr hst hex hgS hmS cS hbS hx.h (fun a => (hs a).h) (.inr hy) hsw hdb⟩
end
section
variable {P : Program} {w : World} {K : PySem.W.Frag} {mg : Str → Option Value} {base : Heap} {N : List Str} {qual : Str} {scope : Scope} {f : Addr} {cd : Value} {A : Around} {outer : List Env} {s₀ : Shared} {H₀ : Hp} {E : XK}
theorem s_raiseI {x : Str} {C fI : Addr} {fd : FuncData} {ps : List Str} {sp : Sp} {k j : Nat} {e : Expr} {es : List Expr} {t : TA} {np cpos pos : Pos} (hm : mg x = some (.ref C)) (R : XRaise K C fI)
    (G : FnOk P w K mg base CX0 k fI fd ps sp) (hr : Room j (cxOf (CX1 P w) P w K mg base N qual scope f cd A outer s₀ H₀ E).A) (hb : Binds K fd ps [])
    (ha : QA (cxOf (CX1 P w) P w K mg base N qual scope f cd A outer s₀ H₀ E) (e :: es) t) (hj : k + 1 ≤ j := by decide) (hg : (cxOf (CX1 P w) P w K mg base N qual scope f cd A outer s₀ H₀ E).env.kindOf x = some .globalImplicit := by kernel_rfl) (hdb : (x == ("__debug__" : Str)) = false := by kernel_rfl) (he : nostar e = true := by rfl) (hpl : es.all nostar = true := by rfl) :
    QS (cxOf (CX1 P w) P w K mg base N qual scope f cd A outer s₀ H₀ E) (.Raise (some (.Call (.Name x np) (e :: es) [] cpos)) none pos) (tRaiseI C sp E t) := ⟨ps_raiseI hg hm R G (hr.mono hj) hb ha.h hdb (star_plain he) (any_plain hpl)⟩
end
end L2

set_option linter.all false
set_option maxRecDepth 100000
set_option maxHeartbeats 4000000
namespace L2
open PySem PySem.Spec PyProof.Rows
/-- a class of exceptions with an own __init__, as the written part has it -/
structure InitIn (K : PySem.W.Frag) (C : Addr) (qual : Str) (st : Stmt) : Prop where
  ex : ∃ fI fd, XRaise K C fI ∧ Fun K "__init__" qual st fI fd
  xc : XCls K C
  ek : ExcK K C
  ec : ∃ bm id, ExcC K C bm id
theorem initIn_mk {K : PySem.W.Frag} {C fI : Addr} {qual : Str} {st : Stmt} {oc : Value} {od an : Option Addr} {osl : Array (Option Value)} {kV doc pm cdv ct : Value} {cd : ClassData}
    {bm bs sub : List Value} {NN : Addr} {nm qn : Str} {hd ab : Bool} {sn : List Str} {col : Option Bool} {dd : Option Addr} {k0 k1 k2 k3 k5 : Option Value}
    (hi : PySem.W.findIn K (.ref C) "__init__" = some (some (.ref fI))) (ht : PySem.W.typeIn K (.ref fI) = some (.type "function"))
    (l : K.lookup fI = some ⟨oc, od, .func (PySem.W.fnOf "__init__" qual (defArgs st) (defBody st) (defScope st) .none kV doc pm an cdv ct), osl⟩) (cc : PySem.W.codeIn K cdv qual = true) (kk : PySem.W.keepIn K (.ref fI) = true)
    (lC : K.lookup C = some (excClassObj nm qn C NN bs bm hd sn sub ab col dd k0 k1 k2 k3 k5 "ValueError.__new__")) (tl : PySem.W.tailIn K bmVE bm = true)
    (hcd : PySem.W.clsIn K C = some cd) (ho : onlyVE cd.mro = true) (hdd : cd.hasDict = true) (sa : PySem.W.findIn K (.ref C) "__setattr__" = some (some (.builtin "object.__setattr__")))
    (hm : PySem.W.mroIn K C (.type "BaseException") = some true) (hmo : PySem.W.mroIn K C (.type "object") = some true) (hga : PySem.W.findIn K (.ref C) "__getattribute__" = some (some (.builtin "BaseException.__getattribute__"))) (hgn : PySem.W.findIn K (.ref C) "__getattr__" = some none)
    (hc : (PySem.W.clsIn K C).isSome = true) (ha : PySem.W.findIn K (.ref C) "__class__" = some (some (.builtin "object.__class__"))) (hn : PySem.W.specialIn K (.builtin "object.__class__") "__get__" = some (some (.builtin "getset_descriptor.__get__")))
    (htk : PySem.W.takesIn K (.builtin "object.__class__") = some true) : InitIn K C qual st :=
  ⟨⟨fI, _, ⟨⟨nm, qn, NN, bs, bm, hd, sn, sub, ab, col, dd, k0, k1, k2, k3, k5, lC, tl⟩, hi, ht⟩, fun_mk l cc kk⟩, ⟨⟨cd, hcd, ho, hdd⟩, sa⟩, ⟨hm, hmo, hga, hgn, hc, ha, hn, htk⟩, ⟨bm, _, .mk lC⟩⟩
end L2

set_option linter.all false
set_option maxRecDepth 100000
set_option maxHeartbeats 1000000
namespace L2
open PySem PySem.Spec PyProof.Rows
section
variable {X : Cx} {pos : Pos}
/-- (a, b, ..) = a list of that length -/
def gTupL (K : PySem.W.Frag) (n : Nat) (t : TGs) : TG := fun v σ H Q => ∃ a xs, v = .ref a ∧ SqL K H a xs ∧ xs.length = n ∧ t xs σ H Q
end

def tTryE (K : PySem.W.Frag) (j : Nat) (S : Addr) (tx : TX) (ts : Addr → TS) : TS := fun D σ H =>
  tx σ H (fun v H1 => D.nx σ H1) fun cls d H1 => ∃ C bm nid, cls = .ref C ∧ ExcC K C bm nid ∧ (Value.ref C :: bm).contains (.ref S) = true ∧
    ∀ a, H1 a = none → ts a { nx := fun σ' H' => D.nx (σ'.set j none) H', rt := D.rt, bk := fun σ' H' => D.bk (σ'.set j none) H', ct := fun σ' H' => D.ct (σ'.set j none) H' } (σ.set j (some (.ref a))) (upd H1 a (excO a cls d))
section
variable {X : Cx}
end
end L2

set_option linter.all false
set_option maxRecDepth 100000
set_option maxHeartbeats 4000000
namespace G
open PySem L2
abbrev Fine (x : Str) : Prop := PyData.strOk x = true
/-- a comprehension whose element is worth ys at its places -/
theorem comp_pure2 {J : It} {xs ys : List V} {H : Hp} {cap : St} {te : TE} {Q : VK} (hn : xs.length ≤ sizeLine) (hl : ys.length = xs.length)
    (go : ∀ i H', Same H H' → i < xs.length → J.go i H') (yld : ∀ i H' x H'', Same H H' → i < xs.length → J.yld i H' x H'' → H'' = H' ∧ xs[i]? = some x) (stop : ∀ H', Same H H' → J.stop xs.length H')
    (el : ∀ (i : Nat) x y H' (P : VK), Same H H' → xs[i]? = some x → ys[i]? = some y → (∀ H'', Same H' H'' → P y H'') → te (some x :: cap) H' P) (fin : ∀ D H', Same H H' → H D = none → H' D = some (.lst ys) → Q (.ref D) H') :
    Comped J cap te Q H := by
  intro D hD
  refine ⟨fun i m zs H2 => m = xs.length - i ∧ i ≤ xs.length ∧ zs = ys.take i ∧ H2 D = some (.lst zs) ∧ Same H H2, ⟨xs.length, rfl, Nat.zero_le _, by simp, upd_same, Same.new hD _⟩, ?_⟩
  rintro i m zs H2 ⟨rfl, hi, hz, hDz, hS⟩
  refine ⟨hDz, ?_⟩
  by_cases h : i < xs.length
  · refine .inr ⟨go i H2 hS h, ?_⟩
    intro x H3 hy
    obtain ⟨rfl, hx⟩ := yld i H2 x H3 hS h hy
    obtain ⟨yv, hyi⟩ : ∃ yv, ys[i]? = some yv := ⟨ys[i]'(by omega), List.getElem?_eq_getElem (by omega)⟩
    have hzl : zs.length = i := by rw [hz, List.length_take]; omega
    refine el i x yv H3 _ hS hx hyi fun H4 hS4 => ⟨hS4 _ _ hDz, by omega, xs.length - (i + 1), by omega, rfl, h, ?_, upd_same, fun b u q => ?_⟩
    · rw [hz, List.take_add_one, hyi]
      rfl
    · rw [upd_ne (ne_of_none q hD)]
      exact hS4 _ _ (hS _ _ q)
  · have e : i = xs.length := by omega
    subst e
    refine .inl ⟨stop H2 hS, fin D H2 hS hD ?_⟩
    rw [hDz, hz, List.take_of_length_le (by omega)]

/-- a comprehension over a list -/
theorem comp_list {K : PySem.W.Frag} {a : Addr} {xs : List V} {H : Hp} {cap : St} {te : TE} {Q : VK} (ys : List V) (hS : SqL K H a xs) (hn : xs.length ≤ sizeLine) (hl : ys.length = xs.length)
    (el : ∀ (i : Nat) x y H' (P : VK), Same H H' → xs[i]? = some x → ys[i]? = some y → (∀ H'', Same H' H'' → P y H'') → te (some x :: cap) H' P) (fin : ∀ D H', Same H H' → H D = none → H' D = some (.lst ys) → Q (.ref D) H') :
    Comped (Itl K a) cap te Q H := by
  refine comp_pure2 (J := Itl K a) (xs := xs) (ys := ys) hn hl ?_ ?_ ?_ el fin
  · intro i H' s hi
    exact ⟨xs, xs[i], s.seq hS, List.getElem?_eq_getElem hi⟩
  · rintro i H' x H'' s hi ⟨rfl, h⟩
    exact ⟨rfl, h xs (s.seq hS)⟩
  · intro H' s
    exact ⟨xs, s.seq hS, Nat.le_refl _⟩
theorem comp_rng {lo : Int} {n : Nat} {H : Hp} {cap : St} {te : TE} {Q : VK} (f : Nat → V) (hn : n ≤ sizeLine)
    (el : ∀ (i : Nat) H' (P : VK), i < n → Same H H' → (∀ H'', Same H' H'' → P (f i) H'') → te (some (.int (lo + i)) :: cap) H' P) (fin : ∀ D H', Same H H' → H D = none → H' D = some (.lst ((List.range n).map f)) → Q (.ref D) H') :
    Comped (Itr lo n) cap te Q H := by
  have hlen : ((List.range n).map fun (i : Nat) => V.int (lo + i)).length = n := by rw [List.length_map, List.length_range]
  refine comp_pure2 (xs := (List.range n).map fun (i : Nat) => V.int (lo + i)) (ys := (List.range n).map f) (by rw [hlen]; exact hn) (by rw [List.length_map, List.length_map]) ?_ ?_ ?_ ?_ fin
  · intro i H' _ h
    rw [hlen] at h
    exact h
  · rintro i H' y H'' _ h ⟨rfl, rfl⟩
    refine ⟨rfl, ?_⟩
    rw [hlen] at h
    rw [List.getElem?_map, List.getElem?_range h]
    rfl
  · intro H' _
    rw [hlen]
    exact Nat.le_refl _
  · intro i y z H' P hS h1 h2 hP
    rw [List.getElem?_map] at h1 h2
    cases hc : (List.range n)[i]? with
    | none => rw [hc] at h1; cases h1
    | some c =>
      obtain ⟨h3, h4⟩ := List.getElem?_eq_some_iff.mp hc
      rw [hc] at h1 h2
      rw [List.getElem_range] at h4
      subst h4
      cases h1
      cases h2
      rw [List.length_range] at h3
      exact el i H' P h3 hS hP
end G

set_option maxRecDepth 100000
namespace K01
open PySem
/-! Texts of nine signs, cut and put together. -/
abbrev t9 (a b c d e f p g h : Nat) : Str := ⟨#[a, b, c, d, e, f, p, g, h]⟩
end K01

set_option maxRecDepth 100000
namespace K01
open PySem PySem.NumText
def greatS : Str := "ABCDEFGHIJKLMNOPQRSTUVWXYZ"
def figS : Str := "0123456789"
def gr (c : Nat) : Bool := decide (c ∈ greatS.cps.toList)
def dg (c : Nat) : Bool := decide (c ∈ figS.cps.toList)
/-- the edge number of a text -/
def keyOf (x : Str) : Option (Str × Int) := match x.cps.toList with
  | [a, b, c, d, e, f, p, g, h] => if (gr a && gr b && (dg c && dg d && dg e && dg f) && (p == 43) && (dg g && dg h) && decide (digitsVal [g, h] < 16)) = true then some (⟨#[a, b]⟩, ((digitsVal [c, d, e, f] : Nat) : Int) * 16 + ((digitsVal [g, h] : Nat) : Int)) else none
  | _ => none
def shown (a b : Nat) (n : Nat) : Str := t9 a b (48 + n / 16 / 1000) (48 + n / 16 / 100 % 10) (48 + n / 16 / 10 % 10) (48 + n / 16 % 10) 43 (48 + n % 16 / 10) (48 + n % 16 % 10)
end K01

set_option linter.all false
set_option maxRecDepth 100000
set_option maxHeartbeats 4000000
namespace G
open PySem L2
theorem at_list {α : Type} {xs : List α} {i : Int} (h0 : 0 ≤ i) (h : i < (xs.length : Int)) : ∃ v, atI xs i = some v ∧ v ∈ xs := by
  have hj : i.toNat < xs.length := by omega
  have e : i = ((i.toNat : Nat) : Int) := by omega
  have q := atI_nat (List.getElem?_eq_getElem hj)
  rw [← e] at q
  exact ⟨xs[i.toNat], q, List.getElem_mem hj⟩
section
variable {K : PySem.W.Frag}
theorem kit_self {T : String} : PySem.W.kitOne K (.type T) (valOf (.ty T)) = some true := by
  unfold PySem.W.kitOne
  exact if_pos (beq_self_eq_true (Value.type T))
end
/-- None, an int, a text that is not too long -/
inductive Scal : V → Prop
  | non : Scal .non
  | int (i : Int) : Scal (.int i)
  | str (x : Str) (h : x.length ≤ 1000) (ok : Fine x) : Scal (.str x)
def isStr : V → Bool
  | .str _ => true
  | _ => false
/-- what a scalar is worth -/
def datV : V → PyData
  | .int i => .int i
  | .str x => .str x
  | _ => .none
end G

set_option linter.all false
set_option maxRecDepth 100000
set_option maxHeartbeats 4000000
/-! list(range(..)) of two and three; a list's item stored. -/
namespace L2
open PySem PySem.Spec PyProof.Rows
/-- the whole numbers from i on, n of them, k apart -/
def rngV (i : Int) (n : Nat) (k : Int) : List V := (List.range n).map fun (m : Nat) => V.int (i + (m : Int) * k)
theorem rngV_len {i k : Int} {n : Nat} : (rngV i n k).length = n := by unfold rngV; rw [List.length_map, List.length_range]
theorem vals_rng {i k : Int} : ∀ (n : Nat) (us : List Value) (o : Nat), us.length = n → (∀ (j : Nat) v, us[j]? = some v → ∃ t, v = .int (i + ((o + j : Nat) : Int) * k) t) → Vals ((List.range' o n).map fun (m : Nat) => V.int (i + (m : Int) * k)) us
  | 0, [], _, _, _ => .nil
  | n + 1, u :: us, o, hl, h => by
    rw [List.range'_succ, List.map_cons]
    refine .cons ?_ (vals_rng n us (o + 1) (by simpa using hl) fun j v e => ?_)
    · obtain ⟨t, rfl⟩ := h 0 u rfl
      exact ⟨t, rfl⟩
    · obtain ⟨t, rfl⟩ := h (j + 1) v (by simpa using e)
      exact ⟨t, by rw [show o + 1 + j = o + (j + 1) by omega]⟩
section
variable {X : Cx}
theorem list_rng {pins : List (Addr × Obj)} {σ : St} {H : Hp} {s : Shared} {r : Addr} {a b c : Int} {t u v : Tok} {n : Nat} {Q : VK} {E : Value → Shared → Prop} (hc : X.calm = true) (I : Inv X pins σ H s) (hr : IsRange s.heap r a b c t u v)
    (hsmall : Builtin.Range.small a b c = true) (hn : Builtin.Range.rangeSize a b c = n) (hlen : n ≤ 2 ^ 24) (q : ∀ l, H l = none → Q (.ref l) (upd H l (.lst (rngV a n c)))) :
    wpAny (model X.prog X.w) X.A (call (.type "list") [.ref r]) (EP X pins σ Q) E s := by
  refine call_list_range (I.ok.hd hc) hr hsmall hn hlen fun h' tk acc' c' hk hS' hacc => ?_
  have rv : Vals (rngV a n c) acc'.toList := by
    unfold rngV
    rw [List.range_eq_range']
    refine vals_rng n acc'.toList 0 (by rw [Array.length_toList]; exact hacc.1) fun j v e => ?_
    obtain ⟨t, rfl⟩ := hacc.2 j v (by simpa using e)
    exact ⟨t, by rw [Nat.zero_add]⟩
  have zl := sizeLine_eq
  refine ⟨.ref s.heap.objs.size, _, I.laid (t' := tk) hk (Nat.le_refl _) (show ObjOk X.prog X.w _ h' _ (.lst (rngV a n c)) from ⟨by rw [rngV_len]; omega, acc'.toList, c', rv, by simpa using hS'⟩), rfl, q _ (I.hok.fresh (Nat.le_refl _))⟩
def Small62 (i : Int) : Prop := -(2 ^ 62) ≤ i ∧ i < 2 ^ 62
def tLRng3 (ta : TA) : TE := fun σ H Q => ta σ H fun vs H1 => ∃ i j k : Int, vs = [.int i, .int j, .int k] ∧ Small62 i ∧ Small62 j ∧ ∃ n : Nat, ((k = 1 ∧ n = (j - i).toNat) ∨ (k = -1 ∧ n = (i - j).toNat)) ∧ n ≤ 2 ^ 24 ∧ ∀ l, H1 l = none → Q (.ref l) (upd H1 l (.lst (rngV i n k)))
def tLRng2 (ta : TA) : TE := fun σ H Q => ta σ H fun vs H1 => ∃ i j : Int, vs = [.int i, .int j] ∧ Small62 i ∧ Small62 j ∧ (j - i).toNat ≤ 2 ^ 24 ∧ ∀ l, H1 l = none → Q (.ref l) (upd H1 l (.lst (rngV i (j - i).toNat 1)))
theorem pe_lrng3 {a b c : Expr} {ta : TA} {p p' pos pos' : Pos} (hc : X.calm = true) (hgl : X.env.kindOf "list" = some .globalImplicit) (hml : X.mg "list" = none) (hg : X.env.kindOf "range" = some .globalImplicit) (hm : X.mg "range" = none) (ha : PA X [a, b, c] ta)
    (h1 : nostar a = true) (h2 : nostar b = true) (h3 : nostar c = true) : PE X (.Call (.Name "list" p) [.Call (.Name "range" p') [a, b, c] [] pos'] [] pos) (tLRng3 ta) := by
  intro pins s σ H Q I h
  refine Call_ (ld_blt (u := .type "list") I hgl hml (by decide +kernel) (PyProof.Rows.callWith_type1 ?_ rfl rfl))
  show wpAny _ _ (spliced ((false, eval (.Call (.Name "range" p') [a, b, c] [] pos') X.env) :: backTo pos (starEach [] X.env))) _ _ s
  refine Calls.spliced_cons (Call_ (ld_blt I hg hm boot_range (PyProof.Rows.callWith_type1 (thn (ha pos' pins s σ H _ I h) fun us s1 ⟨vs, H1, I1, r1, q1⟩ => ?_) (star_plain h1) (any_plain (by simp [h2, h3])))))
  obtain ⟨i, j, k, e, si, sj, n, hk, hn, q⟩ := q1
  subst e
  cases r1 with
  | cons r rr =>
    cases rr with
    | cons r' rr =>
      cases rr with
      | cons r'' rr =>
        cases rr
        obtain ⟨t, rfl⟩ := r
        obtain ⟨t', rfl⟩ := r'
        obtain ⟨t'', rfl⟩ := r''
        refine call_range_3 (by omega) ?_ (Or.inl (PyProof.noPylong_small (by omega)))
        refine Calls.spliced_nil ?_
        have I2 : Inv X pins σ H1 { s1 with heap := s1.heap.push { cls := .type "range", data := .fields #[.int i t, .int j t', .int k t''] }, toks := s1.toks } := I1.kept fun b o e => Heap.get?_push_of_some _ e
        refine list_rng hc I2 (IsRange.new ..) ?_ ?_ hn q
        · rcases hk with ⟨rfl, _⟩ | ⟨rfl, _⟩
          · exact small_one si.1 si.2 sj.1 sj.2
          · exact PySem.W.small_down si.1 si.2 sj.1 sj.2
        · rcases hk with ⟨rfl, rfl⟩ | ⟨rfl, rfl⟩
          · exact PyProof.Rows.rangeSize_nat i j
          · exact PySem.W.rangeSize_downNat i j
theorem e_lrng3 {a b c : Expr} {t1 t2 t3 : TE} {p p' pos pos' : Pos} (hc : X.calm = true) (hml : X.mg "list" = none) (hm : X.mg "range" = none) (h1 : QE X a t1) (h2 : QE X b t2) (h3 : QE X c t3) (hgl : X.env.kindOf "list" = some .globalImplicit := by kernel_rfl) (hg : X.env.kindOf "range" = some .globalImplicit := by kernel_rfl)
    (s1 : nostar a = true := by rfl) (s2 : nostar b = true := by rfl) (s3 : nostar c = true := by rfl) : QE X (.Call (.Name "list" p) [.Call (.Name "range" p') [a, b, c] [] pos'] [] pos) (tLRng3 (tCons t1 (tCons t2 (tCons t3 tNil)))) := ⟨pe_lrng3 hc hgl hml hg hm (pa' h1.h (pa' h2.h (pa' h3.h pa_nil s3) s2) s1) s1 s2 s3⟩
theorem g_sub {o i : Expr} {to ti : TE} {pos : Pos} (ho : QE X o to) (hi : QE X i ti)
    (ha : ∀ v, assign (.Subscript o i pos) X.env v = (do
      let ov ← holding [v] (eval o X.env)
      let iv ← holding [v, ov] (eval i X.env)
      standAt pos
      holding [v, ov, iv] (setItem ov iv v)
      release [v, ov, iv] []) := by intro _; rfl) : QG X (.Subscript o i pos) (gSub to ti rSetL) := ⟨pg_sub ho.h hi.h set_list ha⟩
theorem call_min3 (hc : X.calm = true) : CallR X (.builtin "min") (fun xs H Q => ∃ i j k : Int, xs = [.int i, .int j, .int k] ∧ ∀ m : Int, m ≤ i → m ≤ j → m ≤ k → (m = i ∨ m = j ∨ m = k) → Q (.int m) H) := by
  intro pins s σ H xs us Q I r h
  obtain ⟨i, j, k, rfl, q⟩ := h
  cases r with
  | cons r1 rr =>
    obtain ⟨u, w', rfl, ⟨t', rfl⟩, ⟨t'', rfl⟩⟩ := vals2 rr
    obtain ⟨t, rfl⟩ := r1
    refine min_three_ints (I.ok.hd hc) fun h' tk kp => ?_
    by_cases h1 : j < i
    · rw [if_pos h1]
      by_cases h2 : k < j
      · rw [if_pos h2]
        exact ⟨.int k, H, I.kept kp, ⟨_, rfl⟩, q k (by omega) (by omega) (by omega) (by omega)⟩
      · rw [if_neg h2]
        exact ⟨.int j, H, I.kept kp, ⟨_, rfl⟩, q j (by omega) (by omega) (by omega) (by omega)⟩
    · rw [if_neg h1]
      by_cases h2 : k < i
      · rw [if_pos h2]
        exact ⟨.int k, H, I.kept kp, ⟨_, rfl⟩, q k (by omega) (by omega) (by omega) (by omega)⟩
      · rw [if_neg h2]
        exact ⟨.int i, H, I.kept kp, ⟨_, rfl⟩, q i (by omega) (by omega) (by omega) (by omega)⟩
theorem ixN_nat {n j : Nat} (h : j < n) : ixN n (j : Int) = some j := by
  unfold ixN
  simp [h]
theorem ixN_last {n : Nat} (h : 0 < n) : ixN n (-1) = some (n - 1) := by
  unfold ixN
  simp
  omega
end
section
variable {X : Cx} {K : PySem.W.Frag}
/-! rules whose reading names the frozen heap: within a comprehension it is to be named from around it -/
theorem ix_listK (hK : X.K = K) : IxR X (rIxL K) := by subst hK; exact ix_list
theorem ix_tupK (hK : X.K = K) : IxR X (rIxT K) := by subst hK; exact ix_tup
end
/-- a term of rules in its place (the plain judgement is never looked into) -/
theorem useQ {X : Cx} {b : List Stmt} {t : TS} {D : Ends} {σ : St} {H : Hp} (h : QSs X b t) (r : t D σ H) : ∃ t, PSs X b t ∧ t D σ H := ⟨t, h.h, r⟩
end L2

set_option linter.all false
set_option maxRecDepth 100000
/-! Clips and strips as numbers: what is taken to which strip. -/
namespace KS
open PySem
structure Clip where
  reel : Str
  a : Int
  b : Int
  f : Int
def Clip.way (c : Clip) : Int := if c.b < c.a then -1 else 1
def Clip.cnt (c : Clip) : Nat := (c.b - c.a).natAbs + 1
def Clip.nums (c : Clip) : List Int := (List.range c.cnt).map fun (m : Nat) => c.a + (m : Int) * c.way
theorem Clip.nums_len (c : Clip) : c.nums.length = c.cnt := by
  unfold Clip.nums
  rw [List.length_map, List.length_range]

/-- a moment: the frame that is seen, the fade that begins with it -/
structure Mo where
  reel : Str
  n : Int
  f : Int
theorem Clip.nums_eq (c : Clip) : c.nums = c.a :: ((List.range (c.cnt - 1)).map fun (m : Nat) => c.a + ((m + 1 : Nat) : Int) * c.way) := by
  unfold Clip.nums
  have e : c.cnt = c.cnt - 1 + 1 := by unfold Clip.cnt; omega
  rw [e, List.range_succ_eq_map, List.map_cons, List.map_map]
  simp
def Clip.ms (c : Clip) : List Mo := match c.nums with
  | [] => []
  | x :: r => ⟨c.reel, x, c.f⟩ :: r.map fun n => ⟨c.reel, n, 0⟩
def moments (cs : List Clip) : List Mo := cs.flatMap Clip.ms
/-- the frame can be the strip's next one -/
def goes (s : Clip) (n : Int) : Prop := if s.a = s.b then (n - s.b).natAbs = 1 else n = s.b + s.way
instance (s : Clip) (n : Int) : Decidable (goes s n) := by unfold goes; exact inferInstance
def can (s : Clip) (m : Mo) : Prop := s.reel = m.reel ∧ goes s m.n
instance (s : Clip) (m : Mo) : Decidable (can s m) := by unfold can; exact inferInstance
/-- the strips so far, the last one first, and one frame more -/
def stepR : List Clip → Mo → List Clip
  | [], m => [⟨m.reel, m.n, m.n, m.f⟩]
  | s :: r, m => if m.f ≤ 0 ∧ can s m then ⟨s.reel, s.a, m.n, s.f⟩ :: r else ⟨m.reel, m.n, m.n, m.f⟩ :: s :: r
theorem stepR_cons (s : Clip) (r : List Clip) (m : Mo) : stepR (s :: r) m = if m.f ≤ 0 ∧ can s m then ⟨s.reel, s.a, m.n, s.f⟩ :: r else ⟨m.reel, m.n, m.n, m.f⟩ :: s :: r := rfl
def stripsR (ms : List Mo) : List Clip := ms.foldl stepR []
def strips (cs : List Clip) : List Clip := (stripsR (moments cs)).reverse
theorem cnt_one {s : Clip} (h : s.a = s.b) : s.cnt = 1 := by unfold Clip.cnt; omega
/-- one frame more -/
theorem nums_ext {s : Clip} {n : Int} (h : goes s n) : (⟨s.reel, s.a, n, s.f⟩ : Clip).nums = s.nums ++ [n] := by
  unfold goes at h
  have key : (⟨s.reel, s.a, n, s.f⟩ : Clip).cnt = s.cnt + 1 ∧ ((⟨s.reel, s.a, n, s.f⟩ : Clip).way = s.way ∨ s.cnt = 1) ∧ s.a + (s.cnt : Int) * (⟨s.reel, s.a, n, s.f⟩ : Clip).way = n := by
    unfold Clip.cnt Clip.way at *
    simp only at *
    split at h
    · refine ⟨by omega, by omega, ?_⟩
      split <;> omega
    · split at h <;> (refine ⟨by omega, .inl (by split <;> omega), ?_⟩; split <;> omega)
  obtain ⟨k1, k2, k3⟩ := key
  unfold Clip.nums
  rw [k1, List.range_succ, List.map_append, List.map_cons, List.map_nil]
  have k3' : (⟨s.reel, s.a, n, s.f⟩ : Clip).a + (s.cnt : Int) * (⟨s.reel, s.a, n, s.f⟩ : Clip).way = n := k3
  rw [k3']
  congr 1
  rcases k2 with e | e
  · rw [e]
  · rw [e]
    simp
theorem ms_ext {s : Clip} {m : Mo} (h : can s m) (hf : m.f = 0) : (⟨s.reel, s.a, m.n, s.f⟩ : Clip).ms = s.ms ++ [m] := by
  have e := nums_ext h.2
  unfold Clip.ms
  rw [e]
  cases hn : s.nums with
  | nil => rw [Clip.nums_eq] at hn; cases hn
  | cons x r =>
    show _ :: List.map _ (r ++ [m.n]) = (_ :: List.map _ r) ++ [m]
    rw [List.map_append, List.cons_append]
    have : m = ⟨s.reel, m.n, 0⟩ := by
      obtain ⟨mr, mn, mf⟩ := m
      have hf : mf = 0 := hf
      have hr : s.reel = mr := h.1
      rw [hf, hr]
    exact congrArg (fun y => (⟨s.reel, x, s.f⟩ : Mo) :: (List.map (fun n => (⟨s.reel, n, 0⟩ : Mo)) r ++ [y])) this.symm
theorem ms_one (m : Mo) : (⟨m.reel, m.n, m.n, m.f⟩ : Clip).ms = [m] := by
  have e : (⟨m.reel, m.n, m.n, m.f⟩ : Clip).nums = [m.n] := by
    rw [Clip.nums_eq, cnt_one rfl]
    rfl
  unfold Clip.ms
  rw [e]
  rfl
theorem moments_app (a b : List Clip) : moments (a ++ b) = moments a ++ moments b := by unfold moments; rw [List.flatMap_append]
/-- the strips show the frames -/
theorem show_step {r : List Clip} {m : Mo} (hf : 0 ≤ m.f) : moments (stepR r m).reverse = moments r.reverse ++ [m] := by
  cases r with
  | nil =>
    show moments [⟨m.reel, m.n, m.n, m.f⟩] = [m]
    unfold moments
    rw [List.flatMap_cons, List.flatMap_nil, ms_one, List.append_nil]
  | cons s r =>
    rw [stepR_cons]
    split
    · rename_i h
      rw [List.reverse_cons, List.reverse_cons, moments_app, moments_app, List.append_assoc]
      congr 1
      unfold moments
      rw [List.flatMap_cons, List.flatMap_cons, List.flatMap_nil, List.append_nil, List.append_nil]
      exact ms_ext h.2 (by omega)
    · rw [List.reverse_cons, moments_app]
      congr 1
      unfold moments
      rw [List.flatMap_cons, List.flatMap_nil, ms_one, List.append_nil]
theorem show_fold : ∀ (ms : List Mo) (r : List Clip), (∀ m ∈ ms, 0 ≤ m.f) → moments (ms.foldl stepR r).reverse = moments r.reverse ++ ms
  | [], r, _ => by rw [List.append_nil]; rfl
  | m :: ms, r, h => by
    rw [List.foldl_cons, show_fold ms _ fun x hx => h x (List.mem_cons_of_mem _ hx), show_step (h m (List.mem_cons_self ..)), List.append_assoc]
    rfl
theorem ms_f {c : Clip} (h : 0 ≤ c.f) : ∀ m ∈ c.ms, 0 ≤ m.f := by
  intro m hm
  unfold Clip.ms at hm
  cases hn : c.nums with
  | nil => rw [hn] at hm; cases hm
  | cons x r =>
    rw [hn] at hm
    rcases List.mem_cons.mp hm with rfl | hm
    · exact h
    · obtain ⟨y, _, rfl⟩ := List.mem_map.mp hm
      exact Int.le_refl 0
theorem moments_f {cs : List Clip} (h : ∀ c ∈ cs, 0 ≤ c.f) : ∀ m ∈ moments cs, 0 ≤ m.f := by
  intro m hm
  unfold moments at hm
  obtain ⟨c, hc, hm⟩ := List.mem_flatMap.mp hm
  exact ms_f (h c hc) m hm
theorem strips_show {cs : List Clip} (h : ∀ c ∈ cs, 0 ≤ c.f) : moments (strips cs) = moments cs := by
  unfold strips stripsR
  rw [show_fold _ _ (moments_f h)]
  rfl
/-- no strip of FADE 0 but the first begins with a frame that the one ahead of it could have; the last one first -/
def Apart : List Clip → Prop
  | [] => True
  | [_] => True
  | s :: t :: r => (s.f ≤ 0 → t.reel = s.reel → ¬ goes t s.a) ∧ Apart (t :: r)
/-! ### sizes -/
structure MOk (m : Mo) : Prop where
  rl : m.reel.length ≤ 100
  rf : PyData.strOk m.reel = true
  n0 : 0 ≤ m.n
  n1 : m.n ≤ 1000000
  f0 : 0 ≤ m.f
  f1 : m.f ≤ 1000000
structure SOk (c : Clip) : Prop where
  rl : c.reel.length ≤ 100
  rf : PyData.strOk c.reel = true
  a0 : 0 ≤ c.a
  a1 : c.a ≤ 1000000
  b0 : 0 ≤ c.b
  b1 : c.b ≤ 1000000
  f0 : 0 ≤ c.f
  f1 : c.f ≤ 1000000
theorem sok_one {m : Mo} (h : MOk m) : SOk ⟨m.reel, m.n, m.n, m.f⟩ := ⟨h.rl, h.rf, h.n0, h.n1, h.n0, h.n1, h.f0, h.f1⟩
theorem sok_step {r : List Clip} {m : Mo} (h : ∀ s ∈ r, SOk s) (hm : MOk m) : ∀ s ∈ stepR r m, SOk s := by
  cases r with
  | nil =>
    intro s hs
    rw [List.mem_singleton.mp hs]
    exact sok_one hm
  | cons t r =>
    intro s hs
    rw [stepR_cons] at hs
    split at hs
    · rcases List.mem_cons.mp hs with rfl | hs
      · obtain ⟨h1, h2, h3, h4, h5, h6, h7, h8⟩ := h t (List.mem_cons_self ..)
        exact ⟨h1, h2, h3, h4, hm.n0, hm.n1, h7, h8⟩
      · exact h s (List.mem_cons_of_mem _ hs)
    · rcases List.mem_cons.mp hs with rfl | hs
      · exact sok_one hm
      · exact h s hs
theorem sok_fold : ∀ (ms : List Mo) (r : List Clip), (∀ s ∈ r, SOk s) → (∀ m ∈ ms, MOk m) → ∀ s ∈ ms.foldl stepR r, SOk s
  | [], r, h, _ => h
  | m :: ms, r, h, hm => sok_fold ms _ (sok_step h (hm m (List.mem_cons_self ..))) fun x hx => hm x (List.mem_cons_of_mem _ hx)
theorem len_step (r : List Clip) (m : Mo) : (stepR r m).length ≤ r.length + 1 := by
  cases r with
  | nil => exact Nat.le_refl _
  | cons t r =>
    rw [stepR_cons]
    split
    · exact Nat.le_succ _
    · exact Nat.le_refl _
theorem len_fold : ∀ (ms : List Mo) (r : List Clip), (ms.foldl stepR r).length ≤ r.length + ms.length
  | [], r => Nat.le_refl _
  | m :: ms, r => by
    have h1 := len_fold ms (stepR r m)
    have h2 := len_step r m
    rw [List.foldl_cons, List.length_cons]
    omega
theorem ms_len (c : Clip) : c.ms.length = c.cnt := by
  have h := c.nums_len
  unfold Clip.ms
  cases hn : c.nums with
  | nil => rw [Clip.nums_eq] at hn; cases hn
  | cons x r =>
    rw [hn] at h
    rw [← h]
    simp
theorem moments_len {m : Nat} : ∀ (cs : List Clip), (∀ c ∈ cs, c.cnt ≤ m) → (moments cs).length ≤ m * cs.length
  | [], _ => Nat.zero_le _
  | c :: cs, h => by
    have h1 := moments_len cs fun x hx => h x (List.mem_cons_of_mem _ hx)
    have h2 := h c (List.mem_cons_self ..)
    unfold moments at h1 ⊢
    rw [List.flatMap_cons, List.length_append, ms_len, List.length_cons, Nat.mul_succ]
    omega
theorem moments_cons (c : Clip) (cs : List Clip) : moments (c :: cs) = c.ms ++ moments cs := by unfold moments; rw [List.flatMap_cons]
theorem moments_one (c : Clip) : moments [c] = c.ms := by rw [moments_cons]; exact List.append_nil _
/-- a clip's moments: with a fade, and without -/
theorem ms_zero {c : Clip} (h : c.f = 0) : c.ms = c.nums.map fun n => ⟨c.reel, n, 0⟩ := by
  unfold Clip.ms
  cases hn : c.nums with
  | nil => rfl
  | cons x r => rw [h]; rfl
theorem ms_head (c : Clip) : c.ms = ⟨c.reel, c.a, c.f⟩ :: (c.nums.drop 1).map fun n => ⟨c.reel, n, 0⟩ := by
  unfold Clip.ms
  rw [Clip.nums_eq]
  rfl
theorem nums_mem {c : Clip} {n : Int} (h : n ∈ c.nums) (ha : 0 ≤ c.a ∧ c.a ≤ 1000000) (hb : 0 ≤ c.b ∧ c.b ≤ 1000000) : 0 ≤ n ∧ n ≤ 1000000 := by
  unfold Clip.nums at h
  obtain ⟨k, hk, rfl⟩ := List.mem_map.mp h
  have hk := List.mem_range.mp hk
  unfold Clip.cnt at hk
  unfold Clip.way
  split <;> omega
theorem stepR_new {r : List Clip} {m : Mo} (h : 0 < m.f) : stepR r m = ⟨m.reel, m.n, m.n, m.f⟩ :: r := by
  cases r with
  | nil => rfl
  | cons s r => rw [stepR_cons, if_neg (by omega)]
/-! ### by places -/
theorem nums_get0 (c : Clip) : c.nums[0]? = some c.a := by rw [Clip.nums_eq]; rfl
theorem nums_get {c : Clip} {k : Nat} (h : k < c.cnt) : c.nums[k]? = some (c.a + (k : Int) * c.way) := by
  unfold Clip.nums
  rw [List.getElem?_map, List.getElem?_range h]
  rfl
theorem ms_get {c : Clip} {k : Nat} {n : Int} (h : c.nums[k]? = some n) : c.ms[k]? = some ⟨c.reel, n, c.f * (if k = 0 then 1 else 0)⟩ := by
  rw [ms_head]
  cases k with
  | zero =>
    rw [nums_get0] at h
    cases h
    simp
  | succ k =>
    rw [List.getElem?_cons_succ, List.getElem?_map, List.getElem?_drop, Nat.add_comm, h]
    simp
end KS

set_option linter.all false
set_option maxRecDepth 100000
set_option maxHeartbeats 1000000
/-! Clips and strips, tuples (REEL, FIRST, LAST, FADE), in the heap. -/
namespace KS
open PySem L2 G
def Clip.vs (c : Clip) : List V := [.str c.reel, .int c.a, .int c.b, .int c.f]
theorem Clip.numsV (c : Clip) : c.nums.map V.int = rngV c.a c.cnt c.way := by
  unfold Clip.nums rngV
  rw [List.map_map]
  rfl
def Clip.d (c : Clip) : PyData := .tuple [.str c.reel, .int c.a, .int c.b, .int c.f]
/-- numbers of no great size -/
structure Sm (c : Clip) : Prop where
  a0 : 0 ≤ c.a
  a1 : c.a ≤ 1000000
  b0 : 0 ≤ c.b
  b1 : c.b ≤ 1000000
structure COk (m n : Nat) (c : Clip) : Prop where
  rl : c.reel.length ≤ 100
  rf : Fine c.reel
  a0 : 0 ≤ c.a
  a1 : c.a ≤ n
  b0 : 0 ≤ c.b
  b1 : c.b ≤ n
  f0 : 0 ≤ c.f
  f1 : c.f ≤ c.cnt
  d : c.cnt ≤ m
theorem COk.sm {m n : Nat} {c : Clip} (h : COk m n c) (hn : n ≤ 1000000) : Sm c := ⟨h.a0, by have := h.a1; omega, h.b0, by have := h.b1; omega⟩
theorem COk.mono {m n m' n' : Nat} {c : Clip} (h : COk m n c) (hm : m ≤ m') (hn : n ≤ n') : COk m' n' c := ⟨h.rl, h.rf, h.a0, by have := h.a1; omega, h.b0, by have := h.b1; omega, h.f0, h.f1, by have := h.d; omega⟩
theorem Sm.cnt {c : Clip} (h : Sm c) : c.cnt ≤ 1000001 := by
  obtain ⟨h1, h2, h3, h4⟩ := h
  unfold Clip.cnt
  omega
theorem Clip.way_cnt (c : Clip) : (c.way = 1 ∧ c.cnt = (c.b + c.way - c.a).toNat) ∨ (c.way = -1 ∧ c.cnt = (c.a - (c.b + c.way)).toNat) := by
  unfold Clip.way Clip.cnt
  by_cases h : c.b < c.a
  · right
    rw [if_pos h]
    exact ⟨rfl, by omega⟩
  · left
    rw [if_neg h]
    exact ⟨rfl, by omega⟩
def CL (m n : Nat) (H : Hp) (p : Addr) (ps : List (Addr × Clip)) : Prop := H p = some (.lst (ps.map fun x => V.ref x.1)) ∧ ∀ x ∈ ps, H x.1 = some (.tup x.2.vs) ∧ COk m n x.2
theorem CL.same {m n : Nat} {H H' : Hp} {p : Addr} {ps : List (Addr × Clip)} (h : CL m n H p ps) (s : Same H H') : CL m n H' p ps := ⟨s _ _ h.1, fun x hx => ⟨s _ _ (h.2 x hx).1, (h.2 x hx).2⟩⟩
theorem CL.mono {m n m' n' : Nat} {H : Hp} {p : Addr} {ps : List (Addr × Clip)} (h : CL m n H p ps) (hm : m ≤ m') (hn : n ≤ n') : CL m' n' H p ps := ⟨h.1, fun x hx => ⟨(h.2 x hx).1, (h.2 x hx).2.mono hm hn⟩⟩
theorem CL.nil {m n : Nat} {H : Hp} {p : Addr} (h : H p = some (.lst [])) : CL m n H p [] := ⟨h, fun x hx => nomatch hx⟩
/-- one more -/
theorem CL.push {m n : Nat} {H : Hp} {p pt : Addr} {ps : List (Addr × Clip)} {c : Clip} (h : CL m n H p ps) (ht : H pt = some (.tup c.vs)) (hc : COk m n c) : CL m n (upd H p (.lst ((ps.map fun x => V.ref x.1) ++ [.ref pt]))) p (ps ++ [(pt, c)]) := by
  have ne : ∀ a xs, H a = some (.tup xs) → a ≠ p := fun a xs e => ne_of e h.1 (by intro z; cases z)
  refine ⟨by rw [upd_same, List.map_append]; rfl, fun x hx => ?_⟩
  rcases List.mem_append.mp hx with z | z
  · obtain ⟨h1, h2⟩ := h.2 x z
    exact ⟨by rw [upd_ne (ne _ _ h1)]; exact h1, h2⟩
  · rw [List.mem_singleton.mp z]
    exact ⟨by rw [upd_ne (ne _ _ ht)]; exact ht, hc⟩
theorem get_int {ns : List Int} {j : Nat} (h : j < ns.length) : (ns.map V.int)[j]? = some (.int ns[j]) := by rw [List.getElem?_map, List.getElem?_eq_getElem h]; rfl
theorem denInts {K : PySem.W.Frag} {H : Hp} : ∀ ns : List Int, DenAll K H (ns.map V.int) (ns.map PyData.int)
  | [] => .nil
  | n :: ns => .cons (.int n) (denInts ns)
theorem denClip {K : PySem.W.Frag} {H : Hp} {p : Addr} {c : Clip} (h : H p = some (.tup c.vs)) : Den K H (.ref p) c.d := .tup (SqT.of h) (.cons (.str _) (.cons (.int _) (.cons (.int _) (.cons (.int _) .nil))))
theorem cut_drop {α : Type} (f : α → V) (ns : List α) (k : Nat) : cutV (ns.map f) (some (k : Int)) none = (ns.drop k).map f := by
  unfold cutV
  rw [HT.sIx_nat, HT.sIx_none, List.length_map, ← List.map_drop, ← List.map_take]
  congr 1
  by_cases h : k ≤ ns.length
  · rw [Nat.min_eq_left h, List.take_of_length_le (by rw [List.length_drop]; omega)]
  · rw [Nat.min_eq_right (by omega), Nat.sub_self, List.take_zero, List.drop_eq_nil_of_le (by omega)]
theorem SOk.sm {c : Clip} (h : SOk c) : Sm c := ⟨h.a0, h.a1, h.b0, h.b1⟩
theorem COk.sok {m n : Nat} {c : Clip} (h : COk m n c) (hm : m ≤ 1000000) (hn : n ≤ 1000000) : SOk c := ⟨h.rl, h.rf, h.a0, by have := h.a1; omega, h.b0, by have := h.b1; omega, h.f0, by have := h.f1; have := h.d; omega⟩
theorem COk.mok {m n : Nat} {c : Clip} (h : COk m n c) (hm : m ≤ 1000000) (hn : n ≤ 1000000) : ∀ x ∈ c.ms, MOk x := by
  have s := h.sok hm hn
  intro x hx
  rw [ms_head] at hx
  rcases List.mem_cons.mp hx with rfl | hx
  · exact ⟨s.rl, s.rf, s.a0, s.a1, s.f0, s.f1⟩
  · obtain ⟨y, hy, rfl⟩ := List.mem_map.mp hx
    obtain ⟨h1, h2⟩ := nums_mem (List.mem_of_mem_drop hy) ⟨s.a0, s.a1⟩ ⟨s.b0, s.b1⟩
    exact ⟨s.rl, s.rf, h1, h2, Int.le_refl 0, (by decide : (0 : Int) ≤ 1000000)⟩
/-- all but what lies at p -/
def Bt (p : Addr) (H H' : Hp) : Prop := ∀ b o, b ≠ p → H b = some o → H' b = some o
theorem Bt.refl (p : Addr) (H : Hp) : Bt p H H := fun _ _ _ h => h
theorem Bt.trans {p : Addr} {H H' H'' : Hp} (a : Bt p H H') (b : Bt p H' H'') : Bt p H H'' := fun c o hc h => b c o hc (a c o hc h)
theorem Bt.of {p : Addr} {H H' : Hp} (s : Same H H') : Bt p H H' := fun b o _ h => s b o h
theorem Bt.upd {p : Addr} {H : Hp} {o : HO} : Bt p H (upd H p o) := fun b u hb h => by rw [upd_ne hb]; exact h
theorem Bt.same {p : Addr} {H H1 H' : Hp} (s : Same H H1) (b : Bt p H1 H') (hp : H p = none) : Same H H' := fun c o h => b c o (ne_of_none h hp) (s c o h)
/-- a list of strips, the last one first -/
def SL (H : Hp) (p : Addr) (rs : List (Addr × Clip)) : Prop := H p = some (.lst (rs.reverse.map fun x => V.ref x.1)) ∧ ∀ x ∈ rs, H x.1 = some (.tup x.2.vs)
theorem SL.nil {H : Hp} {p : Addr} (h : H p = some (.lst [])) : SL H p [] := ⟨h, fun x hx => nomatch hx⟩
theorem SL.same {H H' : Hp} {p : Addr} {rs : List (Addr × Clip)} (h : SL H p rs) (s : Same H H') : SL H' p rs := ⟨s _ _ h.1, fun x hx => s _ _ (h.2 x hx)⟩
theorem SL.ne {H : Hp} {p a : Addr} {rs : List (Addr × Clip)} {xs : List V} (h : SL H p rs) (e : H a = some (.tup xs)) : a ≠ p := ne_of e h.1 (by intro z; cases z)
theorem SL.push {H : Hp} {p pt : Addr} {rs : List (Addr × Clip)} {c : Clip} (h : SL H p rs) (ht : H pt = some (.tup c.vs)) : SL (upd H p (.lst ((rs.reverse.map fun x => V.ref x.1) ++ [.ref pt]))) p ((pt, c) :: rs) := by
  refine ⟨by rw [upd_same, List.reverse_cons, List.map_append]; rfl, fun x hx => ?_⟩
  rcases List.mem_cons.mp hx with rfl | z
  · show upd H p _ pt = _
    rw [upd_ne (h.ne ht)]
    exact ht
  · rw [upd_ne (h.ne (h.2 x z))]
    exact h.2 x z
theorem SL.put {H : Hp} {p pt : Addr} {x0 : Addr × Clip} {rs : List (Addr × Clip)} {c : Clip} (h : SL H p (x0 :: rs)) (ht : H pt = some (.tup c.vs)) : SL (upd H p (.lst ((rs.reverse.map fun x => V.ref x.1) ++ [.ref pt]))) p ((pt, c) :: rs) := by
  refine ⟨by rw [upd_same, List.reverse_cons, List.map_append]; rfl, fun x hx => ?_⟩
  rcases List.mem_cons.mp hx with rfl | z
  · show upd H p _ pt = _
    rw [upd_ne (h.ne ht)]
    exact ht
  · have h2 := h.2 x (List.mem_cons_of_mem _ z)
    rw [upd_ne (h.ne h2)]
    exact h2
theorem SL.last {H : Hp} {p : Addr} {x : Addr × Clip} {rs : List (Addr × Clip)} : atI ((x :: rs).reverse.map fun x => V.ref x.1) (-1) = some (V.ref x.1) := by
  rw [List.reverse_cons, List.map_append]
  exact atI_last _ _
theorem iteN {c : Bool} {A B : Prop} (h : c = false) (b : B) : if c = true then A else B := by rw [h]; exact iteF b
theorem iteY {c : Bool} {A B : Prop} (h : c = true) (a : A) : if c = true then A else B := by rw [h]; exact iteT a
theorem snoc_cases {α : Type} : ∀ l : List α, l = [] ∨ ∃ L b, l = L ++ [b]
  | [] => .inl rfl
  | a :: r => .inr (by
    rcases snoc_cases r with rfl | ⟨L, b, rfl⟩
    · exact ⟨[], a, rfl⟩
    · exact ⟨a :: L, b, rfl⟩)
end KS

set_option linter.all false
set_option maxRecDepth 100000
set_option maxHeartbeats 4000000
/-! name = [.. for ..]: the store is exchanged with the letting go of the block's own names. -/
namespace L2
open PySem PySem.Spec PyProof.Rows
/-- a place that this block does not see is written -/
theorem Inv.but {X : Cx} {pins : List (Addr × Obj)} {σ : St} {H : Hp} {s : Shared} {C : Addr} {h' : Heap} (I : Inv X pins σ H s) (sb : Heap.SameBut C s.heap h') (f : FpOk X pins H C) (hx : X.s₀.heap.get? C = none := by assumption) : Inv X pins σ H { s with heap := h' } := by
  obtain ⟨f0, f1, f2, f3, f4, f5⟩ := f
  have ne0 : ∀ b o, X.s₀.heap.get? b = some o → b ≠ C := fun b o e z => by rw [z, hx] at e; cases e
  have cellS : ∀ {c v}, c ≠ C → s.heap.IsCell c v → h'.IsCell c v := fun hc ⟨o, ho, hd⟩ => ⟨o, (sb.2 _ hc).trans ho, hd⟩
  refine ⟨I.ok, I.os, I.bare, ⟨fun b o e n hb he => (sb.2 b (ne0 b o e)).trans (I.base.keep b o e n hb he), fun b o e n hb he => ?_, I.base.free, fun b o e he => ?_, I.base.tups, I.base.frzs, I.base.tbls⟩, ?_, fun x c e => ?_, I.free, I.freeC, fun p hp => ?_, fun b u e => ?_, I.len⟩
  · obtain ⟨sl, q⟩ := I.base.slot b o e n hb he
    exact ⟨sl, (sb.2 b (ne0 b o e)).trans q⟩
  · obtain ⟨o', q⟩ := I.base.there b o e he
    exact ⟨o', (sb.2 b (ne0 b o e)).trans q⟩
  · obtain ⟨m, hm, hl⟩ := I.loc
    refine ⟨m, hm.sameBut sb (Ne.symm f1), fun i x v e1 e2 e3 => ?_⟩
    obtain ⟨u, r, l⟩ := hl i x v e1 e2 e3
    refine ⟨u, r, ?_⟩
    rcases l with l | ⟨l1, c, l2, l3⟩
    · exact .inl l
    · exact .inr ⟨l1, c, l2, cellS (f4 _ _ l2) l3⟩
  · obtain ⟨v, q⟩ := I.cell x c e
    exact ⟨v, cellS (f4 _ _ e) q⟩
  · obtain ⟨q1, q2⟩ := I.pin p hp
    exact ⟨(sb.2 _ (f5 p hp)).trans q1, q2⟩
  · refine (I.hok b u e).stay (fun c v hc z => (sb.2 c ?_).trans z) (fun _ z => z) fun _ _ z => z
    rintro rfl
    rcases hc with hc | hc
    · rw [← hc, f0] at e; cases e
    · rw [f0] at hc; cases hc
section
variable {X : Cx} {x : Str} {px pos : Pos} {elt iter : Expr} {sc : Scope} {ys : List Str} {js : List Nat} {cl : List (Str × Addr)}
theorem ps_comp {wi : TI} {te : TE} {i0 : Nat} {y0 : Str} {py spos : Pos} (hN : X.N.Nodup) (hi0 : X.N[i0]? = some y0) (hy0 : X.env.scope.names.lookup y0 = some .local) (hsw : swapsWith (.ListComp elt [⟨.Name x px, iter, [], 0⟩] sc pos) (some (.Name y0 py)) spos.line X.env = pure true) (hclos : closureFor sc X.env = pure cl) (hcell : ∀ y ∈ sc.names, y.2 ≠ .cell) (hkind : sc.kind = .function) (hnames : ∀ y ∈ sc.names, y.2 = .local → sc.names.lookup y.1 = some .local)
    (hx : (relabel sc X.env).names.lookup x = some .local) (hcap : Caps X sc cl ys js) (hin : ∀ y c, cl.lookup y = some c → X.env.cells.lookup y = some c)
    (hhas : ∀ y, ((relabel sc X.env).names.lookup y = some .cell ∨ (relabel sc X.env).names.lookup y = some .free) → ∃ c, cl.lookup y = some c) (hnd : (x :: ys).Nodup) (hc : X.calm = true)
    (hi : PI X.nox (.Name x px) iter wi) (he : ∀ s2 H2 C ex, PE (compCx X sc (x :: ys) cl s2 H2 C ex) elt te) (hs : ∀ v, foldedSetIterable iter X.env v = pure v := by intro _; rfl) :
    PS X (.Assign [.Name y0 py] (.ListComp elt [⟨.Name x px, iter, [], 0⟩] sc pos) spos) (tAsg (tComp wi js te) (gName i0)) := by
  intro pins s σ H DE I h
  rw [exec_Assign_Name_used _ _ _ _ hsw]
  refine wpAny_bind (wpAny_standAt (wpAny_bind ?_))
  show wpAny _ _ (do let _ ← comprehension (.ListComp elt [⟨.Name x px, iter, [], 0⟩] sc pos) sc X.env _ (newList []) false (eval iter X.env) (some (assign (.Name y0 py) X.env))) _ _ s
  refine wpAny_bind (wpAny_mono (E := fun _ _ => False) (wpAny_comprehension_free (use := some (assign (.Name y0 py) X.env)) (Q := fun _ s' => SP X pins DE .next s') rfl hs hclos hkind hnames (wpAny_mono (hi pins s σ H _ (I.wish _) h) ?_ fun _ _ z => False.elim z)) (fun _ s' hq => wpAny_pure (wpAny_pure hq)) fun _ _ z => False.elim z)
  intro v s1 h1
  refine wpAny_mono h1 ?_ fun _ _ z => False.elim z
  rintro itv s2 ⟨it, fp, tn, J, H2, rfl, I2w, T, st2, f2w, q⟩
  have I2 := I2w.unwish
  have f2 : ∀ b ∈ fp, FpOk X pins H2 b := f2w
  -- the list that grows, the block's own names
  refine wpAny_newObj_type (wpAny_newFunctionEnv hcell (by intro y hy; simp at hy) (fun h4 hns hsb => ?_) hkind)
  dsimp only at hns hsb ⊢
  generalize hE : s2.heap.push { cls := .type "list", dict := none, data := .seq ([] : List Value).toArray } = g3 at hns hsb ⊢
  have hsz : g3.objs.size = s2.heap.objs.size + 1 := by rw [← hE, Heap.size_push]
  have hDC : s2.heap.objs.size ≠ g3.objs.size := by omega
  have old : ∀ b o, s2.heap.get? b = some o → h4.get? b = some o := fun b o e => by
    have lt : b < s2.heap.objs.size := Heap.lt_size e
    rw [hsb.2 b (Nat.ne_of_lt (by rw [hsz]; exact Nat.lt_succ_of_lt lt))]
    exact Heap.get?_push_of_some _ (hE ▸ Heap.get?_push_of_some _ e)
  have hD0 : H2 s2.heap.objs.size = none := I2.hok.fresh (Nat.le_refl _)
  have hC0 : H2 g3.objs.size = none := I2.hok.fresh (by omega)
  have hDat : h4.get? s2.heap.objs.size = some { cls := .type "list", data := .seq ([] : List Value).toArray } := by
    rw [hsb.2 _ hDC]
    exact Heap.get?_push_of_some _ (hE ▸ Heap.get?_push_size _ rfl)
  obtain ⟨W, ⟨m0, w0⟩, turn⟩ := q s2.heap.objs.size hD0
  have hfl : ∀ b ∈ fp, b < s2.heap.objs.size := fun b hb => by
    obtain ⟨o, e, _⟩ := T.obj _ _ st2 b hb
    exact Heap.lt_size e
  have J0 : Inv (compCx X sc (x :: ys) cl s2 H2 g3.objs.size fp) [] (none :: capt σ js) (upd H2 s2.heap.objs.size (.lst [])) { s2 with heap := h4, toks := s2.toks + ([] : List (Str × Value)).length } := by
    refine inv_comp (m := fun y => ([] : List (Str × Value)).reverse.lookup y) I2 f2 hkind hcap hin hhas hfl (by omega) rfl I2.bare (Un.laid old (Nat.le_refl _) hD0) old hns ?_ ?_
    · rw [upd_ne (Ne.symm hDC)]; exact hC0
    · exact I2.hok.laid old (Nat.le_refl _) ⟨Nat.zero_le _, [], 0, .nil, hDat⟩
  have st4 : tn 0 h4 := T.keep _ _ _ st2 fun b hb o e => old b o e
  have xcell : ∀ y c, (compCx X sc (x :: ys) cl s2 H2 g3.objs.size fp).env.cells.lookup y = some c → X.env.cells.lookup y = some c := hin
  have stat : ∀ {H' : Hp}, (∀ b ∈ fp, H' b = none) → ∀ b ∈ fp, FpOk (compCx X sc (x :: ys) cl s2 H2 g3.objs.size fp) [] H' b := fun hn b hb => by
    refine ⟨hn b hb, ?_, ?_, .inl hb, fun y c e => (f2 b hb).2.2.2.2.1 y c (hin y c e), fun p hp => absurd (show p ∈ ([] : List (Addr × Obj)) from hp) (by simp)⟩
    · have lt : b < s2.heap.objs.size := hfl b hb
      exact Nat.ne_of_lt (by show b < g3.objs.size; rw [hsz]; exact Nat.lt_succ_of_lt lt)
    · intro z
      rcases List.mem_cons.mp (I2.stkSub b z) with q | q
      · exact (f2 b hb).2.1 q
      · exact (f2 b hb).2.2.1 q
  have fin : ∀ {σ' : St} {H' : Hp} {s' : Shared}, Inv (compCx X sc (x :: ys) cl s2 H2 g3.objs.size fp) [] σ' H' s' → gName i0 (.ref s2.heap.objs.size) σ H' DE.nx →
      compPost (model X.prog X.w) X.A (fun _ _ => False) (some (assign (.Name y0 py) X.env)) (fun _ s' => SP X pins DE .next s') (.ref s2.heap.objs.size) g3.objs.size (.ok .next) s' := fun {σ' H' s'} J' q' => by
    obtain ⟨m, hm, _⟩ := J'.loc
    have neC : ∀ b o, s2.heap.get? b = some o → b ≠ g3.objs.size := fun b o e => by
      have lt : b < s2.heap.objs.size := Heap.lt_size e
      exact Nat.ne_of_lt (by rw [hsz]; exact Nat.lt_succ_of_lt lt)
    have ub := J'.base
    have I' : Inv X pins σ H' s' := I2.call' (ch := fp) J'.os ub J'.hok J'.bare fun b hb => ⟨(f2 b hb).2.2.2.1, (f2 b hb).2.1, (f2 b hb).2.2.2.2.1, (f2 b hb).2.2.2.2.2⟩
    have fC : FpOk X pins H' g3.objs.size := I2.fpOk (by omega) J'.free
    show wpAny _ _ (assign (.Name y0 py) X.env (.ref s2.heap.objs.size)) _ _ s'
    refine wpAny_assign_Name (store_ok2 (v := .ref s2.heap.objs.size) I' hN hi0 (.inl hy0) rfl (fun s3 I3 sb3 => ?_) (.inr hy0))
    obtain ⟨a3, sb3, ha3⟩ := sb3
    have na : g3.objs.size ≠ a3 := by
      rcases ha3 with rfl | z
      · exact fC.2.1
      · exact fun e => fC.2.2.2.2.1 _ _ z e.symm
    have h0 : X.s₀.heap.get? g3.objs.size = none := by
      cases e : X.s₀.heap.get? g3.objs.size with
      | none => rfl
      | some o =>
        have l1 := Heap.lt_size e
        exact absurd (Nat.lt_of_lt_of_le l1 (Nat.le_trans I2.sz (Nat.le_trans (Nat.le_succ _) (Nat.le_of_eq hsz.symm)))) (Nat.lt_irrefl _)
    exact ⟨m, hm.sameBut sb3 na, fun h' sb => ⟨_, H', I3.but sb fC h0, q'⟩⟩
  have loop : ∀ s4 : Shared, s4 = { s2 with heap := h4, toks := s2.toks + ([] : List (Str × Value)).length } →
      codeAny (model X.prog X.w) X.A (.compLoop (.ListComp elt [⟨.Name x px, iter, [], 0⟩] sc pos) 0 (.ref it) (.ref s2.heap.objs.size) (compEnvC sc cl g3.objs.size X.env))
        (compPost (model X.prog X.w) X.A (fun _ _ => False) (some (assign (.Name y0 py) X.env)) (fun _ s' => SP X pins DE .next s') (.ref s2.heap.objs.size) g3.objs.size) s4 := by
    rintro s4 rfl
    refine comp_loop (fun n s' => ∃ i xo ys' H', Inv (compCx X sc (x :: ys) cl s2 H2 g3.objs.size fp) [] (xo :: capt σ js) H' s' ∧ tn i s'.heap ∧ (∀ b ∈ fp, H' b = none) ∧ W i n ys' H') ?_ m0 ⟨0, none, [], _, J0, st4, fun b hb => ?_, w0⟩
    · rintro n s' ⟨i, xo, ys', H', J', st', fr', w'⟩
      obtain ⟨hD, alt⟩ := turn i n ys' H' w'
      rcases alt with ⟨stop, qn⟩ | ⟨go, step⟩
      · refine wpAny_mono (T.done (compCx X sc (x :: ys) cl s2 H2 g3.objs.size fp) rfl rfl rfl hc i [] s' _ H' (fun _ _ => False) J' (stat fr') st' stop) ?_ fun _ _ z => z
        rintro r s'' ⟨rfl, J''⟩
        exact fin J'' qn
      · refine wpAny_mono (T.item (compCx X sc (x :: ys) cl s2 H2 g3.objs.size fp) rfl rfl rfl hc i [] s' _ H' (fun _ _ => False) J' (stat fr') st' go) ?_ fun _ _ z => z
        rintro r s'' ⟨u, rfl, hu⟩
        refine wpAny_mono hu ?_ fun _ _ z => z
        rintro _ s5 ⟨xv, H5, J5, r5, y5, st5, fr5⟩
        have J5' := J5.pinned (stat fr5) (T.obj _ _ st5)
        refine wpAny_assign_Name (store_ok (X := compCx X sc (x :: ys) cl s2 H2 g3.objs.size fp) (i := 0) J5' hnd rfl (.inl hx) r5 (fun s6 J6 => ?_) (.inr hx))
        refine wpAny_mono (he s2 H2 g3.objs.size fp _ s6 _ H5 _ J6 (step xv H5 y5)) ?_ fun _ _ z => z
        rintro yv s7 ⟨yy, H7, J7, r7, hD7, hlen, m', hm', w7⟩
        refine wpAny_mono (mt_append (X := compCx X sc (x :: ys) cl s2 H2 g3.objs.size fp) _ s7 _ H7 (.ref s2.heap.objs.size) [yy] (.ref s2.heap.objs.size) [yv] (fun _ H8 => H8 = upd H7 s2.heap.objs.size (.lst (ys' ++ [yy]))) J7 rfl (.cons r7 .nil) ⟨_, ys', yy, rfl, rfl, hD7, hlen, rfl⟩) ?_ fun _ _ z => z
        rintro _ s8 ⟨_, H8, J8, _, rfl⟩
        have pinned : ∀ b ∈ fp, ∀ o, s5.heap.get? b = some o → s8.heap.get? b = some o ∧ (upd H7 s2.heap.objs.size (.lst (ys' ++ [yy]))) b = none := fun b hb o e => by
          obtain ⟨q1, q2, _⟩ := J8.pin (b, o) (List.mem_append_right _ (List.mem_append_right _ (mem_pinsAt hb e)))
          exact ⟨q1, q2⟩
        refine ⟨m', hm', i + 1, some xv, ys' ++ [yy], _, J8.unpinned, T.keep _ _ _ st5 fun b hb o e => (pinned b hb o e).1, fun b hb => ?_, w7⟩
        obtain ⟨o, e, _⟩ := T.obj _ _ st5 b hb
        exact (pinned b hb o e).2
    · rw [upd_ne (Nat.ne_of_lt (hfl b hb))]
      exact (f2 b hb).1
  exact codeAny_compStart_list (loop _ rfl) (T.self _ _ _ _ _ st4 (loop _ rfl))
end
theorem ps_compR {X : Cx} {i0 : Nat} {y0 : Str} {py spos : Pos} {x : Str} {px pos : Pos} {elt iter : Expr} {sc : Scope} {wi : TI} {te : TE} (hN : X.N.Nodup) (ys : List Str) (js : List Nat) (cl : List (Str × Addr)) (hclos : closureFor sc X.env = pure cl) (hcap : Caps X sc cl ys js) (hin : ClIn X.env cl)
    (hi : PI X.nox (.Name x px) iter wi) (he : ∀ s2 H2 C ex, PE (compCx X sc (x :: ys) cl s2 H2 C ex) elt te) (hc : X.calm = true := by rfl)
    (hcell : (sc.names.all fun p => p.2 != NameKind.cell) = true := by rfl) (hkind : sc.kind = .function := by rfl) (hnames : (sc.names.all fun p => p.2 != NameKind.local || sc.names.lookup p.1 == some NameKind.local) = true := by rfl)
    (hx : (relabel sc X.env).names.lookup x = some .local := by rfl) (hhas : ((relabel sc X.env).names.all fun p => p.2 == NameKind.local || p.2 == NameKind.globalImplicit || (cl.lookup p.1).isSome) = true := by rfl)
    (hnd : (x :: ys).Nodup := by decide +kernel) (hs : ∀ v, foldedSetIterable iter X.env v = pure v := by intro _; rfl) (hi0 : X.N[i0]? = some y0 := by kernel_rfl) (hy0 : X.env.scope.names.lookup y0 = some .local := by kernel_rfl) (hsw : swapsWith (.ListComp elt [⟨.Name x px, iter, [], 0⟩] sc pos) (some (.Name y0 py)) spos.line X.env = pure true := by kernel_rfl) :
    PS X (.Assign [.Name y0 py] (.ListComp elt [⟨.Name x px, iter, [], 0⟩] sc pos) spos) (tAsg (tComp wi js te) (gName i0)) := by
  refine ps_comp hN hi0 hy0 hsw hclos (fun y hy z => ?_) hkind (fun y hy z => ?_) hx hcap (fun y c e => hin.mem (PySem.mem_of_lookup e)) (fun y h => ?_) hnd hc hi he hs
  · have := List.all_eq_true.mp hcell y hy
    rw [z] at this
    exact absurd this (by decide)
  · have := List.all_eq_true.mp hnames y hy
    rw [z] at this
    simpa using this
  · have hm : ∃ k, (y, k) ∈ (relabel sc X.env).names ∧ (k = .cell ∨ k = .free) := by
      rcases h with h | h
      · exact ⟨_, PySem.mem_of_lookup h, .inl rfl⟩
      · exact ⟨_, PySem.mem_of_lookup h, .inr rfl⟩
    obtain ⟨k, hk, hz⟩ := hm
    have := List.all_eq_true.mp hhas _ hk
    rcases hz with rfl | rfl
    · exact Option.isSome_iff_exists.mp (by simpa using this)
    · exact Option.isSome_iff_exists.mp (by simpa using this)
end L2
namespace L2
open PySem PySem.Spec PyProof.Rows
/-- name = [.. for ..] -/
theorem s_comp {X : Cx} {i : Nat} {y0 : Str} {py spos : Pos} {x : Str} {px pos : Pos} {elt iter : Expr} {sc : Scope} {wi : TI} {te : TE} (hN : X.N.Nodup) (ys : List Str) (js : List Nat) (cl : List (Str × Addr)) (hclos : closureFor sc X.env = pure cl) (hcap : Caps X sc cl ys js) (hin : ClIn X.env cl)
    (hi : QI X.nox (.Name x px) iter wi) (he : ∀ s2 H2 C ex, QE (compCx X sc (x :: ys) cl s2 H2 C ex) elt te) (hc : X.calm = true := by rfl)
    (hcell : (sc.names.all fun p => p.2 != NameKind.cell) = true := by rfl) (hkind : sc.kind = .function := by rfl) (hnames : (sc.names.all fun p => p.2 != NameKind.local || sc.names.lookup p.1 == some NameKind.local) = true := by rfl)
    (hx : (relabel sc X.env).names.lookup x = some .local := by rfl) (hhas : ((relabel sc X.env).names.all fun p => p.2 == NameKind.local || p.2 == NameKind.globalImplicit || (cl.lookup p.1).isSome) = true := by rfl)
    (hnd : (x :: ys).Nodup := by decide +kernel) (hs : ∀ v, foldedSetIterable iter X.env v = pure v := by intro _; rfl) (hi0 : X.N[i]? = some y0 := by kernel_rfl) (hy0 : X.env.scope.names.lookup y0 = some .local := by kernel_rfl)
    (hsw : swapsWith (.ListComp elt [⟨.Name x px, iter, [], 0⟩] sc pos) (some (.Name y0 py)) spos.line X.env = pure true := by kernel_rfl) :
    QS X (.Assign [.Name y0 py] (.ListComp elt [⟨.Name x px, iter, [], 0⟩] sc pos) spos) (tAsg (tComp wi js te) (gName i)) :=
  ⟨ps_compR hN ys js cl hclos hcap hin hi.h (fun a b c d => (he a b c d).h) hc hcell hkind hnames hx hhas hnd hs hi0 hy0 hsw⟩
/-! a list of texts, written out -/
def strC : Expr → Option Str
  | .Constant (.str x) _ _ => some x
  | _ => none
theorem strC_is {e : Expr} {x : Str} (h : strC e = some x) : ∃ j pos, e = .Constant (.str x) j pos := by
  unfold strC at h
  split at h
  · cases h
    exact ⟨_, _, rfl⟩
  · cases h
theorem nostar_str {x : Str} {j pos} : nostar (.Constant (.str x) j pos) = true := rfl
theorem a_strs {X : Cx} : ∀ (es : List Expr) (xs : List Str), es.map strC = xs.map some → ∃ t, QA X es t ∧ ∀ σ H (Q : List V → Hp → Prop), Q (xs.map V.str) H → t σ H Q
  | [], [], _ => ⟨_, a_nil, fun _ _ _ h => h⟩
  | [], _ :: _, h => by cases h
  | _ :: _, [], h => by cases h
  | e :: es, x :: xs, h => by
    rw [List.map_cons, List.map_cons] at h
    obtain ⟨h1, h2⟩ := List.cons.inj h
    obtain ⟨j, pos, rfl⟩ := strC_is h1
    obtain ⟨t, q, r⟩ := a_strs es xs h2
    exact ⟨_, a_cons e_str q nostar_str, fun σ H Q h => r σ H _ h⟩
/-- ["..", "..", ..] -/
theorem e_lstS {X : Cx} (xs : List Str) {es : List Expr} {pos} (h : es.map strC = xs.map some := by kernel_rfl) : QE X (.List es pos) (fun _ H Q => xs.length ≤ sizeLine ∧ ∀ p, H p = none → Q (.ref p) (upd H p (.lst (xs.map V.str)))) := by
  obtain ⟨t, q, r⟩ := a_strs (X := X) es xs h
  refine ⟨fun pins s σ H Q I hq => (e_lst q).h pins s σ H Q I ?_⟩
  exact r σ H _ ⟨by rw [List.length_map]; exact hq.1, hq.2⟩
end L2

set_option linter.all false
set_option maxRecDepth 100000
set_option maxHeartbeats 4000000
namespace PySem
namespace F
end F
section
variable {prog : Program} {w : World} {A : Around} {E : Value → Shared → Prop} {s : Shared}
def revTObj (l : Addr) (i : Int) : Obj := { cls := .type "reversed", data := .fields #[.ref l, rawInt i] }
def Heap.IsRevT (h : Heap) (a l : Addr) (i : Int) : Prop := ∃ o, h.get? a = some o ∧ o.cls = .type "reversed" ∧ o.data = .fields #[.ref l, rawInt i]
open PyProof.Rows in
open PyProof.Rows in
end
end PySem

set_option linter.all false
set_option maxRecDepth 100000
set_option maxHeartbeats 4000000
namespace PySem
section
variable {prog : Program} {w : World} {A : Around} {E : Value → Shared → Prop} {s : Shared}
open PyProof.Rows in
end
end PySem

set_option linter.all false
set_option maxRecDepth 100000
set_option maxHeartbeats 4000000
/-! d[k], extend, any(..), for x in reversed(a tuple). -/
namespace L2
open PySem PySem.Spec PyProof.Rows
section
variable {X : Cx}
theorem e_extend {o e : Expr} {to te : TE} {apos cpos : Pos} (ho : QE X o to) (ha : QE X e te) (hs : nostar e = true := by rfl) (hbase : attributeBase o "extend" X.env (eval o X.env) = eval o X.env := by rfl) (hline : (apos.endLine == cpos.line) = true := by rfl) :
    QE X (.Call (.Attribute o "extend" apos) [e] [] cpos) (tBM X.K "list" rExtend to (tCons te tNil)) := ⟨pe_bm PySem.F.plainAttrs_list PySem.F.slot_list_extend PySem.F.type_list_extend mt_extend ho.h (pa' ha.h pa_nil hs) hbase (by rw [star_plain hs]; rfl) hline (star_plain hs)⟩
end
/-! t + u, t[a:b], whatever they are -/
theorem cat_tupG {prog : Program} {w : World} {A : Around} {E : Value → Shared → Prop} {s : Shared} {t b : Addr} {vs ws : List Value} {Q : Value → Shared → Prop} (ht : IsTup s.heap t vs.toArray) (hb : IsTup s.heap b ws.toArray) (h0 : vs = [] → Q (.ref b) s)
    (h1 : vs ≠ [] → ws = [] → Q (.ref t) s) (h2 : vs ≠ [] → ws ≠ [] → Q (.ref s.heap.objs.size) { s with heap := s.heap.push { cls := .type "tuple", data := .seq (vs ++ ws).toArray } })
    (hsz : vs.length + ws.length ≤ sizeLine) : wpAny (model prog w) A (binaryOp .Add (.ref t) (.ref b)) Q E s := by
  by_cases hv : vs = []
  · obtain ⟨⟨cls, dd, data, sl⟩, ho, hc, n, hd⟩ := id ht
    obtain ⟨⟨cls2, dd2, data2, sl2⟩, ho2, hc2, n2, hd2⟩ := id hb
    simp only at hc hd hc2 hd2
    subst hc hd hc2 hd2
    exact concat_meets ⟨_, ho, rfl⟩ ⟨_, ho2, rfl⟩ noFill_tuple_add seq_tuple_add PySem.F.slot_tuple_add PySem.F.entry_tuple_add (PySem.F.args_tuple_add_2 _ _)
      (tuple_addW0 t b vs.toArray ws.toArray n n2 dd dd2 sl sl2 (by simp [hv])) ⟨ho, ho2, h0 hv⟩
  · exact HT.cat_tup ht hb hv (h1 hv) (h2 hv) hsz
def rCatG : R2 := fun x y H Q => ∃ a b xs ys, x = .ref a ∧ y = .ref b ∧ H a = some (.tup xs) ∧ H b = some (.tup ys) ∧ xs.length + ys.length ≤ sizeLine ∧ ∀ p H', Same H H' → H' p = some (.tup (xs ++ ys)) → Q (.ref p) H'
section
variable {X : Cx}
theorem op_catG : OpR X (binaryOp .Add) rCatG := by
  intro pins s σ H x y v u Q I rx ry h
  obtain ⟨a, b, xs, ys, rfl, rfl, ha, hb, hz, q⟩ := h
  cases rx
  cases ry
  obtain ⟨its, r1, p1, _⟩ := I.tuple (SqT.of (K := X.K) ha)
  obtain ⟨its2, r2, p2, _⟩ := I.tuple (SqT.of (K := X.K) hb)
  refine cat_tupG p1 p2 (fun z => ⟨.ref b, H, I, rfl, q b H (Same.refl _) ?_⟩) (fun _ z => ⟨.ref a, H, I, rfl, q a H (Same.refl _) ?_⟩) (fun _ z => ?_) (by rw [← r1.length, ← r2.length]; exact hz)
  · rw [r1.nil_iff.mp z]
    exact hb
  · rw [r2.nil_iff.mp z, List.append_nil]
    exact ha
  · have fr : H s.heap.objs.size = none := I.hok.fresh (Nat.le_refl _)
    refine ⟨.ref s.heap.objs.size, _, I.laid (t' := s.toks) (o := .tup (xs ++ ys)) (fun b ob q => Heap.get?_push_of_some _ q) (Nat.le_refl _) ?_, rfl, q _ _ (Same.new fr _) upd_same⟩
    exact ⟨by rw [List.length_append]; exact hz, _, r1.append r2, IsTup.new _ _⟩
theorem getItem_tuple_whole {prog : Program} {w : World} {A : Around} {E : Value → Shared → Prop} {s : Shared} {t sl : Addr} {items : Array Value} {vl vu : Value} {lo hi : Option Int} {Q : Value → Shared → Prop} (ht : IsTup s.heap t items) (hs : s.heap.IsSliceOf sl vl vu .none) (pl : IsPart vl lo) (pu : IsPart vu hi)
    (hw : HT.sIx items.size 0 lo = 0 ∧ HT.sIx items.size items.size hi = items.size) (h : Q (.ref t) s) : wpAny (model prog w) A (getItem (.ref t) (.ref sl)) Q E s := by
  obtain ⟨os, hos, hcs, hds⟩ := id hs
  have hTs : s.TypeIs (.ref sl) "slice" := ⟨os, hos, hcs⟩
  unfold getItem
  try with_reducible refine wpAny_holding ?_
  first | refine wpAny_bind (wpAny_pure ?_) | skip
  refine wpAny_bind (wpAny_sequenceKey ht.typeIs (by decide) ?_)
  refine wpAny_bind (wpAny_callSpecial?_slot (name := Str.ofString "__getitem__") ht.typeIs PyProof.Rows.slot_tuple_getitem
    (wpAny_call_entry PyProof.Rows.slot_tuple_getitem ht.typeIs entry_tuple_getitem ?_ (args_tuple_getitem _ _)))
  show wpAny _ _ (Builtin.Tuple.tupleItemsOf (.ref t) >>= _) _ _ s
  refine wpAny_bind (tupleItemsOf_ ht ?_)
  refine wpAny_bind (wpAny_typeOf hTs ?_)
  rw [if_pos (by decide)]
  refine wpAny_bind (HT.sliceApplied_gen hs pl pu ?_)
  have hyes : (((HT.sIx items.size 0 lo : Nat) : Int) == 0 && (1 : Int) == 1 && (HT.sIx items.size items.size hi - HT.sIx items.size 0 lo) == items.size) = true := by
    rw [hw.1, hw.2]
    simp
  show wpAny _ _ (if (((HT.sIx items.size 0 lo : Nat) : Int) == 0 && (1 : Int) == 1 && (HT.sIx items.size items.size hi - HT.sIx items.size 0 lo) == items.size) = true then _ else _) _ _ s
  rw [if_pos hyes]
  refine wpAny_bind (m := Builtin.Tuple.tupleIsExact _) ?_
  show wpAny _ _ (typeOf (.ref t) >>= _) _ _ s
  refine wpAny_bind (wpAny_typeOf ht.typeIs (wpAny_pure ?_))
  rw [if_pos (by decide)]
  refine wpAny_bind (wpAny_rule ?_)
  exact wpAny_pure ⟨_, rfl, wpAny_pure h⟩
def rSlG : V → Option Int → Option Int → Hp → VK → Prop := fun x lo hi H Q => ∃ a xs, x = .ref a ∧ H a = some (.tup xs) ∧ ∀ p H', Same H H' → H' p = some (.tup (cutV xs lo hi)) → Q (.ref p) H'
theorem sl_tupG : SlR X rSlG := by
  intro pins s σ H x v vl vu lo hi sl Q I rx hs pl pu h
  obtain ⟨a, xs, rfl, hx, q⟩ := h
  cases rx
  obtain ⟨its, r, ht, hz⟩ := I.tuple (SqT.of (K := X.K) hx)
  have hlen : its.toArray.size = xs.length := by rw [List.size_toArray]; exact r.length.symm
  refine ⟨"tuple", _, PyProof.Rows.slot_tuple_getitem.lookup, ht.typeIs, ?_⟩
  by_cases hw : HT.sIx xs.length 0 lo = 0 ∧ HT.sIx xs.length xs.length hi = xs.length
  · refine getItem_tuple_whole ht hs pl pu (by rw [hlen]; exact hw) ⟨.ref a, H, I, rfl, q a H (Same.refl _) ?_⟩
    unfold cutV
    rw [hw.1, hw.2, List.drop_zero, Nat.sub_zero, List.take_length]
    exact hx
  · refine HT.getItem_tuple_cut ht hs pl pu (by rw [hlen]; exact hw) ?_ (by rw [hlen]; exact hz)
    rw [hlen]
    have fr : H s.heap.objs.size = none := I.hok.fresh (Nat.le_refl _)
    refine ⟨.ref s.heap.objs.size, _, I.laid (t' := s.toks) (o := .tup (cutV xs lo hi)) (fun b ob q => Heap.get?_push_of_some _ q) (Nat.le_refl _) ?_, rfl, q _ _ (Same.new fr _) upd_same⟩
    exact ⟨Nat.le_trans (cutV_length xs lo hi) hz, _, (r.drop (HT.sIx xs.length 0 lo)).take (HT.sIx xs.length xs.length hi - HT.sIx xs.length 0 lo), IsTup.new _ _⟩
end
/-- a tuple from its end on -/
def Itv (K : PySem.W.Frag) (a : Addr) (xs : List V) : It :=
  ⟨fun i H => SqT K H a xs ∧ i < xs.length, fun i H x H' => H' = H ∧ xs.reverse[i]? = some x, fun i H => SqT K H a xs ∧ xs.length ≤ i⟩
def iRevT (K : PySem.W.Frag) (ta : TA) : TI := fun σ H R => ta σ H fun vs H1 => ∃ a xs, vs = [.ref a] ∧ SqT K H1 a xs ∧ R (Itv K a xs) H1
section
variable {X : Cx}
end
end L2

set_option linter.all false
set_option maxRecDepth 100000
set_option maxHeartbeats 1000000
/-! Lists of items, as trees: a part bears its list with it. What they play; turned about. -/
namespace IT
open PySem
inductive It where
  | clip (r : Str) (f l : Int)
  | times (m : Int) (xs : List It)
  | back (xs : List It)
  | part (n : Str) (xs : List It)
  | fade (m : Int)
structure Cl where
  r : Str
  f : Int
  l : Int
  d : Int
def isF : It → Bool
  | .fade _ => true
  | _ => false
/-- the first clip's fade -/
def setF (m : Int) : List Cl → List Cl
  | [] => []
  | c :: r => ⟨c.r, c.f, c.l, m⟩ :: r
def revA : Int → List Cl → List Cl
  | _, [] => []
  | a, c :: r => ⟨c.r, c.l, c.f, a⟩ :: revA c.d r
def rev (cs : List Cl) : List Cl := revA 0 cs.reverse
def rep (n : Nat) (A : List Cl) : List Cl := (List.replicate n A).flatten
def step (x : It) (more : List Cl) (s : List Cl × Int) : List Cl × Int :=
  match x with
  | .fade m => (s.1, m)
  | _ => match more with
    | [] => s
    | c :: r => (s.1 ++ setF s.2 (c :: r), 0)
mutual
def flI : It → List Cl
  | .clip r f l => [⟨r, f, l, 0⟩]
  | .times m xs => rep m.toNat (run xs ([], 0)).1
  | .back xs => rev (run xs ([], 0)).1
  | .part _ xs => (run xs ([], 0)).1
  | .fade _ => []
def run : List It → List Cl × Int → List Cl × Int
  | [], s => s
  | x :: r, s => run r (step x (flI x) s)
end
def flL (xs : List It) : List Cl := (run xs ([], 0)).1
mutual
inductive WI : It → Prop
  | clip {r f l} : WI (.clip r f l)
  | times {m xs} : 1 ≤ m → m ≤ 20 → WL xs → WI (.times m xs)
  | back {xs} : WL xs → WI (.back xs)
  | part {n xs} : WL xs → WI (.part n xs)
inductive WL : List It → Prop
  | one {x} : WI x → WL [x]
  | cons {x r} : WI x → WL r → WL (x :: r)
  | fade {x m r} : WI x → WL r → WL (x :: .fade m :: r)
end
/-! the algebra of fades -/
/-- begins without a fade -/
def H0 (A : List Cl) : Prop := A ≠ [] ∧ setF 0 A = A
/-! what a good list plays -/
/-! turned about -/
def inp (xs : List It) : List It := if (xs.take 1 ++ xs.drop (xs.length - 1)).any isF then [.times 1 xs] else xs
mutual
def tI : It → List It
  | .clip r f l => [.clip r l f]
  | .times m xs => [.times m (tL xs)]
  | .part n xs => [.back [.part n xs]]
  | .back xs => inp (sL xs)
  | .fade m => [.fade m]
def tL : List It → List It
  | [] => []
  | x :: r => tL r ++ tI x
def sI : It → List It
  | .clip r f l => [.clip r f l]
  | .times m xs => [.times m (sL xs)]
  | .part n xs => [.part n xs]
  | .back xs => inp (tL xs)
  | .fade m => [.fade m]
def sL : List It → List It
  | [] => []
  | x :: r => sI x ++ sL r
end
end IT

set_option linter.all false
set_option maxRecDepth 100000
set_option maxHeartbeats 1000000
namespace IT
open PySem
/-! an item as data -/
mutual
def dI : It → PyData
  | .clip r f l => .tuple [.str "clip", .str r, .int f, .int l]
  | .times m xs => .tuple [.str "times", .int m, .tuple (dL xs)]
  | .back xs => .tuple [.str "back", .tuple (dL xs)]
  | .part n _ => .tuple [.str "part", .str n]
  | .fade m => .tuple [.str "fade", .int m]
def dL : List It → List PyData
  | [] => []
  | x :: r => dI x :: dL r
end
/-! good names (T), parts as told (G) -/
mutual
def okI (T : Str → Prop) (G : Str → List It → Prop) : It → Prop
  | .clip r _ _ => T r
  | .times _ xs => okL T G xs
  | .back xs => okL T G xs
  | .part n xs => G n xs
  | .fade _ => True
def okL (T : Str → Prop) (G : Str → List It → Prop) : List It → Prop
  | [] => True
  | x :: r => okI T G x ∧ okL T G r
end
section
variable {T : Str → Prop} {G : Str → List It → Prop}
end
/-! how deep -/
mutual
def dpI : It → Nat
  | .clip _ _ _ => 0
  | .times _ xs => dpL xs + 1
  | .back xs => dpL xs + 1
  | .part _ xs => dpL xs + 1
  | .fade _ => 0
def dpL : List It → Nat
  | [] => 0
  | x :: r => max (dpI x) (dpL r)
end
/-! how many items -/
mutual
def wI : It → Nat
  | .clip _ _ _ => 1
  | .times _ xs => wL xs + 1
  | .back xs => wL xs + 1
  | .part _ _ => 1
  | .fade _ => 1
def wL : List It → Nat
  | [] => 0
  | x :: r => wI x + wL r
end
/-! no back but around one part -/
mutual
def plI : It → Prop
  | .clip _ _ _ => True
  | .times _ xs => plL xs ∧ xs ≠ []
  | .back xs => ∃ n ys, xs = [.part n ys]
  | .part _ _ => True
  | .fade _ => True
def plL : List It → Prop
  | [] => True
  | x :: r => plI x ∧ plL r
end
/-! counted -/
mutual
def cnI : It → Int
  | .clip _ _ _ => 1
  | .times m xs => m * cnL xs
  | .back xs => cnL xs
  | .part _ xs => cnL xs
  | .fade _ => 0
def cnL : List It → Int
  | [] => 0
  | x :: r => cnI x + cnL r
end
mutual
def frI : It → Int
  | .clip _ f l => (if l - f < 0 then -(l - f) else l - f) + 1
  | .times m xs => m * frL xs
  | .back xs => frL xs
  | .part _ xs => frL xs
  | .fade _ => 0
def frL : List It → Int
  | [] => 0
  | x :: r => frI x + frL r
end
end IT

set_option linter.all false
set_option maxRecDepth 100000
set_option maxHeartbeats 1000000
namespace IT
open PySem
/-! names -/
def NM (T : Str → Prop) (cs : List Cl) : Prop := ∀ c ∈ cs, T c.r
section
variable {T : Str → Prop} {G : Str → List It → Prop}
end
/-! turned about, place by place -/
end IT

set_option linter.all false
set_option maxRecDepth 100000
set_option maxHeartbeats 1000000
/-! Trees of tuples in the heap. -/
namespace DT
open PySem L2 G
mutual
inductive Td (H : Hp) : V → PyData → Prop
  | int (i : Int) : Td H (.int i) (.int i)
  | str (x : Str) : Td H (.str x) (.str x)
  | tup {a : Addr} {vs : List V} {ds : List PyData} : H a = some (.tup vs) → Tds H vs ds → Td H (.ref a) (.tuple ds)
inductive Tds (H : Hp) : List V → List PyData → Prop
  | nil : Tds H [] []
  | cons {v : V} {vs : List V} {d : PyData} {ds : List PyData} : Td H v d → Tds H vs ds → Tds H (v :: vs) (d :: ds)
end
/-- tuples stay -/
def TK (H H' : Hp) : Prop := ∀ a xs, H a = some (.tup xs) → H' a = some (.tup xs)
theorem TK.of {H H' : Hp} (s : Same H H') : TK H H' := fun _ _ h => s _ _ h
theorem TK.lst {H : Hp} {p : Addr} {xs : List V} {o : HO} (h : H p = some (.lst xs)) : TK H (upd H p o) := fun a ys e => by rw [upd_ne (ne_of e h (by intro z; cases z))]; exact e
mutual
theorem Td.tk {H H' : Hp} (t : TK H H') : ∀ {v : V} {d : PyData}, Td H v d → Td H' v d
  | _, _, .int i => .int i
  | _, _, .str x => .str x
  | _, _, .tup h r => .tup (t _ _ h) (r.tk t)
theorem Tds.tk {H H' : Hp} (t : TK H H') : ∀ {vs : List V} {ds : List PyData}, Tds H vs ds → Tds H' vs ds
  | _, _, .nil => .nil
  | _, _, .cons h r => .cons (h.tk t) (r.tk t)
end
theorem Tds.len {H : Hp} : ∀ {vs : List V} {ds : List PyData}, Tds H vs ds → vs.length = ds.length
  | _, _, .nil => rfl
  | _, _, .cons _ r => by rw [List.length_cons, List.length_cons, r.len]
theorem Tds.app {H : Hp} : ∀ {vs us : List V} {ds es : List PyData}, Tds H vs ds → Tds H us es → Tds H (vs ++ us) (ds ++ es)
  | _, _, _, _, .nil, h => h
  | _, _, _, _, .cons a r, h => .cons a (r.app h)
theorem Tds.get {H : Hp} : ∀ {vs : List V} {ds : List PyData} {i : Nat} {v : V}, Tds H vs ds → vs[i]? = some v → ∃ d, ds[i]? = some d ∧ Td H v d
  | _, _, 0, _, .cons h _, e => by cases e; exact ⟨_, rfl, h⟩
  | _, _, i + 1, _, .cons _ r, e => r.get (i := i) e
theorem Tds.at {H : Hp} : ∀ {vs : List V} {ds : List PyData} {i : Nat} {d : PyData}, Tds H vs ds → ds[i]? = some d → ∃ v, vs[i]? = some v ∧ Td H v d
  | _, _, 0, _, .cons h _, e => by cases e; exact ⟨_, rfl, h⟩
  | _, _, i + 1, _, .cons _ r, e => r.at (i := i) e
theorem Td.tinv {H : Hp} {v : V} {ds : List PyData} (h : Td H v (.tuple ds)) : ∃ a vs, v = .ref a ∧ H a = some (.tup vs) ∧ Tds H vs ds := by
  cases h with
  | tup h r => exact ⟨_, _, rfl, h, r⟩
theorem Td.sinv {H : Hp} {v : V} {x : Str} (h : Td H v (.str x)) : v = .str x := by cases h; rfl
theorem Td.iinv {H : Hp} {v : V} {x : Int} (h : Td H v (.int x)) : v = .int x := by cases h; rfl
open IT
/-- the items' kinds -/
def kd : IT.It → Str
  | .clip _ _ _ => "clip"
  | .times _ _ => "times"
  | .back _ => "back"
  | .part _ _ => "part"
  | .fade _ => "fade"
theorem iteN {c : Bool} {A B : Prop} (h : c = false) (b : B) : if c = true then A else B := by rw [h]; exact iteF b
theorem iteY {c : Bool} {A B : Prop} (h : c = true) (a : A) : if c = true then A else B := by rw [h]; exact iteT a
/-- a list of items -/
def IL (H : Hp) (l : Addr) (xs : List IT.It) : Prop := ∃ vs, H l = some (.lst vs) ∧ Tds H vs (dL xs)
/-! clips -/
def dC (c : Cl) : PyData := .tuple [.str c.r, .int c.f, .int c.l, .int c.d]
/-- a list of clips -/
def CL (H : Hp) (l : Addr) (cs : List Cl) : Prop := ∃ vs, H l = some (.lst vs) ∧ Tds H vs (cs.map dC)
/-- the clips' names are good texts -/
def CF (cs : List Cl) : Prop := ∀ c ∈ cs, Fine c.r
end DT

set_option linter.all false
set_option maxRecDepth 100000
set_option maxHeartbeats 4000000
/-! Texts: split, partition, startswith, endswith, f-strings; pop; the truth of a list. -/
namespace L2
open PySem PySem.Spec PyProof.Rows PySem.Builtin PySem.Builtin.Str
section
variable {X : Cx}
def rSplit : V → List V → Hp → VK → Prop := fun x vs H Q => ∃ z y, x = .str z ∧ vs = [.str y] ∧ (y.length == 0) = false ∧ z.length + 2 ≤ sizeLine ∧ ∀ p, H p = none → Q (.ref p) (upd H p (.lst ((Txt.split z y).map V.str)))
def rPart : V → List V → Hp → VK → Prop := fun x vs H Q => ∃ z y, x = .str z ∧ vs = [.str y] ∧ (y.length == 0) = false ∧ z.length ≤ sizeLine ∧ ∀ p, H p = none → Q (.ref p) (upd H p (.tup [.str (Txt.partition z y).1, .str (Txt.partition z y).2.1, .str (Txt.partition z y).2.2]))
def rStarts : V → List V → Hp → VK → Prop := fun x vs H Q => ∃ z y, x = .str z ∧ vs = [.str y] ∧ Q (.bl (Txt.startswith z y)) H
def rEnds : V → List V → Hp → VK → Prop := fun x vs H Q => ∃ z y, x = .str z ∧ vs = [.str y] ∧ Q (.bl (Txt.endswith z y)) H
def rCount : V → List V → Hp → VK → Prop := fun x vs H Q => ∃ z y, x = .str z ∧ vs = [.str y] ∧ Q (.int (Txt.count z y)) H
/-- a list's truth (a name's, a call's) -/
theorem t_tru {a : Expr} {ta : TE} (ha : QE X a ta) (he : ∀ whole, isTrue a X.env whole = (do let v ← whole; standAt a.pos; holding [v] (truthy v)) := by intro _; rfl) : QT X a (fun σ H Q => ta σ H fun x H' => ∃ k, TruV X.K x H' k ∧ Q k H') := ⟨pt_truth ha.h he⟩
/-! f-strings -/
def tF (te : TE) : TE := fun σ H Q => te σ H fun v H1 => (∃ x, v = .str x ∧ x.length ≤ sizeLine ∧ Q (.str x) H1) ∨ ∃ i, v = .int i ∧ i.natAbs.log2 < 1920 ∧ Q (.str (toString i)) H1
abbrev TJ := Str → St → Hp → VK → Prop
structure QJ (X : Cx) (es : List Expr) (t : TJ) : Prop where
  h : ∀ (out : Str) (pins : List (Addr × Obj)) (s : Shared) (σ : St) (H : Hp) (Q : VK), Inv X pins σ H s → t out σ H Q → wpAny (model X.prog X.w) X.A (joinParts out (evalEach es X.env)) (EP X pins σ Q) X.xe s
end
end L2

set_option linter.all false
set_option maxRecDepth 100000
set_option maxHeartbeats 4000000
/-! A list comprehension whose target is a tuple of names. -/
namespace L2
open PySem PySem.Spec PyProof.Rows
def CompedT (J : It) (n : Nat) (cap : St) (g : TG) (te : TE) (Q : VK) (H1 : Hp) : Prop := ∀ D, H1 D = none → ∃ W : Nat → Nat → List V → Hp → Prop, (∃ m, W 0 m [] (upd H1 D (.lst []))) ∧ ∀ i m ys H2, W i m ys H2 → H2 D = some (.lst ys) ∧
  ((J.stop i H2 ∧ Q (.ref D) H2) ∨ (J.go i H2 ∧ ∀ x H3 (xo : St), xo.length = n → J.yld i H2 x H3 → g x (xo ++ cap) H3 fun σ6 H6 => (∃ xo' : St, xo'.length = n ∧ σ6 = xo' ++ cap) ∧ te σ6 H6 fun y H4 => H4 D = some (.lst ys) ∧ ys.length < sizeLine ∧ ∃ m', m' < m ∧ W (i + 1) m' (ys ++ [y]) (upd H4 D (.lst (ys ++ [y])))))
def tCompT (wi : TI) (n : Nat) (js : List Nat) (g : TG) (te : TE) : TE := fun σ H Q => wi σ H fun J H1 => CompedT J n (capt σ js) g te Q H1
section
variable {X : Cx} {pos : Pos} {elt iter : Expr} {sc : Scope} {xs ys : List Str} {js : List Nat} {cl : List (Str × Addr)}

end
end L2

set_option linter.all false
set_option maxRecDepth 100000
set_option maxHeartbeats 4000000
/-! sum of a list of whole numbers. -/
namespace L2
open PySem PySem.Spec PyProof.Rows
section
variable {X : Cx}
theorem call_sum : CallR X (.builtin "sum") (fun xs H Q => ∃ (a : Addr) (ns : List Int), xs = [.ref a] ∧ SqL X.K H a (ns.map V.int) ∧ X.calm = true ∧ Q (.int ns.sum) H) := by
  intro pins s σ H xs us Q I r h
  obtain ⟨a, ns, rfl, hS, hc, q⟩ := h
  obtain ⟨u, rfl, ru⟩ := vals1 r
  cases ru
  obtain ⟨its, rv, pl, hz⟩ := I.list hS
  have hlen : its.length = ns.length := by rw [← rv.length, List.length_map]
  refine PySem.call_sum_walkAnyS (wpAny_pyIter_list pl.isList ?_)
  have ne : a ≠ s.heap.objs.size := by
    obtain ⟨o, e, _⟩ := pl.isList
    exact Nat.ne_of_lt (Heap.lt_size e)
  have hh : X.A.in1.handled = none := I.ok.hd hc
  refine ⟨s.heap.objs.size, _, _, _, _, _, _, fun i => ns.getD i 0, rfl, (Walks.list hh s.heap.objs.size a ne its.toArray).toS, ⟨⟨_, Heap.get?_push_size _ rfl, rfl, rfl⟩, ?_⟩, ?_, ?_, ?_⟩
  · obtain ⟨o, e, r⟩ := pl.isList
    exact ⟨o, Heap.get?_push_of_some _ e, r⟩
  · intro b hb
    have hb : b = s.heap.objs.size ∨ b = a := by simpa using hb
    show b < (s.heap.push _).objs.size
    rw [Heap.size_push]
    obtain ⟨o, e, r⟩ := pl.isList
    have := Heap.lt_size e
    rcases hb with rfl | rfl
    · exact Nat.lt_succ_self _
    · exact Nat.lt_succ_of_lt this
  · intro i v hv
    have hv' : its[i]? = some v := by simpa using hv
    have hi : i < its.length := (List.getElem?_eq_some_iff.mp hv').1
    have hb : ns[i]? = some ns[i] := List.getElem?_eq_getElem (by omega)
    obtain ⟨u, hu, ru⟩ := rv.get (i := i) (x := V.int ns[i]) (by rw [List.getElem?_map, hb]; rfl)
    rw [hv'] at hu
    cases hu
    obtain ⟨t, rfl⟩ := ru
    exact ⟨t, by show Value.int ns[i] t = Value.int (ns.getD i 0) t; rw [List.getD_eq_getElem?_getD, hb]; rfl⟩
  · intro s' t' hm
    rw [preSum_getD, List.size_toArray, hlen, List.take_length]
    have kp : ∀ b o, s.heap.get? b = some o → s'.heap.get? b = some o := fun b o e => hm.heap b o (by
      rw [List.mem_singleton]
      exact Nat.ne_of_lt (Heap.lt_size e)) (Heap.get?_push_of_some _ e)
    rw [hm.eq_with]
    exact ⟨.int ns.sum, H, I.kept kp, ⟨t', rfl⟩, q⟩
end
end L2

set_option linter.all false
set_option maxRecDepth 100000
set_option maxHeartbeats 4000000
/-! for x in range(a, b, 2) -/
namespace L2
open PySem PySem.Spec PyProof.Rows
def It2 (lo k : Int) (n : Nat) : It := ⟨fun i _ => i < n, fun i H x H' => H' = H ∧ x = .int (lo + (i : Int) * k), fun i _ => n ≤ i⟩
theorem turn_rng2 {P : Program} {w : World} {K : PySem.W.Frag} {tg : Expr} (it : Addr) (lo k : Int) (n : Nat) : Turn P w K tg (It2 lo k n) [it] it (fun i h => IsRangeIter h it (lo + (i : Nat) * k) ((n : Int) - (i : Nat)) k) where
  mem := by simp
  obj := fun i h st b hb => by
    have e : b = it := by simpa using hb
    subst e
    exact ⟨_, st, fun v z => by
      have z' : Data.fields _ = Data.cell v := z
      cases z'⟩
  keep := fun i h h' st k => k it (by simp) _ st
  item := by
    intro X hP hw hK hc i pins s σ H E I hf st hg
    subst hP hw hK
    obtain ⟨f0, f1, f2, f3, f4, f5⟩ := hf it (by simp)
    have W := Walks.range (prog := X.prog) (w := X.w) (I.ok.hd hc) it lo k n
    refine W.item i s _ _ hg st fun v h' tk hv st' kk => ?_
    obtain ⟨t, rfl⟩ := hv
    have I1 : Inv X pins σ H { s with heap := h', toks := tk } := I.turned (fun b o hb e => kk b o (by simpa using hb) e) f0 f1 f3 f4 f5
    exact ⟨_, rfl, go_of (s := { s with heap := h', toks := tk }) (n := "range_iterator") st' rfl rfl (by decide) ⟨.int (lo + (i : Int) * k), H, I1, ⟨t, rfl⟩, ⟨rfl, rfl⟩, st', fun b hb => (hf b hb).1⟩⟩
  done := by
    intro X hP hw hK hc i pins s σ H E I hf st hg
    subst hP hw hK
    obtain ⟨f0, f1, f2, f3, f4, f5⟩ := hf it (by simp)
    exact wpAny_pyNext_range_end (I.ok.hd hc) st (by have : n ≤ i := hg; omega) fun h' eb => ⟨rfl, I.turned (t' := s.toks) (fun b o hb e => eb b o hb e) f0 f1 f3 f4 f5⟩
  self := fun _ _ _ _ _ st h => wpAny_pyIter_rangeiter st h
theorem rangeSize_two (a b : Int) : Builtin.Range.rangeSize a b 2 = (((b - a + 1) / 2).toNat : Int) := by
  unfold Builtin.Range.rangeSize
  simp only [show (2 : Int) > 0 by decide, if_true]
  split <;> omega
theorem small_two {a b : Int} (ha : -(2 ^ 61) ≤ a) (ha' : a < 2 ^ 61) (hb : -(2 ^ 61) ≤ b) (hb' : b < 2 ^ 61) : Builtin.Range.small a b 2 = true := by
  unfold Builtin.Range.small
  rw [rangeSize_two]
  simp only [Builtin.Range.rangeFitsLong, Bool.and_eq_true, Bool.or_eq_true, decide_eq_true_eq, beq_iff_eq, show (2 : Int) > 0 by decide, if_true]
  omega
section
variable {X : Cx} {tg : Expr}
theorem range_it2 {pins : List (Addr × Obj)} {σ : St} {H : Hp} {s : Shared} {R : It → Hp → Prop} {E : Value → Shared → Prop} {lo hi k : Int} {n : Nat} {t u v : Tok} {tk : Nat} (I : Inv X pins σ H s) (hsm : Builtin.Range.small lo hi k = true) (hn : Builtin.Range.rangeSize lo hi k = (n : Int))
    (q : R (It2 lo k n) H) : wpAny (model X.prog X.w) X.A (pyIter (.ref s.heap.objs.size)) (PIE X pins σ tg R) E { s with heap := s.heap.push { cls := .type "range", data := .fields #[.int lo t, .int hi u, .int k v] }, toks := tk } := by
  refine wpAny_pyIter_range (IsRange.new ..) hsm ?_
  have I1 : Inv X pins σ H { s with heap := s.heap.push { cls := .type "range", data := .fields #[.int lo t, .int hi u, .int k v] }, toks := tk } := I.kept fun b o e => Heap.get?_push_of_some _ e
  refine ⟨(s.heap.push { cls := .type "range", data := .fields #[.int lo t, .int hi u, .int k v] }).objs.size, [(s.heap.push { cls := .type "range", data := .fields #[.int lo t, .int hi u, .int k v] }).objs.size], _, _, H, rfl,
    I1.kept (t' := tk) fun b o e => Heap.get?_push_of_some _ e, turn_rng2 _ lo k n, ?_, fun b hb => ?_, q⟩
  · have e1 : lo + ((0 : Nat) : Int) * k = lo := by simp
    have e2 : ((n : Nat) : Int) - ((0 : Nat) : Int) = Builtin.Range.rangeSize lo hi k := by rw [hn]; omega
    show IsRangeIter _ _ (lo + ((0 : Nat) : Int) * k) (((n : Nat) : Int) - ((0 : Nat) : Int)) k
    rw [e1, e2]
    exact Heap.get?_push_size _ rfl
  · have e : b = (s.heap.push { cls := .type "range", data := .fields #[.int lo t, .int hi u, .int k v] }).objs.size := by simpa using hb
    subst e
    exact I1.fpOk (Nat.le_refl _) (I1.hok.fresh (Nat.le_refl _))
def iRng3 (ta : TA) : TI := fun σ H R => ta σ H fun vs H1 => ∃ i j : Int, vs = [.int i, .int j, .int 2] ∧ (-(2 ^ 61) ≤ i ∧ i < 2 ^ 61 ∧ -(2 ^ 61) ≤ j ∧ j < 2 ^ 61) ∧ R (It2 i 2 ((j - i + 1) / 2).toNat) H1
theorem pi_range3 {a b c : Expr} {ta : TA} {p pos : Pos} (hg : Gl X "range") (hm : X.mg "range" = none) (ha : PA X [a, b, c] ta) (h1 : nostar a = true) (h2 : nostar b = true) (h3 : nostar c = true) :
    PI X tg (.Call (.Name "range" p) [a, b, c] [] pos) (iRng3 ta) := by
  intro pins s σ H R I h
  refine Call_ (ld_blt I hg hm boot_range (PyProof.Rows.callWith_type1 (thn (ha pos pins s σ H _ I h) fun us s1 ⟨vs, H1, I1, r1, q1⟩ => ?_) (star_plain h1) (any_plain (by simp [h2, h3]))))
  obtain ⟨i, j, e, ⟨q1, q2, q3, q4⟩, q⟩ := q1
  subst e
  cases r1 with
  | cons r rr =>
    cases rr with
    | cons r' rr =>
      cases rr with
      | cons r'' rr =>
        cases rr
        obtain ⟨t, rfl⟩ := r
        obtain ⟨t', rfl⟩ := r'
        obtain ⟨t'', rfl⟩ := r''
        exact call_range_3 (by omega) (range_it2 I1 (small_two q1 q2 q3 q4) (rangeSize_two i j) q) (Or.inl (PyProof.noPylong_small (by omega)))
theorem i_rng3 {tg a b c : Expr} {t u v : TE} {p pos : Pos} (hm : X.mg "range" = none) (ha : QE X a t) (hb : QE X b u) (hc : QE X c v) (hg : X.env.kindOf "range" = some .globalImplicit := by kernel_rfl) (hs : nostar a = true := by rfl) (hs2 : nostar b = true := by rfl) (hs3 : nostar c = true := by rfl) :
    QI X tg (.Call (.Name "range" p) [a, b, c] [] pos) (iRng3 (tCons t (tCons u (tCons v tNil)))) :=
  ⟨pi_range3 hg hm (pa' ha.h (pa' hb.h (pa' hc.h pa_nil hs3) hs2) hs) hs hs2 hs3⟩
end
theorem for_rng2 {lo k : Int} {n : Nat} {g : TG} {tb : TS} {D : Ends} {σ : St} {H : Hp} (Pv : Nat → St → Hp → Prop) (h0 : Pv 0 σ H)
    (hs : ∀ i σ H, i < n → Pv i σ H → g (.int (lo + (i : Int) * k)) σ H fun σ2 H2 => tb { D with nx := Pv (i + 1), ct := Pv (i + 1), bk := D.nx } σ2 H2) (hd : ∀ σ H, Pv n σ H → D.nx σ H) :
    ∃ W : Nat → Nat → St → Hp → Prop, (∃ m, W 0 m σ H) ∧ ∀ i m σ H, W i m σ H →
      ((It2 lo k n).stop i H ∧ D.nx σ H) ∨ ((It2 lo k n).go i H ∧ ∃ N : St → Hp → Prop, (∀ σ' H', N σ' H' → ∃ m', m' < m ∧ W (i + 1) m' σ' H') ∧ ∀ x H', (It2 lo k n).yld i H x H' → g x σ H' fun σ2 H2 => tb { D with nx := N, ct := N, bk := D.nx } σ2 H2) := by
  refine ⟨fun i m σ H => m = n - i ∧ i ≤ n ∧ Pv i σ H, ⟨n, by simp, Nat.zero_le _, h0⟩, ?_⟩
  rintro i m σ H ⟨rfl, hi, p⟩
  by_cases hlt : i < n
  · refine .inr ⟨hlt, Pv (i + 1), fun σ' H' p' => ⟨n - (i + 1), by omega, rfl, hlt, p'⟩, fun x H' y => ?_⟩
    obtain ⟨e, y⟩ := y
    subst e y
    exact hs i σ _ hlt p
  · have e : i = n := by omega
    subst e
    exact .inl ⟨Nat.le_refl _, hd σ H p⟩
end L2

set_option linter.all false
set_option maxRecDepth 100000
set_option maxHeartbeats 4000000
/-! name = [.. for .. in .. if ..]; a cell as a loop's name -/
namespace L2
open PySem PySem.Spec PyProof.Rows
theorem comp_loopF {prog : Program} {w : World} {A : Around} {R : Result → Shared → Prop} {s : Shared} {elt target iter cnd : Expr} {sc : Scope} {pos : Pos} {it acc : Value} {env : Env} (J : Nat → Shared → Prop)
    (turn : ∀ n s, J n s → wpAny (model prog w) A (pyNext it) (fun r s1 => match r with
      | none => R (.ok .next) s1
      | some v => wpAny (model prog w) A (letOwnedTupleGo target it v) (fun _ s2 => wpAny (model prog w) A (assign target env v) (fun _ s3 => wpAny (model prog w) A (isTrue cnd env (eval cnd env)) (fun ok s6 => if ok = true then wpAny (model prog w) A (eval elt env) (fun x s4 =>
          wpAny (model prog w) A (call (.builtin "list.append") [acc, x]) (fun _ s5 => ∃ m, m < n ∧ J m s5) (fun _ _ => False) s4) (fun _ _ => False) s6 else ∃ m, m < n ∧ J m s6) (fun _ _ => False) s3) (fun _ _ => False) s2) (fun _ _ => False) s1) (fun _ _ => False) s)
    (n : Nat) (h : J n s) : codeAny (model prog w) A (.compLoop (.ListComp elt [⟨target, iter, [cnd], 0⟩] sc pos) 0 it acc env) R s := by
  refine codeAny_loop rfl J ?_ n h
  intro n s hJ
  show wpAny _ _ ((compTurn (.ListComp elt [⟨target, iter, [cnd], 0⟩] sc pos) 0 it acc env).onRaise (fun x => do noteFrame x env; theTreesLotGoes x)) _ _ s
  refine wpAny_noted ?_
  rw [compTurn_list]
  refine wpAny_bind (wpAny_standAt (wpAny_bind (wpAny_mono (turn n s hJ) ?_ fun _ _ z => False.elim z)))
  intro r s1 h1
  cases r with
  | none => exact wpAny_pure h1
  | some v =>
    refine wpAny_bind (wpAny_mono h1 ?_ fun _ _ z => False.elim z)
    intro _ s2 h2
    refine wpAny_bind (wpAny_mono h2 ?_ fun _ _ z => False.elim z)
    intro _ s3 h3
    refine wpAny_bind (wpAny_tests_one (wpAny_mono h3 ?_ fun _ _ z => False.elim z))
    intro ok s6 h6
    cases ok with
    | false =>
      rw [if_neg Bool.false_ne_true] at h6
      exact wpAny_pure ⟨rfl, h6⟩
    | true =>
      rw [if_pos rfl] at h6
      refine wpAny_bind (wpAny_bind (wpAny_mono h6 ?_ fun _ _ z => False.elim z))
      intro x s4 h4
      refine wpAny_bind (wpAny_mono h4 ?_ fun _ _ z => False.elim z)
      intro _ s5 h5
      exact wpAny_pure (wpAny_pure ⟨rfl, h5⟩)
/-- what the block is worth: W holds between its turns -/
def CompedF (J : It) (cap : St) (tc : TT) (te : TE) (Q : VK) (H1 : Hp) : Prop := ∀ D, H1 D = none → ∃ W : Nat → Nat → List V → Hp → Prop, (∃ m, W 0 m [] (upd H1 D (.lst []))) ∧ ∀ i m ys H2, W i m ys H2 → H2 D = some (.lst ys) ∧
  ((J.stop i H2 ∧ Q (.ref D) H2) ∨ (J.go i H2 ∧ ∀ x H3, J.yld i H2 x H3 → tc (some x :: cap) H3 fun b H4 => if b = true then te (some x :: cap) H4 fun y H5 => H5 D = some (.lst ys) ∧ ys.length < sizeLine ∧ ∃ m', m' < m ∧ W (i + 1) m' (ys ++ [y]) (upd H5 D (.lst (ys ++ [y]))) else ∃ m', m' < m ∧ W (i + 1) m' ys H4))
def tCompF (wi : TI) (js : List Nat) (tc : TT) (te : TE) : TE := fun σ H Q => wi σ H fun J H1 => CompedF J (capt σ js) tc te Q H1
section
variable {X : Cx} {x : Str} {px pos : Pos} {elt iter cnd : Expr} {sc : Scope} {ys : List Str} {js : List Nat} {cl : List (Str × Addr)}
theorem ps_compF {wi : TI} {te : TE} {tc : TT} {i0 : Nat} {y0 : Str} {py spos : Pos} (hN : X.N.Nodup) (hi0 : X.N[i0]? = some y0) (hy0 : X.env.scope.names.lookup y0 = some .local) (hsw : swapsWith (.ListComp elt [⟨.Name x px, iter, [cnd], 0⟩] sc pos) (some (.Name y0 py)) spos.line X.env = pure true) (hclos : closureFor sc X.env = pure cl) (hcell : ∀ y ∈ sc.names, y.2 ≠ .cell) (hkind : sc.kind = .function) (hnames : ∀ y ∈ sc.names, y.2 = .local → sc.names.lookup y.1 = some .local)
    (hx : (relabel sc X.env).names.lookup x = some .local) (hcap : Caps X sc cl ys js) (hin : ∀ y c, cl.lookup y = some c → X.env.cells.lookup y = some c)
    (hhas : ∀ y, ((relabel sc X.env).names.lookup y = some .cell ∨ (relabel sc X.env).names.lookup y = some .free) → ∃ c, cl.lookup y = some c) (hnd : (x :: ys).Nodup) (hc : X.calm = true)
    (hi : PI X.nox (.Name x px) iter wi) (hcd : ∀ s2 H2 C ex, PT (compCx X sc (x :: ys) cl s2 H2 C ex) cnd tc) (he : ∀ s2 H2 C ex, PE (compCx X sc (x :: ys) cl s2 H2 C ex) elt te) (hs : ∀ v, foldedSetIterable iter X.env v = pure v := by intro _; rfl) :
    PS X (.Assign [.Name y0 py] (.ListComp elt [⟨.Name x px, iter, [cnd], 0⟩] sc pos) spos) (tAsg (tCompF wi js tc te) (gName i0)) := by
  intro pins s σ H DE I h
  rw [exec_Assign_Name_used _ _ _ _ hsw]
  refine wpAny_bind (wpAny_standAt (wpAny_bind ?_))
  show wpAny _ _ (do let _ ← comprehension (.ListComp elt [⟨.Name x px, iter, [cnd], 0⟩] sc pos) sc X.env _ (newList []) false (eval iter X.env) (some (assign (.Name y0 py) X.env))) _ _ s
  refine wpAny_bind (wpAny_mono (E := fun _ _ => False) (wpAny_comprehension_free (use := some (assign (.Name y0 py) X.env)) (Q := fun _ s' => SP X pins DE .next s') rfl hs hclos hkind hnames (wpAny_mono (hi pins s σ H _ (I.wish _) h) ?_ fun _ _ z => False.elim z)) (fun _ s' hq => wpAny_pure (wpAny_pure hq)) fun _ _ z => False.elim z)
  intro v s1 h1
  refine wpAny_mono h1 ?_ fun _ _ z => False.elim z
  rintro itv s2 ⟨it, fp, tn, J, H2, rfl, I2w, T, st2, f2w, q⟩
  have I2 := I2w.unwish
  have f2 : ∀ b ∈ fp, FpOk X pins H2 b := f2w
  -- the list that grows, the block's own names
  refine wpAny_newObj_type (wpAny_newFunctionEnv hcell (by intro y hy; simp at hy) (fun h4 hns hsb => ?_) hkind)
  dsimp only at hns hsb ⊢
  generalize hE : s2.heap.push { cls := .type "list", dict := none, data := .seq ([] : List Value).toArray } = g3 at hns hsb ⊢
  have hsz : g3.objs.size = s2.heap.objs.size + 1 := by rw [← hE, Heap.size_push]
  have hDC : s2.heap.objs.size ≠ g3.objs.size := by omega
  have old : ∀ b o, s2.heap.get? b = some o → h4.get? b = some o := fun b o e => by
    have lt : b < s2.heap.objs.size := Heap.lt_size e
    rw [hsb.2 b (Nat.ne_of_lt (by rw [hsz]; exact Nat.lt_succ_of_lt lt))]
    exact Heap.get?_push_of_some _ (hE ▸ Heap.get?_push_of_some _ e)
  have hD0 : H2 s2.heap.objs.size = none := I2.hok.fresh (Nat.le_refl _)
  have hC0 : H2 g3.objs.size = none := I2.hok.fresh (by omega)
  have hDat : h4.get? s2.heap.objs.size = some { cls := .type "list", data := .seq ([] : List Value).toArray } := by
    rw [hsb.2 _ hDC]
    exact Heap.get?_push_of_some _ (hE ▸ Heap.get?_push_size _ rfl)
  obtain ⟨W, ⟨m0, w0⟩, turn⟩ := q s2.heap.objs.size hD0
  have hfl : ∀ b ∈ fp, b < s2.heap.objs.size := fun b hb => by
    obtain ⟨o, e, _⟩ := T.obj _ _ st2 b hb
    exact Heap.lt_size e
  have J0 : Inv (compCx X sc (x :: ys) cl s2 H2 g3.objs.size fp) [] (none :: capt σ js) (upd H2 s2.heap.objs.size (.lst [])) { s2 with heap := h4, toks := s2.toks + ([] : List (Str × Value)).length } := by
    refine inv_comp (m := fun y => ([] : List (Str × Value)).reverse.lookup y) I2 f2 hkind hcap hin hhas hfl (by omega) rfl I2.bare (Un.laid old (Nat.le_refl _) hD0) old hns ?_ ?_
    · rw [upd_ne (Ne.symm hDC)]; exact hC0
    · exact I2.hok.laid old (Nat.le_refl _) ⟨Nat.zero_le _, [], 0, .nil, hDat⟩
  have st4 : tn 0 h4 := T.keep _ _ _ st2 fun b hb o e => old b o e
  have xcell : ∀ y c, (compCx X sc (x :: ys) cl s2 H2 g3.objs.size fp).env.cells.lookup y = some c → X.env.cells.lookup y = some c := hin
  have stat : ∀ {H' : Hp}, (∀ b ∈ fp, H' b = none) → ∀ b ∈ fp, FpOk (compCx X sc (x :: ys) cl s2 H2 g3.objs.size fp) [] H' b := fun hn b hb => by
    refine ⟨hn b hb, ?_, ?_, .inl hb, fun y c e => (f2 b hb).2.2.2.2.1 y c (hin y c e), fun p hp => absurd (show p ∈ ([] : List (Addr × Obj)) from hp) (by simp)⟩
    · have lt : b < s2.heap.objs.size := hfl b hb
      exact Nat.ne_of_lt (by show b < g3.objs.size; rw [hsz]; exact Nat.lt_succ_of_lt lt)
    · intro z
      rcases List.mem_cons.mp (I2.stkSub b z) with q | q
      · exact (f2 b hb).2.1 q
      · exact (f2 b hb).2.2.1 q
  have fin : ∀ {σ' : St} {H' : Hp} {s' : Shared}, Inv (compCx X sc (x :: ys) cl s2 H2 g3.objs.size fp) [] σ' H' s' → gName i0 (.ref s2.heap.objs.size) σ H' DE.nx →
      compPost (model X.prog X.w) X.A (fun _ _ => False) (some (assign (.Name y0 py) X.env)) (fun _ s' => SP X pins DE .next s') (.ref s2.heap.objs.size) g3.objs.size (.ok .next) s' := fun {σ' H' s'} J' q' => by
    obtain ⟨m, hm, _⟩ := J'.loc
    have neC : ∀ b o, s2.heap.get? b = some o → b ≠ g3.objs.size := fun b o e => by
      have lt : b < s2.heap.objs.size := Heap.lt_size e
      exact Nat.ne_of_lt (by rw [hsz]; exact Nat.lt_succ_of_lt lt)
    have ub := J'.base
    have I' : Inv X pins σ H' s' := I2.call' (ch := fp) J'.os ub J'.hok J'.bare fun b hb => ⟨(f2 b hb).2.2.2.1, (f2 b hb).2.1, (f2 b hb).2.2.2.2.1, (f2 b hb).2.2.2.2.2⟩
    have fC : FpOk X pins H' g3.objs.size := I2.fpOk (by omega) J'.free
    show wpAny _ _ (assign (.Name y0 py) X.env (.ref s2.heap.objs.size)) _ _ s'
    refine wpAny_assign_Name (store_ok2 (v := .ref s2.heap.objs.size) I' hN hi0 (.inl hy0) rfl (fun s3 I3 sb3 => ?_) (.inr hy0))
    obtain ⟨a3, sb3, ha3⟩ := sb3
    have na : g3.objs.size ≠ a3 := by
      rcases ha3 with rfl | z
      · exact fC.2.1
      · exact fun e => fC.2.2.2.2.1 _ _ z e.symm
    have h0 : X.s₀.heap.get? g3.objs.size = none := by
      cases e : X.s₀.heap.get? g3.objs.size with
      | none => rfl
      | some o =>
        have l1 := Heap.lt_size e
        exact absurd (Nat.lt_of_lt_of_le l1 (Nat.le_trans I2.sz (Nat.le_trans (Nat.le_succ _) (Nat.le_of_eq hsz.symm)))) (Nat.lt_irrefl _)
    exact ⟨m, hm.sameBut sb3 na, fun h' sb => ⟨_, H', I3.but sb fC h0, q'⟩⟩
  have loop : ∀ s4 : Shared, s4 = { s2 with heap := h4, toks := s2.toks + ([] : List (Str × Value)).length } →
      codeAny (model X.prog X.w) X.A (.compLoop (.ListComp elt [⟨.Name x px, iter, [cnd], 0⟩] sc pos) 0 (.ref it) (.ref s2.heap.objs.size) (compEnvC sc cl g3.objs.size X.env))
        (compPost (model X.prog X.w) X.A (fun _ _ => False) (some (assign (.Name y0 py) X.env)) (fun _ s' => SP X pins DE .next s') (.ref s2.heap.objs.size) g3.objs.size) s4 := by
    rintro s4 rfl
    refine comp_loopF (fun n s' => ∃ i xo ys' H', Inv (compCx X sc (x :: ys) cl s2 H2 g3.objs.size fp) [] (xo :: capt σ js) H' s' ∧ tn i s'.heap ∧ (∀ b ∈ fp, H' b = none) ∧ W i n ys' H') ?_ m0 ⟨0, none, [], _, J0, st4, fun b hb => ?_, w0⟩
    · rintro n s' ⟨i, xo, ys', H', J', st', fr', w'⟩
      obtain ⟨hD, alt⟩ := turn i n ys' H' w'
      rcases alt with ⟨stop, qn⟩ | ⟨go, step⟩
      · refine wpAny_mono (T.done (compCx X sc (x :: ys) cl s2 H2 g3.objs.size fp) rfl rfl rfl hc i [] s' _ H' (fun _ _ => False) J' (stat fr') st' stop) ?_ fun _ _ z => z
        rintro r s'' ⟨rfl, J''⟩
        exact fin J'' qn
      · refine wpAny_mono (T.item (compCx X sc (x :: ys) cl s2 H2 g3.objs.size fp) rfl rfl rfl hc i [] s' _ H' (fun _ _ => False) J' (stat fr') st' go) ?_ fun _ _ z => z
        rintro r s'' ⟨u, rfl, hu⟩
        refine wpAny_mono hu ?_ fun _ _ z => z
        rintro _ s5 ⟨xv, H5, J5, r5, y5, st5, fr5⟩
        have J5' := J5.pinned (stat fr5) (T.obj _ _ st5)
        refine wpAny_assign_Name (store_ok (X := compCx X sc (x :: ys) cl s2 H2 g3.objs.size fp) (i := 0) J5' hnd rfl (.inl hx) r5 (fun s6 J6 => ?_) (.inr hx))
        refine wpAny_mono (hcd s2 H2 g3.objs.size fp _ s6 _ H5 _ J6 (step xv H5 y5)) ?_ fun _ _ z => z
        rintro okb s9 ⟨H9, J9, c9⟩
        cases okb with
        | false =>
          rw [if_neg Bool.false_ne_true] at c9 ⊢
          obtain ⟨m', hm', w7⟩ := c9
          have pinned : ∀ b ∈ fp, ∀ o, s5.heap.get? b = some o → s9.heap.get? b = some o ∧ H9 b = none := fun b hb o e => by
            obtain ⟨q1, q2, _⟩ := J9.pin (b, o) (List.mem_append_right _ (List.mem_append_right _ (mem_pinsAt hb e)))
            exact ⟨q1, q2⟩
          refine ⟨m', hm', i + 1, some xv, ys', _, J9.unpinned, T.keep _ _ _ st5 fun b hb o e => (pinned b hb o e).1, fun b hb => ?_, w7⟩
          obtain ⟨o, e, _⟩ := T.obj _ _ st5 b hb
          exact (pinned b hb o e).2
        | true =>
          rw [if_pos rfl] at c9 ⊢
          refine wpAny_mono (he s2 H2 g3.objs.size fp _ s9 _ H9 _ J9 c9) ?_ fun _ _ z => z
          rintro yv s7 ⟨yy, H7, J7, r7, hD7, hlen, m', hm', w7⟩
          refine wpAny_mono (mt_append (X := compCx X sc (x :: ys) cl s2 H2 g3.objs.size fp) _ s7 _ H7 (.ref s2.heap.objs.size) [yy] (.ref s2.heap.objs.size) [yv] (fun _ H8 => H8 = upd H7 s2.heap.objs.size (.lst (ys' ++ [yy]))) J7 rfl (.cons r7 .nil) ⟨_, ys', yy, rfl, rfl, hD7, hlen, rfl⟩) ?_ fun _ _ z => z
          rintro _ s8 ⟨_, H8, J8, _, rfl⟩
          have pinned : ∀ b ∈ fp, ∀ o, s5.heap.get? b = some o → s8.heap.get? b = some o ∧ (upd H7 s2.heap.objs.size (.lst (ys' ++ [yy]))) b = none := fun b hb o e => by
            obtain ⟨q1, q2, _⟩ := J8.pin (b, o) (List.mem_append_right _ (List.mem_append_right _ (mem_pinsAt hb e)))
            exact ⟨q1, q2⟩
          refine ⟨m', hm', i + 1, some xv, ys' ++ [yy], _, J8.unpinned, T.keep _ _ _ st5 fun b hb o e => (pinned b hb o e).1, fun b hb => ?_, w7⟩
          obtain ⟨o, e, _⟩ := T.obj _ _ st5 b hb
          exact (pinned b hb o e).2
    · rw [upd_ne (Nat.ne_of_lt (hfl b hb))]
      exact (f2 b hb).1
  exact codeAny_compStart_list (loop _ rfl) (T.self _ _ _ _ _ st4 (loop _ rfl))
end
theorem ps_compFR {X : Cx} {i0 : Nat} {y0 : Str} {py spos : Pos} {x : Str} {px pos : Pos} {elt iter cnd : Expr} {sc : Scope} {wi : TI} {te : TE} {tc : TT} (hN : X.N.Nodup) (ys : List Str) (js : List Nat) (cl : List (Str × Addr)) (hclos : closureFor sc X.env = pure cl) (hcap : Caps X sc cl ys js) (hin : ClIn X.env cl)
    (hi : PI X.nox (.Name x px) iter wi) (hcd : ∀ s2 H2 C ex, PT (compCx X sc (x :: ys) cl s2 H2 C ex) cnd tc) (he : ∀ s2 H2 C ex, PE (compCx X sc (x :: ys) cl s2 H2 C ex) elt te) (hc : X.calm = true := by rfl)
    (hcell : (sc.names.all fun p => p.2 != NameKind.cell) = true := by rfl) (hkind : sc.kind = .function := by rfl) (hnames : (sc.names.all fun p => p.2 != NameKind.local || sc.names.lookup p.1 == some NameKind.local) = true := by rfl)
    (hx : (relabel sc X.env).names.lookup x = some .local := by rfl) (hhas : ((relabel sc X.env).names.all fun p => p.2 == NameKind.local || p.2 == NameKind.globalImplicit || (cl.lookup p.1).isSome) = true := by rfl)
    (hnd : (x :: ys).Nodup := by decide +kernel) (hs : ∀ v, foldedSetIterable iter X.env v = pure v := by intro _; rfl) (hi0 : X.N[i0]? = some y0 := by kernel_rfl) (hy0 : X.env.scope.names.lookup y0 = some .local := by kernel_rfl) (hsw : swapsWith (.ListComp elt [⟨.Name x px, iter, [cnd], 0⟩] sc pos) (some (.Name y0 py)) spos.line X.env = pure true := by kernel_rfl) :
    PS X (.Assign [.Name y0 py] (.ListComp elt [⟨.Name x px, iter, [cnd], 0⟩] sc pos) spos) (tAsg (tCompF wi js tc te) (gName i0)) := by
  refine ps_compF hN hi0 hy0 hsw hclos (fun y hy z => ?_) hkind (fun y hy z => ?_) hx hcap (fun y c e => hin.mem (PySem.mem_of_lookup e)) (fun y h => ?_) hnd hc hi hcd he hs
  · have := List.all_eq_true.mp hcell y hy
    rw [z] at this
    exact absurd this (by decide)
  · have := List.all_eq_true.mp hnames y hy
    rw [z] at this
    simpa using this
  · have hm : ∃ k, (y, k) ∈ (relabel sc X.env).names ∧ (k = .cell ∨ k = .free) := by
      rcases h with h | h
      · exact ⟨_, PySem.mem_of_lookup h, .inl rfl⟩
      · exact ⟨_, PySem.mem_of_lookup h, .inr rfl⟩
    obtain ⟨k, hk, hz⟩ := hm
    have := List.all_eq_true.mp hhas _ hk
    rcases hz with rfl | rfl
    · exact Option.isSome_iff_exists.mp (by simpa using this)
    · exact Option.isSome_iff_exists.mp (by simpa using this)
theorem s_compF {X : Cx} {i : Nat} {y0 : Str} {py spos : Pos} {x : Str} {px pos : Pos} {elt iter cnd : Expr} {sc : Scope} {wi : TI} {te : TE} {tc : TT} (hN : X.N.Nodup) (ys : List Str) (js : List Nat) (cl : List (Str × Addr)) (hclos : closureFor sc X.env = pure cl) (hcap : Caps X sc cl ys js) (hin : ClIn X.env cl)
    (hi : QI X.nox (.Name x px) iter wi) (hcd : ∀ s2 H2 C ex, QT (compCx X sc (x :: ys) cl s2 H2 C ex) cnd tc) (he : ∀ s2 H2 C ex, QE (compCx X sc (x :: ys) cl s2 H2 C ex) elt te) (hc : X.calm = true := by rfl)
    (hcell : (sc.names.all fun p => p.2 != NameKind.cell) = true := by rfl) (hkind : sc.kind = .function := by rfl) (hnames : (sc.names.all fun p => p.2 != NameKind.local || sc.names.lookup p.1 == some NameKind.local) = true := by rfl)
    (hx : (relabel sc X.env).names.lookup x = some .local := by rfl) (hhas : ((relabel sc X.env).names.all fun p => p.2 == NameKind.local || p.2 == NameKind.globalImplicit || (cl.lookup p.1).isSome) = true := by rfl)
    (hnd : (x :: ys).Nodup := by decide +kernel) (hs : ∀ v, foldedSetIterable iter X.env v = pure v := by intro _; rfl) (hi0 : X.N[i]? = some y0 := by kernel_rfl) (hy0 : X.env.scope.names.lookup y0 = some .local := by kernel_rfl)
    (hsw : swapsWith (.ListComp elt [⟨.Name x px, iter, [cnd], 0⟩] sc pos) (some (.Name y0 py)) spos.line X.env = pure true := by kernel_rfl) :
    QS X (.Assign [.Name y0 py] (.ListComp elt [⟨.Name x px, iter, [cnd], 0⟩] sc pos) spos) (tAsg (tCompF wi js tc te) (gName i)) :=
  ⟨ps_compFR hN ys js cl hclos hcap hin hi.h (fun a b c d => (hcd a b c d).h) (fun a b c d => (he a b c d).h) hc hcell hkind hnames hx hhas hnd hs hi0 hy0 hsw⟩
/-- a name that a comprehension takes, as a loop's -/
theorem g_namec {X : Cx} {i : Nat} {x : Str} {pos : Pos} (hN : X.N.Nodup) (hfn : X.fn x = true := by rfl) (hi : X.N[i]? = some x := by kernel_rfl) (hx : X.env.scope.names.lookup x = some .cell := by kernel_rfl) : QG X (.Name x pos) (gName i) := ⟨pg_name hN hi (.inr hx) (.inl hfn)⟩
/-- a comprehension with a test whose element and test leave all as it is -/
theorem compF_pure {J : It} {xs : List V} {H : Hp} {cap : St} {tc : TT} {te : TE} {Q : VK} (p : Nat → V → Bool) (f : Nat → V → V) (hn : xs.length ≤ sizeLine)
    (go : ∀ i H', Same H H' → i < xs.length → J.go i H') (yld : ∀ i H' x H'', Same H H' → i < xs.length → J.yld i H' x H'' → H'' = H' ∧ xs[i]? = some x) (stop : ∀ H', Same H H' → J.stop xs.length H')
    (tst : ∀ (i : Nat) x H' (P : Bool → Hp → Prop), Same H H' → xs[i]? = some x → (∀ H'', Same H' H'' → P (p i x) H'') → tc (some x :: cap) H' P)
    (el : ∀ (i : Nat) x H' (P : VK), Same H H' → xs[i]? = some x → p i x = true → (∀ H'', Same H' H'' → P (f i x) H'') → te (some x :: cap) H' P)
    (fin : ∀ D H' ys, Same H H' → H D = none → H' D = some (.lst ys) → ys = (xs.zipIdx.filter fun z => p z.2 z.1).map (fun z => f z.2 z.1) → Q (.ref D) H') :
    CompedF J cap tc te Q H := by
  intro D hD
  refine ⟨fun i m zs H2 => m = xs.length - i ∧ i ≤ xs.length ∧ zs = ((xs.zipIdx.take i).filter fun z => p z.2 z.1).map (fun z => f z.2 z.1) ∧ H2 D = some (.lst zs) ∧ Same H H2, ⟨xs.length, rfl, Nat.zero_le _, by simp, upd_same, Same.new hD _⟩, ?_⟩
  rintro i m zs H2 ⟨rfl, hi, hz, hDz, hS⟩
  refine ⟨hDz, ?_⟩
  by_cases h : i < xs.length
  · refine .inr ⟨go i H2 hS h, ?_⟩
    intro x H3 hy
    obtain ⟨rfl, hx⟩ := yld i H2 x H3 hS h hy
    have hzi : xs.zipIdx[i]? = some (x, i) := by rw [List.getElem?_zipIdx, hx]; simp
    have hst : ((xs.zipIdx.take (i + 1)).filter fun z => p z.2 z.1).map (fun z => f z.2 z.1) = zs ++ (if p i x = true then [f i x] else []) := by
      rw [List.take_add_one, hzi, List.filter_append, List.map_append, ← hz]
      congr 1
      by_cases hp : p i x = true
      · rw [if_pos hp]
        simp [hp]
      · rw [if_neg hp]
        simp [hp]
    have hzl : zs.length ≤ i := by
      rw [hz, List.length_map]
      refine Nat.le_trans (List.length_filter_le _ _) ?_
      rw [List.length_take]
      omega
    refine tst i x H3 _ hS hx fun H4 hS4 => ?_
    by_cases hp : p i x = true
    · rw [if_pos hp] at hst ⊢
      refine el i x H4 _ (hS.trans hS4) hx hp fun H5 hS5 => ⟨hS5 _ _ (hS4 _ _ hDz), by omega, xs.length - (i + 1), by omega, rfl, h, hst.symm, upd_same, fun b u q => ?_⟩
      rw [upd_ne (ne_of_none q hD)]
      exact hS5 _ _ (hS4 _ _ (hS _ _ q))
    · rw [if_neg hp] at hst ⊢
      rw [List.append_nil] at hst
      exact ⟨xs.length - (i + 1), by omega, rfl, h, hst.symm, hS4 _ _ hDz, hS.trans hS4⟩
  · have e : i = xs.length := by omega
    subst e
    refine .inl ⟨stop H2 hS, fin D H2 zs hS hD hDz ?_⟩
    rw [hz, List.take_of_length_le (by simp)]
theorem compF_rng {lo : Int} {n : Nat} {H : Hp} {cap : St} {tc : TT} {te : TE} {Q : VK} (p : Nat → Bool) (f : Nat → V) (hn : n ≤ sizeLine)
    (tst : ∀ (i : Nat) H' (P : Bool → Hp → Prop), i < n → Same H H' → (∀ H'', Same H' H'' → P (p i) H'') → tc (some (.int (lo + i)) :: cap) H' P)
    (el : ∀ (i : Nat) H' (P : VK), i < n → Same H H' → p i = true → (∀ H'', Same H' H'' → P (f i) H'') → te (some (.int (lo + i)) :: cap) H' P) (fin : ∀ D H', Same H H' → H D = none → H' D = some (.lst (((List.range n).filter p).map f)) → Q (.ref D) H') :
    CompedF (Itr lo n) cap tc te Q H := by
  have hlen : ((List.range n).map fun (i : Nat) => V.int (lo + i)).length = n := by rw [List.length_map, List.length_range]
  have hget : ∀ (i : Nat) x, ((List.range n).map fun (i : Nat) => V.int (lo + i))[i]? = some x → i < n ∧ x = .int (lo + i) := fun i x h1 => by
    rw [List.getElem?_map] at h1
    cases hc : (List.range n)[i]? with
    | none => rw [hc] at h1; cases h1
    | some c =>
      obtain ⟨h3, h4⟩ := List.getElem?_eq_some_iff.mp hc
      rw [hc] at h1
      rw [List.getElem_range] at h4
      subst h4
      cases h1
      rw [List.length_range] at h3
      exact ⟨h3, rfl⟩
  refine compF_pure (xs := (List.range n).map fun (i : Nat) => V.int (lo + i)) (fun i _ => p i) (fun i _ => f i) (by rw [hlen]; exact hn) ?_ ?_ ?_ ?_ ?_ ?_
  · intro i H' _ h
    rw [hlen] at h
    exact h
  · rintro i H' y H'' _ h ⟨rfl, rfl⟩
    refine ⟨rfl, ?_⟩
    rw [hlen] at h
    rw [List.getElem?_map, List.getElem?_range h]
    rfl
  · intro H' _
    rw [hlen]
    exact Nat.le_refl _
  · intro i x H' P hS h1 hP
    obtain ⟨h3, rfl⟩ := hget i x h1
    exact tst i H' P h3 hS hP
  · intro i x H' P hS h1 hp hP
    obtain ⟨h3, rfl⟩ := hget i x h1
    exact el i H' P h3 hS hp hP
  · intro D H' ys hS hD hD' hy
    refine fin D H' hS hD ?_
    rw [hD', hy]
    congr 2
    have e : ((List.range n).map fun (i : Nat) => V.int (lo + i)).zipIdx = (List.range n).map fun (i : Nat) => (V.int (lo + i), i) := by
      apply List.ext_getElem?
      intro i
      rw [List.getElem?_zipIdx, List.getElem?_map, List.getElem?_map]
      by_cases h : i < n
      · rw [List.getElem?_range h]
        simp
      · rw [List.getElem?_eq_none (by rw [List.length_range]; omega)]
        rfl
    rw [e, List.filter_map, List.map_map]
    rfl
theorem compF_list {K : PySem.W.Frag} {a : Addr} {xs : List V} {H : Hp} {cap : St} {tc : TT} {te : TE} {Q : VK} (p : V → Bool) (f : V → V) (hS : SqL K H a xs) (hn : xs.length ≤ sizeLine)
    (tst : ∀ x H' (P : Bool → Hp → Prop), Same H H' → x ∈ xs → (∀ H'', Same H' H'' → P (p x) H'') → tc (some x :: cap) H' P)
    (el : ∀ x H' (P : VK), Same H H' → x ∈ xs → p x = true → (∀ H'', Same H' H'' → P (f x) H'') → te (some x :: cap) H' P) (fin : ∀ D H', Same H H' → H D = none → H' D = some (.lst ((xs.filter p).map f)) → Q (.ref D) H') :
    CompedF (Itl K a) cap tc te Q H := by
  refine compF_pure (xs := xs) (fun _ x => p x) (fun _ x => f x) hn ?_ ?_ ?_ ?_ ?_ ?_
  · intro i H' s hi
    exact ⟨xs, xs[i], s.seq hS, List.getElem?_eq_getElem hi⟩
  · rintro i H' x H'' s hi ⟨rfl, h⟩
    exact ⟨rfl, h xs (s.seq hS)⟩
  · intro H' s
    exact ⟨xs, s.seq hS, Nat.le_refl _⟩
  · intro i x H' P s h1 hP
    exact tst x H' P s (List.mem_of_getElem? h1) hP
  · intro i x H' P s h1 hp hP
    exact el x H' P s (List.mem_of_getElem? h1) hp hP
  · intro D H' ys s hD hD' hy
    refine fin D H' s hD ?_
    rw [hD', hy]
    congr 2
    have e : ∀ (l : List V) (k : Nat), ((l.zipIdx k).filter fun z => p z.1).map (fun z => f z.1) = (l.filter p).map f := by
      intro l
      induction l with
      | nil => intro k; rfl
      | cons b r ih =>
        intro k
        rw [List.zipIdx_cons, List.filter_cons, List.filter_cons]
        by_cases hb : p b = true
        · rw [if_pos hb, if_pos hb, List.map_cons, List.map_cons, ih]
        · rw [if_neg hb, if_neg hb, ih]
    exact e xs 0
end L2

set_option linter.all false
set_option maxRecDepth 100000
set_option maxHeartbeats 4000000
/-! list.reverse, min of a list of whole numbers, list(range(a, b, 2)) -/
namespace L2
open PySem PySem.Spec PyProof.Rows
section
variable {X : Cx}
/-- a, b = x, y -/
theorem s_par {i j : Nat} {x y : Str} {a b : Expr} {ta tb : TE} {px py pt pos : Pos} {kt k2 pt2} (hN : X.N.Nodup) (ha : QE X a ta) (hb : QE X b tb) (hc : X.calm = true := by rfl) (hi : X.N[i]? = some x := by kernel_rfl) (hj : X.N[j]? = some y := by kernel_rfl) (hij : i ≠ j := by decide)
    (hx : X.env.scope.names.lookup x = some .local := by kernel_rfl) (hy : X.env.scope.names.lookup y = some .local := by kernel_rfl) (hs1 : nostar a = true := by rfl) (hs2 : nostar b = true := by rfl)
    (hw : swappedStores [.Tuple [.Name x px, .Name y py] kt pt] (.Tuple [a, b] k2 pt2) X.env = pure (some [x, y]) := by rfl)
    (hs : swapsWithSole [.Tuple [.Name x px, .Name y py] kt pt] (.Tuple [a, b] k2 pt2) pos.line X.env = pure false := by rfl) :
    QS X (.Assign [.Tuple [.Name x px, .Name y py] kt pt] (.Tuple [a, b] k2 pt2) pos) (tPar i j (tCons ta (tCons tb tNil))) := ⟨ps_par hc hN hi hj hij hx hy (pa' ha.h (pa' hb.h pa_nil hs2) hs1) hw hs⟩
def tLRngT (ta : TA) : TE := fun σ H Q => ta σ H fun vs H1 => ∃ i j : Int, vs = [.int i, .int j, .int 2] ∧ (-(2 ^ 61) ≤ i ∧ i < 2 ^ 61 ∧ -(2 ^ 61) ≤ j ∧ j < 2 ^ 61) ∧ ((j - i + 1) / 2).toNat ≤ 2 ^ 24 ∧ ∀ l, H1 l = none → Q (.ref l) (upd H1 l (.lst (rngV i ((j - i + 1) / 2).toNat 2)))
end
end L2

set_option linter.all false
set_option maxRecDepth 100000
set_option maxHeartbeats 4000000
/-! for x, y in zip(a list, a list) -/
namespace L2
open PySem PySem.Spec PyProof.Rows
def Itz (K : PySem.W.Frag) (a b : Addr) : It :=
  ⟨fun i H => ∃ xs ys x y, SqL K H a xs ∧ SqL K H b ys ∧ xs[i]? = some x ∧ ys[i]? = some y,
   fun i H x H' => ∃ p v w, x = .ref p ∧ H p = none ∧ H' = upd H p (.tup [v, w]) ∧ (∀ xs, SqL K H a xs → xs[i]? = some v) ∧ (∀ ys, SqL K H b ys → ys[i]? = some w),
   fun i H => ∃ xs ys, SqL K H a xs ∧ SqL K H b ys ∧ (xs.length ≤ i ∨ ys.length ≤ i)⟩
def iZip (K : PySem.W.Frag) (ta : TA) : TI := fun σ H R => ta σ H fun vs H1 => ∃ a b, vs = [.ref a, .ref b] ∧ (∃ xs, SqL K H1 a xs) ∧ (∃ ys, SqL K H1 b ys) ∧ R (Itz K a b) H1
section
variable {X : Cx}
end
/-- a comprehension over a list whose items are new tuples -/
theorem comp_new {K : PySem.W.Frag} {a : Addr} {xs : List V} {H : Hp} {cap : St} {te : TE} {Q : VK} (g : Nat → List V) (hS : SqL K H a xs) (hn : xs.length ≤ sizeLine)
    (el : ∀ (i : Nat) x H' (P : VK), Same H H' → xs[i]? = some x → (∀ r H'', Same H' H'' → H'' r = some (.tup (g i)) → P (.ref r) H'') → te (some x :: cap) H' P)
    (fin : ∀ D H' (rs : List Addr), Same H H' → H D = none → H' D = some (.lst (rs.map V.ref)) → rs.length = xs.length → (∀ (i : Nat) r, rs[i]? = some r → H' r = some (.tup (g i))) → Q (.ref D) H') : Comped (Itl K a) cap te Q H := by
  intro D hD
  refine ⟨fun i m zs H2 => ∃ rs : List Addr, m = xs.length - i ∧ i ≤ xs.length ∧ zs = rs.map V.ref ∧ rs.length = i ∧ H2 D = some (.lst zs) ∧ Same H H2 ∧ ∀ (j : Nat) r, rs[j]? = some r → H2 r = some (.tup (g j)), ⟨xs.length, [], rfl, Nat.zero_le _, rfl, rfl, upd_same, Same.new hD _, fun j r h => by cases h⟩, ?_⟩
  rintro i m zs H2 ⟨rs, rfl, hi, rfl, hrl, hDz, hS2, hrs⟩
  refine ⟨hDz, ?_⟩
  by_cases h : i < xs.length
  · refine .inr ⟨⟨xs, xs[i], hS2.seq hS, List.getElem?_eq_getElem h⟩, ?_⟩
    rintro x H3 ⟨rfl, hy⟩
    have hx := hy xs (hS2.seq hS)
    refine el i x H3 _ hS2 hx fun r H4 hS4 hr => ⟨hS4 _ _ hDz, by rw [List.length_map]; omega, xs.length - (i + 1), by omega, rs ++ [r], rfl, h, by rw [List.map_append]; rfl, by rw [List.length_append, hrl]; rfl, upd_same, fun b u q => ?_, fun j r' hj => ?_⟩
    · rw [upd_ne (ne_of_none q hD)]
      exact hS4 _ _ (hS2 _ _ q)
    · have nD : ∀ r'' xs', H4 r'' = some (.tup xs') → r'' ≠ D := fun r'' xs' e => ne_of e (hS4 _ _ hDz) (by intro z; cases z)
      by_cases hji : j < rs.length
      · rw [List.getElem?_append_left hji] at hj
        have e := hS4 _ _ (hrs j r' hj)
        rw [upd_ne (nD _ _ e)]
        exact e
      · have hl := (List.getElem?_eq_some_iff.mp hj).1
        rw [List.length_append, List.length_singleton] at hl
        have : j = i := by omega
        subst this
        rw [List.getElem?_append_right (by omega), show j - rs.length = 0 by omega] at hj
        cases hj
        rw [upd_ne (nD _ _ hr)]
        exact hr
  · have e : i = xs.length := by omega
    subst e
    exact .inl ⟨⟨xs, hS2.seq hS, Nat.le_refl _⟩, fin D H2 rs hS2 hD hDz hrl hrs⟩
end L2

set_option linter.all false
set_option maxRecDepth 100000
set_option maxHeartbeats 4000000
/-! xs[::-1] of a list; a comprehension over a tuple whose items are new tuples. -/
namespace L2
open PySem PySem.Spec PyProof.Rows
section
variable {X : Cx}
def tRev (K : PySem.W.Frag) (te : TE) (tk : TO) : TE := fun σ H Q => te σ H fun x H1 => tk σ H1 fun k H2 => k = some (-1) ∧ ∃ a xs, x = .ref a ∧ SqL K H2 a xs ∧ ∀ p, H2 p = none → Q (.ref p) (upd H2 p (.lst xs.reverse))
theorem pe_rev {e st : Expr} {te : TE} {tk : TO} {p2 pos : Pos} (he : PE X e te) (hk : PO X (some st) tk) : PE X (.Subscript e (.Slice none none (some st) p2) pos) (tRev X.K te tk) := by
  intro pins s σ H Q I h
  refine Subscript_ (thn (he pins s σ H _ I h) fun v s1 ⟨x, H1, I1, r1, q1⟩ => ?_)
  refine wpAny_Slice ?_
  rw [evalPart_none]
  refine wpAny_pure (wpAny_pure ?_)
  refine thn (hk pins s1 σ H1 _ I1 q1) fun vk s3 ⟨k, H3, I3, pk, q3⟩ => ?_
  obtain ⟨rfl, a, xs, rfl, hx, q⟩ := q3
  cases r1
  have I4 : Inv X pins σ H3 { s3 with heap := s3.heap.push { cls := .type "slice", data := .fields #[.none, .none, vk] } } := I3.kept (t' := s3.toks) fun b ob q => Heap.get?_push_of_some _ q
  obtain ⟨its, r, ht, hz⟩ := I4.list hx
  have hlen := r.length
  show wpAny (model X.prog X.w) X.A (subscriptTail e (.Slice none none (some st) p2) (.ref a) (.ref s3.heap.objs.size)) (EP X pins σ Q) X.xe { s3 with heap := s3.heap.push { cls := .type "slice", data := .fields #[.none, .none, vk] } }
  refine tail_any (ops := [.ref a, .ref s3.heap.objs.size]) ht.isList.typeIs slot_list_getitem.lookup ?_ (by with_unfolding_all rfl)
  refine wpAny_getItem_list_slice ht.isList (Heap.IsSliceOf.new ..) .none .none pk (by decide) ?_ (by rw [List.size_toArray] <;> omega)
  rw [PySem.W.krv_pick, show its.toArray.toList.reverse = its.reverse by simp]
  refine ⟨.ref _, _, I4.laid (t' := s3.toks) (o := .lst xs.reverse) (fun b ob q => Heap.get?_push_of_some _ q) (Nat.le_refl _) ?_, rfl, q _ (I4.hok.fresh (Nat.le_refl _))⟩
  exact ⟨by rw [List.length_reverse]; exact hz, its.reverse, 0, r.reverse, Heap.get?_push_size _ rfl⟩
theorem e_rev {e st : Expr} {te : TE} {tk : TO} {p2 pos : Pos} (he : QE X e te) (hk : QO X (some st) tk) : QE X (.Subscript e (.Slice none none (some st) p2) pos) (tRev X.K te tk) := ⟨pe_rev he.h hk.h⟩
end
theorem comp_newT {K : PySem.W.Frag} {a : Addr} {xs : List V} {H : Hp} {cap : St} {te : TE} {Q : VK} (g : Nat → List V) (hS : SqT K H a xs) (hn : xs.length ≤ sizeLine)
    (el : ∀ (i : Nat) x H' (P : VK), Same H H' → xs[i]? = some x → (∀ r H'', Same H' H'' → H'' r = some (.tup (g i)) → P (.ref r) H'') → te (some x :: cap) H' P)
    (fin : ∀ D H' (rs : List Addr), Same H H' → H D = none → H' D = some (.lst (rs.map V.ref)) → rs.length = xs.length → (∀ (i : Nat) r, rs[i]? = some r → H' r = some (.tup (g i))) → Q (.ref D) H') : Comped (Itt K a) cap te Q H := by
  intro D hD
  refine ⟨fun i m zs H2 => ∃ rs : List Addr, m = xs.length - i ∧ i ≤ xs.length ∧ zs = rs.map V.ref ∧ rs.length = i ∧ H2 D = some (.lst zs) ∧ Same H H2 ∧ ∀ (j : Nat) r, rs[j]? = some r → H2 r = some (.tup (g j)), ⟨xs.length, [], rfl, Nat.zero_le _, rfl, rfl, upd_same, Same.new hD _, fun j r h => by cases h⟩, ?_⟩
  rintro i m zs H2 ⟨rs, rfl, hi, rfl, hrl, hDz, hS2, hrs⟩
  refine ⟨hDz, ?_⟩
  by_cases h : i < xs.length
  · refine .inr ⟨⟨xs, xs[i], hS2.seqT hS, List.getElem?_eq_getElem h⟩, ?_⟩
    rintro x H3 ⟨rfl, hy⟩
    have hx := hy xs (hS2.seqT hS)
    refine el i x H3 _ hS2 hx fun r H4 hS4 hr => ⟨hS4 _ _ hDz, by rw [List.length_map]; omega, xs.length - (i + 1), by omega, rs ++ [r], rfl, h, by rw [List.map_append]; rfl, by rw [List.length_append, hrl]; rfl, upd_same, fun b u q => ?_, fun j r' hj => ?_⟩
    · rw [upd_ne (ne_of_none q hD)]
      exact hS4 _ _ (hS2 _ _ q)
    · have nD : ∀ r'' xs', H4 r'' = some (.tup xs') → r'' ≠ D := fun r'' xs' e => ne_of e (hS4 _ _ hDz) (by intro z; cases z)
      by_cases hji : j < rs.length
      · rw [List.getElem?_append_left hji] at hj
        have e := hS4 _ _ (hrs j r' hj)
        rw [upd_ne (nD _ _ e)]
        exact e
      · have hl := (List.getElem?_eq_some_iff.mp hj).1
        rw [List.length_append, List.length_singleton] at hl
        have : j = i := by omega
        subst this
        rw [List.getElem?_append_right (by omega), show j - rs.length = 0 by omega] at hj
        cases hj
        rw [upd_ne (nD _ _ hr)]
        exact hr
  · have e : i = xs.length := by omega
    subst e
    exact .inl ⟨⟨xs, hS2.seqT hS, Nat.le_refl _⟩, fin D H2 rs hS2 hD hDz hrl hrs⟩
end L2

set_option linter.all false
set_option maxRecDepth 100000
/-! What is shown, moment by moment. -/
namespace KS
open PySem
structure Frm where
  reel : Str
  n : Int
  p : Int
  w : Int
/-- one frame more of a clip: its k-th, at the moment B + k -/
def putF (S : List (List Frm)) (c : Clip) (B k : Nat) (n : Int) : List (List Frm) :=
  if (k : Int) < c.f then S.set (B + k) (match S.getD (B + k) [] with
    | [] => []
    | g :: _ => [⟨g.reel, g.n, c.f - k, c.f + 1⟩, ⟨c.reel, n, k + 1, c.f + 1⟩])
  else S ++ [[⟨c.reel, n, 1, 1⟩]]
def shK (S : List (List Frm)) (c : Clip) (B : Nat) : Nat → List (List Frm)
  | 0 => S
  | k + 1 => putF (shK S c B k) c B k (c.a + (k : Int) * c.way)
def showC (S : List (List Frm)) (c : Clip) : List (List Frm) := shK S c (S.length - c.f.toNat) c.cnt
def shown (cs : List Clip) : List (List Frm) := cs.foldl showC []
theorem len_put (S : List (List Frm)) (c : Clip) (B k : Nat) (n : Int) : (putF S c B k n).length = if (k : Int) < c.f then S.length else S.length + 1 := by
  unfold putF
  split
  · rw [List.length_set]
  · rw [List.length_append]; rfl
theorem len_shK (S : List (List Frm)) (c : Clip) (B : Nat) (h : 0 ≤ c.f) : ∀ k, (shK S c B k).length = S.length + (k - c.f.toNat)
  | 0 => by simp [shK]
  | k + 1 => by
    show (putF _ c B k _).length = _
    rw [len_put, len_shK S c B h k]
    split <;> omega
theorem len_showC (S : List (List Frm)) (c : Clip) (h : 0 ≤ c.f) : (showC S c).length = S.length + (c.cnt - c.f.toNat) := len_shK S c _ h _
/-- how long a film is -/
def lenI (cs : List Clip) : Int := (cs.map fun c => ((c.cnt : Int) - c.f)).foldl (· + ·) 0
structure FOk (f : Frm) : Prop where
  rf : PyData.strOk f.reel = true
def MsOk (S : List (List Frm)) : Prop := ∀ m ∈ S, m ≠ [] ∧ (∀ f ∈ m, FOk f) ∧ m.length ≤ 2
theorem ms_put {S : List (List Frm)} {c : Clip} {B k : Nat} {n : Int} (h : MsOk S) (hc : PyData.strOk c.reel = true) (hb : (k : Int) < c.f → B + k < S.length) : MsOk (putF S c B k n) := by
  unfold putF
  split
  · rename_i hk
    intro m hm
    rcases List.mem_or_eq_of_mem_set hm with hm | rfl
    · exact h m hm
    · have hg : S[B + k]? = some S[B + k] := List.getElem?_eq_getElem (hb hk)
      have hd : S.getD (B + k) [] = S[B + k] := by rw [List.getD_eq_getElem?_getD, hg]; rfl
      obtain ⟨h1, h2, _⟩ := h _ (List.getElem_mem (hb hk))
      rw [hd]
      cases hx : S[B + k] with
      | nil => exact absurd hx h1
      | cons g r =>
        refine ⟨by simp, fun f hf => ?_, Nat.le_refl 2⟩
        simp only [List.mem_cons, List.not_mem_nil, or_false] at hf
        rcases hf with rfl | rfl
        · exact ⟨(h2 g (by rw [hx]; exact List.mem_cons_self ..)).rf⟩
        · exact ⟨hc⟩
  · intro m hm
    rcases List.mem_append.mp hm with hm | hm
    · exact h m hm
    · rw [List.mem_singleton.mp hm]
      exact ⟨by simp, fun f hf => by rw [List.mem_singleton.mp hf]; exact ⟨hc⟩, Nat.le_succ 1⟩
theorem ms_shK {S : List (List Frm)} {c : Clip} {B : Nat} (h : MsOk S) (hc : PyData.strOk c.reel = true) (f0 : 0 ≤ c.f) (hb : B + c.f.toNat ≤ S.length) : ∀ k, MsOk (shK S c B k)
  | 0 => h
  | k + 1 => ms_put (ms_shK h hc f0 hb k) hc fun hk => by rw [len_shK S c B f0 k]; omega
/-! ### a whole film -/
/-- each fade lies within what is shown ahead of it -/
structure Sd (cs : List Clip) : Prop where
  f0 : ∀ c ∈ cs, 0 ≤ c.f
  f1 : ∀ c ∈ cs, c.f ≤ c.cnt
  f2 : ∀ (i : Nat) c, cs[i]? = some c → c.f ≤ ((shown (cs.take i)).length : Int)
  rf : ∀ c ∈ cs, PyData.strOk c.reel = true
theorem shown_app (cs : List Clip) (c : Clip) : shown (cs ++ [c]) = showC (shown cs) c := by unfold shown; rw [List.foldl_append]; rfl
theorem shown_take {cs : List Clip} {i : Nat} {c : Clip} (h : cs[i]? = some c) : shown (cs.take (i + 1)) = showC (shown (cs.take i)) c := by
  rw [List.take_add_one, h]
  exact shown_app _ _
theorem Sd.nil : Sd [] := ⟨(fun c h => nomatch h), (fun c h => nomatch h), (fun i c h => by cases h), (fun c h => nomatch h)⟩
theorem Sd.push {cs : List Clip} {c : Clip} (h : Sd cs) (f0 : 0 ≤ c.f) (f1 : c.f ≤ c.cnt) (f2 : c.f ≤ ((shown cs).length : Int)) (rf : PyData.strOk c.reel = true) : Sd (cs ++ [c]) := by
  refine ⟨fun x hx => ?_, fun x hx => ?_, fun i x hx => ?_, fun x hx => ?_⟩
  · rcases List.mem_append.mp hx with z | z
    · exact h.f0 x z
    · rw [List.mem_singleton.mp z]; exact f0
  · rcases List.mem_append.mp hx with z | z
    · exact h.f1 x z
    · rw [List.mem_singleton.mp z]; exact f1
  · by_cases hi : i < cs.length
    · rw [List.getElem?_append_left hi] at hx
      rw [List.take_append_of_le_length (by omega)]
      exact h.f2 i x hx
    · have hl := (List.getElem?_eq_some_iff.mp hx).1
      rw [List.length_append, List.length_singleton] at hl
      have e : i = cs.length := by omega
      rw [List.getElem?_append_right (by omega), e, Nat.sub_self] at hx
      cases hx
      rw [e, List.take_left']
      · exact f2
      · rfl
  · rcases List.mem_append.mp hx with z | z
    · exact h.rf x z
    · rw [List.mem_singleton.mp z]; exact rf
theorem len_app {cs : List Clip} {c : Clip} (f0 : 0 ≤ c.f) (f1 : c.f ≤ c.cnt) : ((shown (cs ++ [c])).length : Int) = ((shown cs).length : Int) + ((c.cnt : Int) - c.f) := by
  rw [shown_app, len_showC _ _ f0]
  omega
theorem ms_shown {cs : List Clip} (h : Sd cs) : ∀ i, i ≤ cs.length → MsOk (shown (cs.take i))
  | 0, _ => fun m hm => by simp [shown] at hm
  | i + 1, hi => by
    have hx : cs[i]? = some cs[i] := List.getElem?_eq_getElem (by omega)
    have hm := List.getElem_mem (l := cs) (n := i) (by omega)
    rw [shown_take hx]
    have f0 := h.f0 _ hm
    have f2 := h.f2 i _ hx
    exact ms_shK (ms_shown h i (by omega)) (h.rf _ hm) f0 (by omega) _
theorem len_bound {m : Nat} {cs : List Clip} (h : Sd cs) (hm : ∀ c ∈ cs, c.cnt ≤ m) : ∀ i, i ≤ cs.length → (shown (cs.take i)).length ≤ m * i
  | 0, _ => by simp [shown]
  | i + 1, hi => by
    have hx : cs[i]? = some cs[i] := List.getElem?_eq_getElem (by omega)
    have hm' := List.getElem_mem (l := cs) (n := i) (by omega)
    have ih := len_bound h hm i (by omega)
    have := hm _ hm'
    rw [shown_take hx, len_showC _ _ (h.f0 _ hm'), Nat.mul_succ]
    omega
end KS

set_option linter.all false
set_option maxRecDepth 100000
/-! Two rolls: where strips stand, what lies on a roll. -/
namespace KS
open PySem
def noC : Clip := ⟨Str.ofString "", 0, 0, 0⟩
def clA (cs : List Clip) (k : Nat) : Clip := cs.getD k noC
theorem clA_get {cs : List Clip} {k : Nat} {c : Clip} (h : cs[k]? = some c) : clA cs k = c := by
  unfold clA
  rw [List.getD_eq_getElem?_getD, h]
  rfl
/-- what is between the neighbours of the k-th -/
def gapA (cs : List Clip) (k : Nat) : Int := (clA cs k).cnt - (clA cs k).f - (clA cs (k + 1)).f
def Short (cs : List Clip) (ld : Int) (k : Nat) : Prop := 1 ≤ k ∧ k + 1 < cs.length ∧ gapA cs k < ld
def FirstS (cs : List Clip) (ld : Int) (k : Nat) : Prop := Short cs ld k ∧ ∀ j, j < k → ¬ Short cs ld j
theorem FirstS.uniq {cs : List Clip} {ld : Int} {j k : Nat} (a : FirstS cs ld j) (b : FirstS cs ld k) : j = k := by
  rcases Nat.lt_trichotomy j k with h | h | h
  · exact absurd a.1 (b.2 j h)
  · exact h
  · exact absurd b.1 (a.2 k h)
/-- what is told: the first that is too short, else -1 -/
def TD (cs : List Clip) (ld r : Int) : Prop := (r = -1 ∧ ∀ k, ¬ Short cs ld k) ∨ ∃ k : Nat, r = k ∧ FirstS cs ld k
/-- none is too short for both its fades -/
def Roomy (cs : List Clip) : Prop := ∀ k, k + 1 < cs.length → 0 ≤ gapA cs k
/-- the moment behind the first k -/
def endA (cs : List Clip) : Nat → Int
  | 0 => 0
  | k + 1 => endA cs k - (clA cs k).f + (clA cs k).cnt
def bgA (cs : List Clip) (k : Nat) : Int := endA cs k - (clA cs k).f
theorem endA_app (cs ds : List Clip) : ∀ k, k ≤ cs.length → endA (cs ++ ds) k = endA cs k
  | 0, _ => rfl
  | k + 1, h => by
    have e : clA (cs ++ ds) k = clA cs k := by
      unfold clA
      rw [List.getD_eq_getElem?_getD, List.getD_eq_getElem?_getD, List.getElem?_append_left (by omega)]
    show endA (cs ++ ds) k - _ + _ = _
    rw [endA_app cs ds k (by omega), e]
    rfl
theorem endA_sum : ∀ (ds cs : List Clip), endA (cs ++ ds) (cs ++ ds).length = endA cs cs.length + (ds.map fun c => (c.cnt : Int) - c.f).sum
  | [], cs => by simp
  | d :: ds, cs => by
    have h := endA_sum ds (cs ++ [d])
    rw [List.append_assoc, List.singleton_append] at h
    have e : endA (cs ++ [d]) (cs ++ [d]).length = endA cs cs.length - d.f + d.cnt := by
      rw [List.length_append, List.length_singleton]
      show endA (cs ++ [d]) cs.length - (clA (cs ++ [d]) cs.length).f + (clA (cs ++ [d]) cs.length).cnt = _
      rw [endA_app cs [d] _ (Nat.le_refl _), clA_get (c := d) (by rw [List.getElem?_append_right (Nat.le_refl _), Nat.sub_self]; rfl)]
    rw [h, e, List.map_cons, List.sum_cons]
    omega
theorem len_endA (cs : List Clip) : (cs.map fun c => (c.cnt : Int) - c.f).sum = endA cs cs.length := by
  have h := endA_sum cs []
  rw [List.nil_append] at h
  rw [h]
  show _ = 0 + _
  omega
/-- a thing on a roll -/
structure Th where
  lead : Bool
  n : Int
def ldP (m : Int) : List Th := if 0 < m then [⟨true, m⟩] else []
def rEnd (cs : List Clip) (fi : Nat) : Nat → Int
  | 0 => 0
  | i + 1 => endA cs (fi + 2 * i + 1)
def rollA (cs : List Clip) (fi : Nat) : Nat → List Th
  | 0 => []
  | i + 1 => rollA cs fi i ++ ldP (bgA cs (fi + 2 * i) - rEnd cs fi i) ++ [⟨false, ((fi + 2 * i : Nat) : Int)⟩]
/-- how many strips are on it -/
def manyA (cs : List Clip) (fi : Nat) : Nat := (cs.length + 1 - fi) / 2
def fullA (cs : List Clip) (fi : Nat) : List Th := rollA cs fi (manyA cs fi) ++ ldP (endA cs cs.length - rEnd cs fi (manyA cs fi))
theorem ldP_len (m : Int) : (ldP m).length ≤ 1 := by
  unfold ldP
  split
  · exact Nat.le_refl 1
  · exact Nat.zero_le 1
theorem rollA_len (cs : List Clip) (fi : Nat) : ∀ i, (rollA cs fi i).length ≤ 2 * i
  | 0 => Nat.le_refl _
  | i + 1 => by
    have := rollA_len cs fi i
    have := ldP_len (bgA cs (fi + 2 * i) - rEnd cs fi i)
    show (rollA cs fi i ++ ldP _ ++ [_]).length ≤ _
    rw [List.length_append, List.length_append, List.length_singleton]
    omega
theorem fullA_len (cs : List Clip) (fi : Nat) : (fullA cs fi).length ≤ cs.length + 3 := by
  have := rollA_len cs fi (manyA cs fi)
  have := ldP_len (endA cs cs.length - rEnd cs fi (manyA cs fi))
  unfold fullA
  rw [List.length_append]
  unfold manyA at *
  omega
end KS

set_option linter.all false
set_option maxRecDepth 100000
/-! Strips of good clips: they can be laid but for those that are too short. -/
namespace KS
open PySem
/-- clips as played -/
structure Cd (cs : List Clip) : Prop where
  all : ∀ c ∈ cs, 0 ≤ c.f ∧ c.f ≤ c.cnt
  fst : ∀ c, cs[0]? = some c → c.f = 0
  nxt : ∀ (k : Nat) (c d : Clip), cs[k]? = some c → cs[k + 1]? = some d → d.f ≤ c.cnt
theorem Cd.nil : Cd [] := ⟨(fun c h => nomatch h), (fun c h => by cases h), (fun k c d h => by cases h)⟩
theorem Cd.snoc {cs : List Clip} {d : Clip} (h : Cd cs) (f0 : 0 ≤ d.f) (f1 : d.f ≤ d.cnt) (hf : cs = [] → d.f = 0) (hn : ∀ L c, cs = L ++ [c] → d.f ≤ c.cnt) : Cd (cs ++ [d]) := by
  refine ⟨fun c hc => ?_, fun c hc => ?_, fun k c e hc he => ?_⟩
  · rcases List.mem_append.mp hc with z | z
    · exact h.all c z
    · rw [List.mem_singleton.mp z]
      exact ⟨f0, f1⟩
  · cases cs with
    | nil => cases hc; exact hf rfl
    | cons x r => exact h.fst c hc
  · by_cases z : k + 1 < cs.length
    · rw [List.getElem?_append_left (by omega)] at hc
      rw [List.getElem?_append_left z] at he
      exact h.nxt k c e hc he
    · have hl := (List.getElem?_eq_some_iff.mp he).1
      rw [List.length_append, List.length_singleton] at hl
      rw [List.getElem?_append_right (by omega), show k + 1 - cs.length = 0 by omega] at he
      cases he
      rw [List.getElem?_append_left (by omega)] at hc
      obtain ⟨h1, h2⟩ := List.getElem?_eq_some_iff.mp hc
      have eq : cs = cs.take k ++ [cs[k]'h1] := by
        have := List.take_append_drop k cs
        rw [List.drop_eq_getElem_cons h1, List.drop_eq_nil_of_le (by omega)] at this
        exact this.symm
      rw [← h2]
      exact hn _ _ eq
theorem Cd.left {cs : List Clip} {d : Clip} (h : Cd (cs ++ [d])) : Cd cs := by
  refine ⟨fun c hc => h.all c (List.mem_append_left _ hc), fun c hc => h.fst c ?_, fun k c e hc he => h.nxt k c e ?_ ?_⟩
  · rw [List.getElem?_append_left (List.getElem?_eq_some_iff.mp hc).1]; exact hc
  · rw [List.getElem?_append_left (List.getElem?_eq_some_iff.mp hc).1]; exact hc
  · rw [List.getElem?_append_left (List.getElem?_eq_some_iff.mp he).1]; exact he
theorem Cd.last {cs : List Clip} {c d : Clip} (h : Cd (cs ++ [c] ++ [d])) : d.f ≤ c.cnt := by
  refine h.nxt cs.length c d ?_ ?_
  · rw [List.append_assoc, List.getElem?_append_right (Nat.le_refl _), Nat.sub_self]
    rfl
  · rw [List.append_assoc, List.getElem?_append_right (by omega), show cs.length + 1 - cs.length = 1 by omega]
    rfl
/-- strips, in order -/
structure Sn (S : List Clip) : Prop where
  all : ∀ s ∈ S, 0 ≤ s.f ∧ s.f ≤ s.cnt
  fst : ∀ s, S[0]? = some s → s.f = 0
  snd : ∀ (s t : Clip), S[0]? = some s → S[1]? = some t → t.f ≤ s.cnt
theorem cnt_pos (c : Clip) : 1 ≤ c.cnt := by unfold Clip.cnt; omega
theorem moments_total : ∀ (S : List Clip), (moments S).length = (S.map Clip.cnt).sum
  | [] => rfl
  | s :: r => by rw [moments_cons, List.length_append, ms_len, moments_total r, List.map_cons, List.sum_cons]
/-! ### a roll looked through -/
structure Rs where
  at_ : Int
  ns : List Int
  ld : Bool
def stpT (S : List Clip) (st : Rs) (t : Th) : Option Rs :=
  if t.lead = true then (if st.ld = true then none else some ⟨st.at_ + t.n, st.ns, true⟩)
  else if 0 ≤ t.n ∧ t.n < S.length ∧ st.at_ = bgA S t.n.toNat then some ⟨st.at_ + (clA S t.n.toNat).cnt, st.ns ++ [t.n], false⟩ else none
def runT (S : List Clip) : List Th → Rs → Option Rs
  | [], st => some st
  | t :: r, st => (stpT S st t).bind (runT S r)
theorem runT_app (S : List Clip) : ∀ (a b : List Th) (st : Rs), runT S (a ++ b) st = (runT S a st).bind (runT S b)
  | [], b, st => rfl
  | t :: a, b, st => by
    show (stpT S st t).bind (runT S (a ++ b)) = ((stpT S st t).bind (runT S a)).bind (runT S b)
    cases stpT S st t with
    | none => rfl
    | some st' => exact runT_app S a b st'
/-- leader up to the moment b -/
theorem runT_ld {S : List Clip} {at_ : Int} {ns : List Int} {b : Int} (h : at_ ≤ b) : ∃ d, runT S (ldP (b - at_)) ⟨at_, ns, false⟩ = some ⟨b, ns, d⟩ := by
  unfold ldP
  split
  · refine ⟨true, ?_⟩
    show some (⟨at_ + (b - at_), ns, true⟩ : Rs) = _
    rw [show at_ + (b - at_) = b by omega]
  · refine ⟨false, ?_⟩
    show some (⟨at_, ns, false⟩ : Rs) = _
    rw [show at_ = b by omega]
theorem stpT_strip {S : List Clip} {k : Nat} {ns : List Int} {d : Bool} (h : k < S.length) : stpT S ⟨bgA S k, ns, d⟩ ⟨false, (k : Int)⟩ = some ⟨endA S (k + 1), ns ++ [(k : Int)], false⟩ := by
  unfold stpT
  rw [if_neg Bool.false_ne_true, if_pos ⟨by show (0 : Int) ≤ k; omega, by show (k : Int) < S.length; omega, rfl⟩]
  rfl
def numsA (fi i : Nat) : List Int := (List.range i).map fun (j : Nat) => (fi : Int) + (j : Int) * 2
theorem ldP_pos {m : Int} {t : Th} (h : t ∈ ldP m) : t.lead = true ∧ 1 ≤ t.n := by
  unfold ldP at h
  split at h
  · rw [List.mem_singleton.mp h]
    exact ⟨rfl, by assumption⟩
  · cases h
theorem rollA_mem {S : List Clip} {fi : Nat} {t : Th} : ∀ i, t ∈ rollA S fi i → (if t.lead = true then 1 else 0) ≤ t.n
  | 0, h => nomatch h
  | i + 1, h => by
    rcases List.mem_append.mp h with z | z
    · rcases List.mem_append.mp z with y | y
      · exact rollA_mem i y
      · obtain ⟨h1, h2⟩ := ldP_pos y
        rw [if_pos h1]
        exact h2
    · rw [List.mem_singleton.mp z, if_neg Bool.false_ne_true]
      show (0 : Int) ≤ ((fi + 2 * i : Nat) : Int)
      omega
theorem fullA_mem {S : List Clip} {fi : Nat} {t : Th} (h : t ∈ fullA S fi) : (if t.lead = true then 1 else 0) ≤ t.n := by
  rcases List.mem_append.mp h with z | z
  · exact rollA_mem _ z
  · obtain ⟨h1, h2⟩ := ldP_pos z
    rw [if_pos h1]
    exact h2
/-! ### those that are too short, as a list -/
def shortL (cs : List Clip) (ld : Int) : List Int := ((List.range (cs.length - 2)).filter fun i => decide (gapA cs (i + 1) < ld)).map fun (i : Nat) => (i : Int) + 1
theorem short_nil {cs : List Clip} {ld : Int} (h : shortL cs ld = []) (k : Nat) : ¬ Short cs ld k := by
  rintro ⟨h1, h2, h3⟩
  have := List.map_eq_nil_iff.mp h
  have hm : k - 1 ∈ (List.range (cs.length - 2)).filter fun i => decide (gapA cs (i + 1) < ld) := by
    refine List.mem_filter.mpr ⟨List.mem_range.mpr (by omega), ?_⟩
    rw [show k - 1 + 1 = k by omega]
    exact decide_eq_true h3
  rw [this] at hm
  cases hm
theorem short_head {cs : List Clip} {ld x : Int} {r : List Int} (h : shortL cs ld = x :: r) : ∃ k : Nat, x = k ∧ FirstS cs ld k := by
  unfold shortL at h
  obtain ⟨a, as, e1, e2, e3⟩ := List.map_eq_cons_iff.mp h
  obtain ⟨l1, l2, e4, e5, e6, e7⟩ := List.filter_eq_cons_iff.mp e1
  have hget : (List.range (cs.length - 2))[l1.length]? = some a := by rw [e4, List.getElem?_append_right (Nat.le_refl _), Nat.sub_self]; rfl
  obtain ⟨hl, ha⟩ := List.getElem?_eq_some_iff.mp hget
  rw [List.getElem_range] at ha
  rw [List.length_range] at hl
  refine ⟨a + 1, by rw [← e2]; omega, ⟨by omega, by omega, of_decide_eq_true e6⟩, fun j hj sh => ?_⟩
  have hj1 := sh.1
  have hj2 := sh.2.1
  have hm : j - 1 ∈ l1 := by
    have hg : (List.range (cs.length - 2))[j - 1]? = some (j - 1) := List.getElem?_range (by omega)
    rw [e4, List.getElem?_append_left (by omega)] at hg
    exact List.mem_of_getElem? hg
  have := e5 _ hm
  rw [show j - 1 + 1 = j by omega] at this
  exact this (decide_eq_true sh.2.2)
end KS

set_option linter.all false
set_option maxRecDepth 100000
set_option maxHeartbeats 1000000
/-! Strips and rolls in the heap. -/
namespace KS
open PySem L2 G
/-- strips in a list, the first one first -/
def ST (H : Hp) (p : Addr) (ps : List (Addr × Clip)) : Prop := H p = some (.lst (ps.map fun x => V.ref x.1)) ∧ ∀ x ∈ ps, H x.1 = some (.tup x.2.vs)
theorem ST.same {H H' : Hp} {p : Addr} {ps : List (Addr × Clip)} (h : ST H p ps) (s : Same H H') : ST H' p ps := ⟨s _ _ h.1, fun x hx => s _ _ (h.2 x hx)⟩
theorem CL.st {m n : Nat} {H : Hp} {p : Addr} {ps : List (Addr × Clip)} (h : CL m n H p ps) : ST H p ps := ⟨h.1, fun x hx => (h.2 x hx).1⟩
theorem SL.st {H : Hp} {p : Addr} {rs : List (Addr × Clip)} (h : SL H p rs) : ST H p rs.reverse := ⟨h.1, fun x hx => h.2 x (List.mem_reverse.mp hx)⟩
/-- the k-th strip -/
theorem ST.get {H : Hp} {p : Addr} {ps : List (Addr × Clip)} (h : ST H p ps) {k : Nat} (hk : k < ps.length) : ∃ a, (ps.map fun x => V.ref x.1)[k]? = some (.ref a) ∧ H a = some (.tup (clA (ps.map (·.2)) k).vs) ∧ (ps.map (·.2))[k]? = some (clA (ps.map (·.2)) k) := by
  have e : ps[k]? = some ps[k] := List.getElem?_eq_getElem hk
  have e2 : (ps.map (·.2))[k]? = some ps[k].2 := by rw [List.getElem?_map, e]; rfl
  refine ⟨ps[k].1, by rw [List.getElem?_map, e]; rfl, ?_, ?_⟩
  · rw [clA_get e2]
    exact h.2 _ (List.getElem_mem hk)
  · rw [clA_get e2]
    exact e2
abbrev leadS : Str := Str.ofString "leader"
abbrev stripS : Str := Str.ofString "strip"
def Th.vs (t : Th) : List V := [.str (if t.lead then leadS else stripS), .int t.n]
/-- things in a list -/
def TL (H : Hp) (p : Addr) (ps : List (Addr × Th)) : Prop := H p = some (.lst (ps.map fun x => V.ref x.1)) ∧ ∀ x ∈ ps, H x.1 = some (.tup x.2.vs)
theorem TL.same {H H' : Hp} {p : Addr} {ps : List (Addr × Th)} (h : TL H p ps) (s : Same H H') : TL H' p ps := ⟨s _ _ h.1, fun x hx => s _ _ (h.2 x hx)⟩
theorem TL.nil {H : Hp} {p : Addr} (h : H p = some (.lst [])) : TL H p [] := ⟨h, fun x hx => nomatch hx⟩
theorem TL.push {H : Hp} {p pt : Addr} {ps : List (Addr × Th)} {c : Th} (h : TL H p ps) (ht : H pt = some (.tup c.vs)) : TL (upd H p (.lst ((ps.map fun x => V.ref x.1) ++ [.ref pt]))) p (ps ++ [(pt, c)]) := by
  have ne : ∀ a xs, H a = some (.tup xs) → a ≠ p := fun a xs e => ne_of e h.1 (by intro z; cases z)
  refine ⟨by rw [upd_same, List.map_append]; rfl, fun x hx => ?_⟩
  rcases List.mem_append.mp hx with z | z
  · rw [upd_ne (ne _ _ (h.2 x z))]
    exact h.2 x z
  · rw [List.mem_singleton.mp z]
    show upd H p _ pt = _
    rw [upd_ne (ne _ _ ht)]
    exact ht
theorem denCl {K : PySem.W.Frag} {H : Hp} : ∀ xs : List (Addr × Clip), (∀ x ∈ xs, H x.1 = some (.tup x.2.vs)) → DenAll K H (xs.map fun x => V.ref x.1) ((xs.map (·.2)).map Clip.d)
  | [], _ => .nil
  | x :: xs, h => .cons (denClip (h x (List.mem_cons_self ..))) (denCl xs fun y hy => h y (List.mem_cons_of_mem _ hy))
theorem ST.den {K : PySem.W.Frag} {H : Hp} {p : Addr} {xs : List (Addr × Clip)} (h : ST H p xs) : Den K H (.ref p) (.list ((xs.map (·.2)).map Clip.d)) := .lst (SqL.of h.1) (denCl xs h.2)
theorem layCl : ∀ cs : List Clip, (∀ c ∈ cs, PyData.strOk c.reel = true) → PyData.canLayAll0 (cs.map Clip.d) = true
  | [], _ => rfl
  | c :: r, h => by
    have hf : PyData.strOk c.reel = true := h c (List.mem_cons_self ..)
    rw [List.map_cons]
    simp [PyData.canLayAll0, PyData.canLay0, Clip.d, hf, layCl r fun y hy => h y (List.mem_cons_of_mem _ hy)]
theorem depCl : ∀ cs : List Clip, PyData.depthAll (cs.map Clip.d) ≤ 1
  | [] => by simp [PyData.depthAll]
  | c :: r => by
    have := depCl r
    rw [List.map_cons]
    simp [PyData.depthAll, PyData.depth, Clip.d]
    omega
theorem layL {cs : List Clip} (h : ∀ c ∈ cs, PyData.strOk c.reel = true) : (PyData.list (cs.map Clip.d)).canLay0 = true := by simp [PyData.canLay0, layCl cs h]
theorem depL (cs : List Clip) : (PyData.list (cs.map Clip.d)).depth ≤ 60 := by
  have := depCl cs
  simp [PyData.depth]
  omega
theorem eqv_nilB {α : Type} (f : α → PyData) (l : List α) : PyData.eqv (.list (l.map f)) (.list []) = l.isEmpty := by
  cases l <;> simp [PyData.eqv, PyData.eqvAll]
theorem layInts : ∀ ns : List Int, PyData.canLayAll0 (ns.map PyData.int) = true
  | [] => rfl
  | b :: r => by simp [PyData.canLayAll0, PyData.canLay0, layInts r]
theorem depInts : ∀ ns : List Int, PyData.depthAll (ns.map PyData.int) = 0
  | [] => by simp [PyData.depthAll]
  | b :: r => by simp [PyData.depthAll, PyData.depth, depInts r]
theorem layIs (ns : List Int) : (PyData.list (ns.map PyData.int)).canLay0 = true := by simp [PyData.canLay0, layInts ns]
theorem depIs (ns : List Int) : (PyData.list (ns.map PyData.int)).depth ≤ 60 := by simp [PyData.depth, depInts ns]
end KS

set_option linter.all false
set_option maxRecDepth 100000
set_option maxHeartbeats 1000000
/-! What a roll shows. -/
namespace KS
open PySem L2 G
abbrev Mv := Option (Str × Int)
def showT (cs : List Clip) (t : Th) : List Mv := if t.lead = true then List.replicate t.n.toNat none else (clA cs t.n.toNat).nums.map fun x => some ((clA cs t.n.toNat).reel, x)
def showsA (cs : List Clip) (ts : List Th) : List Mv := ts.flatMap (showT cs)
theorem showsA_app (cs : List Clip) (a b : List Th) : showsA cs (a ++ b) = showsA cs a ++ showsA cs b := by unfold showsA; rw [List.flatMap_append]
theorem showsA_one (cs : List Clip) (t : Th) : showsA cs [t] = showT cs t := by unfold showsA; rw [List.flatMap_cons]; exact List.append_nil _
theorem showT_len (cs : List Clip) (t : Th) : (showT cs t).length = if t.lead = true then t.n.toNat else (clA cs t.n.toNat).cnt := by
  unfold showT
  split
  · rw [List.length_replicate]
  · rw [List.length_map, Clip.nums_len]
theorem shows_take {cs : List Clip} {ts : List Th} {i : Nat} {t : Th} (h : ts[i]? = some t) : showsA cs (ts.take (i + 1)) = showsA cs (ts.take i) ++ showT cs t := by
  rw [List.take_add_one, h, showsA_app]
  congr 1
  exact showsA_one cs t
theorem shows_le (cs : List Clip) (ts : List Th) (i : Nat) : (showsA cs (ts.take i)).length ≤ (showsA cs ts).length := by
  conv => rhs; rw [← List.take_append_drop i ts]
  rw [showsA_app, List.length_append]
  omega
/-- the moments of a roll that is laid right -/
theorem run_len {S : List Clip} : ∀ (ts : List Th) (st e : Rs), (∀ t ∈ ts, 0 ≤ t.n) → runT S ts st = some e → e.at_ = st.at_ + ((showsA S ts).length : Int)
  | [], st, e, _, h => by
    cases h
    show st.at_ = st.at_ + ((([] : List Mv).length : Nat) : Int)
    simp
  | t :: r, st, e, hn, h => by
    have h : (stpT S st t).bind (runT S r) = some e := h
    cases z : stpT S st t with
    | none => rw [z] at h; cases h
    | some m =>
      rw [z] at h
      have ih := run_len r m e (fun x hx => hn x (List.mem_cons_of_mem _ hx)) h
      have t0 := hn t (List.mem_cons_self ..)
      have hm : m.at_ = st.at_ + ((showT S t).length : Int) := by
        rw [showT_len]
        unfold stpT at z
        split at z
        · rename_i hl
          rw [if_pos hl]
          split at z
          · cases z
          · cases z
            show st.at_ + t.n = _
            omega
        · rename_i hl
          rw [if_neg hl]
          split at z
          · cases z
            rfl
          · cases z
      have e1 : showsA S (t :: r) = showT S t ++ showsA S r := by unfold showsA; rw [List.flatMap_cons]
      rw [e1, List.length_append, ih, hm]
      omega
/-- its strips are there -/
theorem run_in {S : List Clip} : ∀ (ts : List Th) (st e : Rs), runT S ts st = some e → ∀ t ∈ ts, t.lead = true ∨ (0 ≤ t.n ∧ t.n < S.length)
  | [], st, e, h => fun t ht => nomatch ht
  | x :: r, st, e, h => fun t ht => by
    have h : (stpT S st x).bind (runT S r) = some e := h
    cases z : stpT S st x with
    | none => rw [z] at h; cases h
    | some m =>
      rw [z] at h
      rcases List.mem_cons.mp ht with rfl | ht
      · unfold stpT at z
        split at z
        · exact .inl (by assumption)
        · split at z
          · rename_i hc
            exact .inr ⟨hc.1, hc.2.1⟩
          · cases z
      · exact run_in r m e h t ht
theorem endA_le {S : List Clip} (h : ∀ s ∈ S, 0 ≤ s.f) : ∀ k, k ≤ S.length → endA S k ≤ (((S.take k).map Clip.cnt).sum : Nat)
  | 0, _ => by simp [endA]
  | k + 1, hk => by
    have ih := endA_le h k (by omega)
    have hg : S[k]? = some S[k] := List.getElem?_eq_getElem (by omega)
    have hc := clA_get hg
    have f0 := h _ (List.getElem_mem (show k < S.length by omega))
    rw [List.take_add_one, hg, List.map_append, List.sum_append]
    show endA S k - (clA S k).f + (clA S k).cnt ≤ _
    rw [hc]
    show _ ≤ ((((S.take k).map Clip.cnt).sum + (S[k].cnt + 0) : Nat) : Int)
    omega
/-! ### in the heap -/
def MV (H : Hp) (v : V) : Mv → Prop
  | none => v = .non
  | some m => ∃ r, v = .ref r ∧ H r = some (.tup [.str m.1, .int m.2])
theorem MV.same {H H' : Hp} {v : V} {m : Mv} (h : MV H v m) (s : Same H H') : MV H' v m := by
  cases m with
  | none => exact h
  | some m =>
    obtain ⟨r, e, h⟩ := h
    exact ⟨r, e, s _ _ h⟩
inductive MVs (H : Hp) : List V → List Mv → Prop
  | nil : MVs H [] []
  | cons {v : V} {m : Mv} {vs : List V} {ms : List Mv} : MV H v m → MVs H vs ms → MVs H (v :: vs) (m :: ms)
theorem MVs.same {H H' : Hp} (s : Same H H') : ∀ {vs : List V} {ms : List Mv}, MVs H vs ms → MVs H' vs ms
  | _, _, .nil => .nil
  | _, _, .cons a b => .cons (a.same s) (b.same s)
theorem MVs.bt {H H' : Hp} {p : Addr} {xs : List V} (s : Bt p H H') (hp : H p = some (.lst xs)) : ∀ {vs : List V} {ms : List Mv}, MVs H vs ms → MVs H' vs ms
  | _, _, .nil => .nil
  | _, _, .cons (m := m) a b => .cons (by
      cases m with
      | none => exact a
      | some m =>
        obtain ⟨r, e, h⟩ := a
        exact ⟨r, e, s _ _ (ne_of h hp (by intro z; cases z)) h⟩) (b.bt s hp)
theorem MVs.app {H : Hp} : ∀ {vs vs' : List V} {ms ms' : List Mv}, MVs H vs ms → MVs H vs' ms' → MVs H (vs ++ vs') (ms ++ ms')
  | _, _, _, _, .nil, b => b
  | _, _, _, _, .cons a r, b => .cons a (r.app b)
theorem MVs.len {H : Hp} : ∀ {vs : List V} {ms : List Mv}, MVs H vs ms → vs.length = ms.length
  | _, _, .nil => rfl
  | _, _, .cons _ b => by rw [List.length_cons, List.length_cons, b.len]
theorem MVs.get {H : Hp} : ∀ {vs : List V} {ms : List Mv} {i : Nat} {v : V}, MVs H vs ms → vs[i]? = some v → ∃ m, ms[i]? = some m ∧ MV H v m
  | _, _, 0, _, .cons a _, h => by cases h; exact ⟨_, rfl, a⟩
  | _, _, i + 1, _, .cons _ b, h => by
    obtain ⟨m, h1, h2⟩ := b.get (i := i) (by simpa using h)
    exact ⟨m, by simpa using h1, h2⟩
theorem MVs.nones {H : Hp} : ∀ n : Nat, MVs H (List.replicate n .non) (List.replicate n none)
  | 0 => .nil
  | n + 1 => .cons rfl (MVs.nones n)
theorem MVs.refs {H : Hp} {f : Nat → Str × Int} : ∀ (rs : List Addr) (k : Nat), (∀ (i : Nat) r, rs[i]? = some r → H r = some (.tup [.str (f (k + i)).1, .int (f (k + i)).2])) → MVs H (rs.map V.ref) ((List.range' k rs.length).map fun i => some (f i))
  | [], k, _ => .nil
  | r :: rs, k, h => .cons ⟨r, rfl, h 0 r rfl⟩ (MVs.refs rs (k + 1) fun i r' hr => by
      have := h (i + 1) r' (by simpa using hr)
      rw [show k + 1 + i = k + (i + 1) by omega]
      exact this)
def ML (H : Hp) (p : Addr) (ms : List Mv) : Prop := ∃ vs, H p = some (.lst vs) ∧ MVs H vs ms
theorem ML.same {H H' : Hp} {p : Addr} {ms : List Mv} (h : ML H p ms) (s : Same H H') : ML H' p ms := by
  obtain ⟨vs, h1, h2⟩ := h
  exact ⟨vs, s _ _ h1, h2.same s⟩
def Mv.d : Mv → PyData
  | none => .none
  | some m => .tuple [.str m.1, .int m.2]
theorem MV.den {K : PySem.W.Frag} {H : Hp} {v : V} {m : Mv} (h : MV H v m) : Den K H v m.d := by
  cases m with
  | none => cases h; exact .non
  | some m =>
    obtain ⟨r, rfl, h⟩ := h
    exact .tup (SqT.of h) (.cons (.str _) (.cons (.int _) .nil))
def MvOk (m : Mv) : Prop := ∀ x, m = some x → PyData.strOk x.1 = true
theorem MvOk.lay {m : Mv} (h : MvOk m) : m.d.canLay0 = true := by
  cases m with
  | none => simp [Mv.d, PyData.canLay0]
  | some m =>
    have := h m rfl
    simp [Mv.d, PyData.canLay0, PyData.canLayAll0, this]
theorem Mv.dep (m : Mv) : m.d.depth ≤ 1 := by
  cases m <;> simp [Mv.d, PyData.depth, PyData.depthAll]
theorem shows_ok {cs : List Clip} {ts : List Th} (h : ∀ c ∈ cs, PyData.strOk c.reel = true) : ∀ m ∈ showsA cs ts, MvOk m := by
  intro m hm x hx
  obtain ⟨t, _, hm⟩ := List.mem_flatMap.mp hm
  unfold showT at hm
  split at hm
  · rw [(List.mem_replicate.mp hm).2] at hx
    cases hx
  · obtain ⟨n, _, rfl⟩ := List.mem_map.mp hm
    cases hx
    show PyData.strOk (clA cs t.n.toNat).reel = true
    by_cases hk : t.n.toNat < cs.length
    · have hg := List.getElem?_eq_getElem hk
      rw [clA_get hg]
      exact h _ (List.getElem_mem hk)
    · have : clA cs t.n.toNat = noC := by
        unfold clA
        rw [List.getD_eq_getElem?_getD, List.getElem?_eq_none (by omega)]
        rfl
      rw [this]
      decide +kernel
end KS

set_option linter.all false
set_option maxRecDepth 100000
set_option maxHeartbeats 1000000
/-! Any cutting: where it can be laid, what is between. -/
namespace KS
open PySem
/-- a fade has room on both sides -/
theorem fade_room : ∀ (n : Nat) (cs : List Clip), cs.length = n → Cd cs → ∀ (p : Nat) (m : Mo), (moments cs)[p]? = some m → 0 ≤ m.f ∧ (0 < m.f → m.f ≤ p ∧ (p : Int) + m.f ≤ (moments cs).length)
  | 0, cs, hl, h => fun p m hm => by
    cases cs with
    | nil => cases hm
    | cons x r => cases hl
  | n + 1, cs, hl, h => fun p m hm => by
    obtain ⟨L, c, rfl⟩ : ∃ L c, cs = L ++ [c] := by
      have hne : cs ≠ [] := by intro z; rw [z] at hl; cases hl
      exact ⟨cs.dropLast, cs.getLast hne, (List.dropLast_concat_getLast hne).symm⟩
    have hL : L.length = n := by rw [List.length_append, List.length_singleton] at hl; omega
    have ih := fade_room n L hL h.left
    obtain ⟨c0, c1⟩ := h.all c (by simp)
    rw [moments_app, moments_one] at hm ⊢
    rw [List.length_append, ms_len]
    by_cases hp : p < (moments L).length
    · rw [List.getElem?_append_left hp] at hm
      obtain ⟨h0, h1⟩ := ih p m hm
      refine ⟨h0, fun hf => ?_⟩
      obtain ⟨h2, h3⟩ := h1 hf
      exact ⟨h2, by omega⟩
    · rw [List.getElem?_append_right (by omega)] at hm
      have hlt : p - (moments L).length < c.cnt := by
        have := (List.getElem?_eq_some_iff.mp hm).1
        rw [ms_len] at this
        exact this
      have hg := ms_get (nums_get (c := c) hlt)
      rw [hm] at hg
      cases hg
      by_cases hz : p - (moments L).length = 0
      · rw [if_pos hz]
        show 0 ≤ c.f * 1 ∧ (0 < c.f * 1 → c.f * 1 ≤ (p : Int) ∧ (p : Int) + c.f * 1 ≤ (((moments L).length + c.cnt : Nat) : Int))
        rw [Int.mul_one]
        refine ⟨c0, fun hf => ⟨?_, by omega⟩⟩
        have hne : L ≠ [] := by
          intro y
          subst y
          have := h.fst c rfl
          omega
        have hL2 : L = L.dropLast ++ [L.getLast hne] := (List.dropLast_concat_getLast hne).symm
        have hla : c.f ≤ (L.getLast hne).cnt := by
          rw [hL2] at h
          exact h.last
        have ge : (L.getLast hne).cnt ≤ (moments L).length := by
          conv => rhs; rw [hL2]
          rw [moments_app, moments_one, List.length_append, ms_len]
          omega
        omega
      · rw [if_neg hz]
        show 0 ≤ c.f * 0 ∧ (0 < c.f * 0 → _)
        rw [Int.mul_zero]
        exact ⟨Int.le_refl 0, fun hf => absurd hf (by decide)⟩
/-- a cutting that can be laid but for those that are too short -/
structure Sw (S : List Clip) : Prop where
  pos : ∀ s ∈ S, 0 ≤ s.f
  fst : ∀ s, S[0]? = some s → s.f = 0
  snd : ∀ (s t : Clip), S[0]? = some s → S[1]? = some t → t.f ≤ s.cnt
  lst : ∀ L (s : Clip), S = L ++ [s] → s.f ≤ s.cnt
theorem ms_fst (s : Clip) : s.ms[0]? = some ⟨s.reel, s.a, s.f⟩ := by rw [ms_head]; rfl
/-- the moment at which a strip begins -/
theorem moments_at (L : List Clip) (s : Clip) (R : List Clip) : (moments (L ++ s :: R))[(moments L).length]? = some ⟨s.reel, s.a, s.f⟩ := by
  rw [moments_app, List.getElem?_append_right (Nat.le_refl _), Nat.sub_self, moments_cons, List.getElem?_append_left (by rw [ms_len]; have := cnt_pos s; omega)]
  exact ms_fst s
theorem sw_of {cs S : List Clip} (h : Cd cs) (e : moments S = moments cs) : Sw S := by
  have room := fade_room cs.length cs rfl h
  rw [← e] at room
  refine ⟨fun s hs => ?_, fun s hs => ?_, fun s t hs ht => ?_, fun L s hs => ?_⟩
  · obtain ⟨L, R, rfl⟩ := List.append_of_mem hs
    exact (room _ _ (moments_at L s R)).1
  · cases S with
    | nil => cases hs
    | cons x R =>
      cases hs
      have := moments_at [] s R
      obtain ⟨h0, h1⟩ := room 0 _ this
      by_cases hf : 0 < s.f
      · have := (h1 hf).1
        have z : s.f ≤ ((0 : Nat) : Int) := this
        omega
      · have z : 0 ≤ s.f := h0
        omega
  · match S, hs, ht with
    | x :: y :: R, hs, ht =>
      cases hs
      cases ht
      have hm := moments_at [s] t R
      rw [moments_one, ms_len] at hm
      obtain ⟨h0, h1⟩ := room _ _ hm
      by_cases hf : 0 < t.f
      · exact (h1 hf).1
      · omega
  · subst hs
    have hm := moments_at L s []
    obtain ⟨h0, h1⟩ := room _ _ hm
    by_cases hf : 0 < s.f
    · have := (h1 hf).2
      rw [moments_app, moments_one, List.length_append, ms_len] at this
      have z : (((moments L).length : Nat) : Int) + s.f ≤ (((moments L).length + s.cnt : Nat) : Int) := this
      omega
    · omega
theorem bg_geW {S : List Clip} {ld : Int} (sn : Sw S) (hl : 0 ≤ ld) (ns : ∀ k, ¬ Short S ld k) (fi i : Nat) (hf : fi ≤ 1) (h : fi + 2 * i < S.length) : rEnd S fi i ≤ bgA S (fi + 2 * i) := by
  have get : ∀ k, k < S.length → S[k]? = some (clA S k) := fun k hk => by
    have := List.getElem?_eq_getElem hk
    rw [this, clA_get this]
  cases i with
  | zero =>
    show (0 : Int) ≤ _
    have f0 := sn.fst _ (get 0 (by omega))
    by_cases z : fi = 0
    · subst z
      show (0 : Int) ≤ 0 - (clA S 0).f
      omega
    · have : fi = 1 := by omega
      subst this
      have := sn.snd _ _ (get 0 (by omega)) (get 1 (by omega))
      show (0 : Int) ≤ 0 - (clA S 0).f + (clA S 0).cnt - (clA S 1).f
      omega
  | succ i =>
    have hk : ¬ gapA S (fi + 2 * i + 1) < ld := fun y => ns (fi + 2 * i + 1) ⟨by omega, by omega, y⟩
    unfold gapA at hk
    show endA S (fi + 2 * i + 1) ≤ endA S (fi + 2 * (i + 1)) - _
    rw [show fi + 2 * (i + 1) = fi + 2 * i + 1 + 1 by omega]
    show _ ≤ endA S (fi + 2 * i + 1) - (clA S (fi + 2 * i + 1)).f + (clA S (fi + 2 * i + 1)).cnt - _
    omega
theorem run_rollW {S : List Clip} {ld : Int} (sn : Sw S) (hl : 0 ≤ ld) (ns : ∀ k, ¬ Short S ld k) (fi : Nat) (hf : fi ≤ 1) : ∀ i, i ≤ manyA S fi → runT S (rollA S fi i) ⟨0, [], false⟩ = some ⟨rEnd S fi i, numsA fi i, false⟩
  | 0, _ => rfl
  | i + 1, h => by
    have hk : fi + 2 * i < S.length := by unfold manyA at h; omega
    have ih := run_rollW sn hl ns fi hf i (by omega)
    obtain ⟨d, hd⟩ := runT_ld (S := S) (ns := numsA fi i) (bg_geW sn hl ns fi i hf hk)
    show runT S (rollA S fi i ++ ldP _ ++ [_]) _ = _
    rw [runT_app, runT_app, ih]
    show Option.bind (runT S (ldP _) _) _ = _
    rw [hd]
    show (stpT S _ _).bind (runT S []) = _
    rw [stpT_strip hk]
    show some _ = some _
    unfold numsA
    rw [List.range_succ, List.map_append]
    show some (⟨_, _ ++ [((fi + 2 * i : Nat) : Int)], false⟩ : Rs) = some ⟨_, _ ++ [(fi : Int) + (i : Int) * 2], false⟩
    rw [show ((fi + 2 * i : Nat) : Int) = (fi : Int) + (i : Int) * 2 by omega]
    rfl
theorem end_geW {S : List Clip} (sn : Sw S) (fi : Nat) (hf : fi ≤ 1) : rEnd S fi (manyA S fi) ≤ endA S S.length := by
  have get : ∀ k, k < S.length → S[k]? = some (clA S k) := fun k hk => by
    have := List.getElem?_eq_getElem hk
    rw [this, clA_get this]
  have up : ∀ k, k + 1 = S.length → endA S k ≤ endA S (k + 1) := fun k hk => by
    have eq : S = S.take k ++ [S[k]'(by omega)] := by
      have := List.take_append_drop k S
      rw [List.drop_eq_getElem_cons (by omega), List.drop_eq_nil_of_le (by omega)] at this
      exact this.symm
    have := sn.lst _ _ eq
    have hc : clA S k = S[k]'(by omega) := clA_get (List.getElem?_eq_getElem (by omega))
    show _ ≤ endA S k - (clA S k).f + (clA S k).cnt
    rw [hc]
    omega
  cases e : manyA S fi with
  | zero =>
    show (0 : Int) ≤ _
    unfold manyA at e
    have : S.length = 0 ∨ S.length = 1 := by omega
    rcases this with z | z
    · rw [z]
      exact Int.le_refl 0
    · rw [z]
      exact up 0 (by omega)
  | succ i =>
    unfold manyA at e
    show endA S (fi + 2 * i + 1) ≤ _
    have : S.length = fi + 2 * i + 1 ∨ S.length = fi + 2 * i + 1 + 1 := by omega
    rcases this with z | z
    · rw [z]
      exact Int.le_refl _
    · rw [z]
      exact up _ (by omega)
theorem run_fullW {S : List Clip} {ld : Int} (sn : Sw S) (hl : 0 ≤ ld) (ns : ∀ k, ¬ Short S ld k) (fi : Nat) (hf : fi ≤ 1) : ∃ d, runT S (fullA S fi) ⟨0, [], false⟩ = some ⟨endA S S.length, numsA fi (manyA S fi), d⟩ := by
  obtain ⟨d, hd⟩ := runT_ld (S := S) (ns := numsA fi (manyA S fi)) (end_geW sn fi hf)
  refine ⟨d, ?_⟩
  unfold fullA
  rw [runT_app, run_rollW sn hl ns fi hf _ (Nat.le_refl _)]
  exact hd
theorem full_showsW {S : List Clip} {ld : Int} (sn : Sw S) (hl : 0 ≤ ld) (ns : ∀ k, ¬ Short S ld k) (fi : Nat) (hf : fi ≤ 1) :
    ((showsA S (fullA S fi)).length : Int) = endA S S.length ∧ ∀ t ∈ fullA S fi, 0 ≤ t.n ∧ (t.lead = true ∨ t.n < S.length) := by
  obtain ⟨d, hd⟩ := run_fullW sn hl ns fi hf
  have h0 : ∀ t ∈ fullA S fi, 0 ≤ t.n := fun t ht => by
    have := fullA_mem ht
    split at this <;> omega
  have h1 := run_len _ _ _ h0 hd
  have h2 := run_in _ _ _ hd
  refine ⟨?_, fun t ht => ⟨h0 t ht, ?_⟩⟩
  · have h1 : endA S S.length = 0 + _ := h1
    omega
  · rcases h2 t ht with z | z
    · exact .inl z
    · exact .inr z.2
/-! ### the stretches of leader between the strips of a roll -/
structure Ss where
  at_ : Int
  bl : Option Int
  fo : List Int
def stpS (S : List Clip) (st : Ss) (t : Th) : Ss :=
  if t.lead = true then ⟨st.at_ + t.n, st.bl, st.fo⟩
  else ⟨st.at_ + (clA S t.n.toNat).cnt, some (st.at_ + (clA S t.n.toNat).cnt), match st.bl with
    | none => st.fo
    | some b => st.fo ++ [st.at_ - b]⟩
def runS (S : List Clip) (ts : List Th) : Ss := ts.foldl (stpS S) ⟨0, none, []⟩
def strG (S : List Clip) (fi i : Nat) : List Int := (List.range (i - 1)).map fun j => gapA S (fi + 2 * j + 1)
/-! ### another cutting -/
def stepO : List Clip → Mo → Bool → List Clip
  | [], m, _ => [⟨m.reel, m.n, m.n, m.f⟩]
  | s :: r, m, b => if m.f ≤ 0 ∧ can s m ∧ b = true then ⟨s.reel, s.a, m.n, s.f⟩ :: r else ⟨m.reel, m.n, m.n, m.f⟩ :: s :: r
end KS

set_option linter.all false
set_option maxRecDepth 100000
set_option maxHeartbeats 1000000
/-! At each moment both rolls show what the film shows. -/
namespace KS
open PySem
abbrev Fr := Str × Int
def times : Int → List Mo → List (Int × Fr)
  | _, [] => []
  | e, m :: r => (e - m.f, m.reel, m.n) :: times (e - m.f + 1) r
def tend : Int → List Mo → Int
  | e, [] => e
  | e, m :: r => tend (e - m.f + 1) r
theorem times_app : ∀ (a b : List Mo) (e : Int), times e (a ++ b) = times e a ++ times (tend e a) b
  | [], b, e => rfl
  | m :: a, b, e => by
    show _ :: times _ (a ++ b) = _ :: (times _ a ++ _)
    rw [times_app a b]
    rfl
theorem tend_app : ∀ (a b : List Mo) (e : Int), tend e (a ++ b) = tend (tend e a) b
  | [], b, e => rfl
  | m :: a, b, e => tend_app a b _
theorem times_zero (r : Str) (g : Nat → Int) : ∀ (n s : Nat) (e : Int), times e ((List.range' s n).map fun (k : Nat) => (⟨r, g k, 0⟩ : Mo)) = (List.range' s n).map (fun (k : Nat) => (e + ((k : Int) - (s : Int)), r, g k)) ∧ tend e ((List.range' s n).map fun k => (⟨r, g k, 0⟩ : Mo)) = e + n
  | 0, s, e => ⟨rfl, by show e = e + ((0 : Nat) : Int); omega⟩
  | n + 1, s, e => by
    obtain ⟨h1, h2⟩ := times_zero r g n (s + 1) (e - 0 + 1)
    rw [List.range'_succ, List.map_cons, List.map_cons]
    refine ⟨?_, ?_⟩
    · show (e - 0, r, g s) :: times (e - 0 + 1) _ = _
      rw [h1]
      congr 1
      · rw [show e - 0 = e + ((s : Int) - (s : Int)) by omega]
      · apply List.map_congr_left
        intro k _
        rw [show e - 0 + 1 + ((k : Int) - ((s + 1 : Nat) : Int)) = e + ((k : Int) - (s : Int)) by omega]
    · show tend (e - 0 + 1) _ = _
      rw [h2]
      omega
theorem ms_range (c : Clip) : c.ms = ⟨c.reel, c.a, c.f⟩ :: (List.range' 1 (c.cnt - 1)).map fun (k : Nat) => (⟨c.reel, c.a + (k : Int) * c.way, 0⟩ : Mo) := by
  rw [ms_head]
  congr 1
  unfold Clip.nums
  have e : c.cnt = c.cnt - 1 + 1 := by have := cnt_pos c; omega
  rw [e, List.range_eq_range', List.range'_succ, List.map_cons, List.drop_one, List.tail_cons, List.map_map]
  show _ = List.map _ (List.range' 1 (c.cnt - 1 + 1 - 1))
  rw [Nat.add_sub_cancel]
  rfl
theorem times_ms (c : Clip) (e : Int) : times e c.ms = (List.range c.cnt).map (fun (k : Nat) => (e - c.f + (k : Int), c.reel, c.a + (k : Int) * c.way)) ∧ tend e c.ms = e - c.f + c.cnt := by
  rw [ms_range]
  obtain ⟨h1, h2⟩ := times_zero c.reel (fun k => c.a + (k : Int) * c.way) (c.cnt - 1) 1 (e - c.f + 1)
  have ec : c.cnt = c.cnt - 1 + 1 := by have := cnt_pos c; omega
  refine ⟨?_, ?_⟩
  · show (e - c.f, c.reel, c.a) :: times (e - c.f + 1) _ = _
    rw [h1, ec, List.range_eq_range', List.range'_succ, List.map_cons]
    show _ = _ :: List.map _ (List.range' 1 (c.cnt - 1))
    congr 1
    · show (e - c.f, c.reel, c.a) = (e - c.f + ((0 : Nat) : Int), c.reel, c.a + ((0 : Nat) : Int) * c.way)
      simp
    · rw [Nat.add_sub_cancel]
      apply List.map_congr_left
      intro k _
      rw [show e - c.f + 1 + ((k : Int) - ((1 : Nat) : Int)) = e - c.f + (k : Int) by omega]
  · show tend (e - c.f + 1) _ = _
    rw [h2]
    omega
def Cv (M : List Mo) (t : Int) : List Fr := ((times 0 M).filter fun x => decide (x.1 = t)).map (·.2)
theorem flt_range {α : Type} (b t : Int) (g : Nat → α) : ∀ n : Nat, (((List.range n).map fun (k : Nat) => (b + (k : Int), g k)).filter fun x => decide (x.1 = t)).map (·.2) = if b ≤ t ∧ t < b + n then [g (t - b).toNat] else []
  | 0 => by rw [if_neg (by omega)]; rfl
  | n + 1 => by
    rw [List.range_succ, List.map_append, List.filter_append, List.map_append, flt_range b t g n]
    show _ ++ List.map _ (List.filter _ [(b + (n : Int), g n)]) = _
    by_cases h : b + (n : Int) = t
    · rw [if_neg (by omega), if_pos (by omega), List.filter_cons, if_pos (by exact decide_eq_true h)]
      show [] ++ [g n] = _
      rw [show (t - b).toNat = n by omega]
      rfl
    · have hn : ¬ (decide ((b + (n : Int), g n).1 = t)) = true := fun z => h (of_decide_eq_true z)
      have e : List.filter (fun x => decide (x.1 = t)) [(b + (n : Int), g n)] = [] := by rw [List.filter_cons, if_neg hn]; rfl
      rw [e]
      by_cases h2 : b ≤ t ∧ t < b + n
      · rw [if_pos h2, if_pos (by omega)]
        rfl
      · rw [if_neg h2, if_neg (by omega)]
        rfl
/-- what a clip shows at t, when e is the moment behind what stands ahead of it -/
def blk (e : Int) (c : Clip) (t : Int) : List Fr := if e - c.f ≤ t ∧ t < e - c.f + c.cnt then [(c.reel, c.a + (t - (e - c.f)) * c.way)] else []
theorem blk_flt (e : Int) (c : Clip) (t : Int) : ((times e c.ms).filter fun x => decide (x.1 = t)).map (·.2) = blk e c t := by
  rw [(times_ms c e).1]
  have := flt_range (e - c.f) t (fun (k : Nat) => (c.reel, c.a + (k : Int) * c.way)) c.cnt
  rw [this]
  unfold blk
  split
  · rename_i h
    rw [show (((t - (e - c.f)).toNat : Nat) : Int) = t - (e - c.f) by omega]
  · rfl
theorem Cv_app (M : List Mo) (c : Clip) (t : Int) : Cv (M ++ c.ms) t = Cv M t ++ blk (tend 0 M) c t := by
  unfold Cv
  rw [times_app, List.filter_append, List.map_append, blk_flt]
/-! ### the film -/
def frm (f : Frm) : Fr := (f.reel, f.n)
theorem shK_map {S : List (List Frm)} {c : Clip} {B : Nat} (f0 : 0 ≤ c.f) (hB : B + c.f.toNat = S.length) (one : ∀ t, B ≤ t → t < S.length → (S.getD t []).length = 1) :
    ∀ k, k ≤ c.cnt → ∀ t : Nat, ((shK S c B k).getD t []).map frm = (S.getD t []).map frm ++ (if B ≤ t ∧ t < B + k then [(c.reel, c.a + ((t : Int) - (B : Int)) * c.way)] else [])
  | 0, _, t => by
    rw [if_neg (by omega), List.append_nil]
    rfl
  | k + 1, hk, t => by
    have ih := shK_map f0 hB one k (by omega)
    have hl := len_shK S c B f0 k
    show ((putF (shK S c B k) c B k _).getD t []).map frm = _
    unfold putF
    by_cases hf : (k : Int) < c.f
    · rw [if_pos hf]
      by_cases ht : t = B + k
      · subst ht
        have ihk := ih (B + k)
        rw [if_neg (by omega), List.append_nil] at ihk
        have h1 := one (B + k) (by omega) (by omega)
        rw [if_pos (by omega)]
        cases hg : (shK S c B k).getD (B + k) [] with
        | nil =>
          rw [hg] at ihk
          have := congrArg List.length ihk
          rw [List.length_map, List.length_map, h1] at this
          cases this
        | cons g r =>
          rw [hg] at ihk
          have hr : r = [] := by
            have := congrArg List.length ihk
            rw [List.length_map, List.length_map, h1, List.length_cons] at this
            cases r with
            | nil => rfl
            | cons y r => simp at this
          subst hr
          rw [← ihk]
          show (List.getD ((shK S c B k).set (B + k) _) (B + k) []).map frm = _
          rw [List.getD_eq_getElem?_getD, List.getElem?_set_self (by rw [hl]; omega)]
          show [(g.reel, g.n), (c.reel, c.a + (k : Int) * c.way)] = [(g.reel, g.n)] ++ [(c.reel, c.a + (((B + k : Nat) : Int) - (B : Int)) * c.way)]
          rw [show ((B + k : Nat) : Int) - (B : Int) = (k : Int) by omega]
          rfl
      · rw [List.getD_eq_getElem?_getD, List.getElem?_set_ne (fun z => ht z.symm), ← List.getD_eq_getElem?_getD, ih t]
        by_cases h2 : B ≤ t ∧ t < B + k
        · rw [if_pos h2, if_pos (by omega)]
        · rw [if_neg h2, if_neg (by omega)]
    · rw [if_neg hf]
      by_cases ht : t = B + k
      · subst ht
        have eL : (shK S c B k).length = B + k := by rw [hl]; omega
        have e0 : S.getD (B + k) [] = [] := by rw [List.getD_eq_getElem?_getD, List.getElem?_eq_none (by omega)]; rfl
        rw [if_pos (by omega), e0, List.getD_eq_getElem?_getD, List.getElem?_append_right (by omega), eL, Nat.sub_self]
        show [(c.reel, c.a + (k : Int) * c.way)] = [] ++ [(c.reel, c.a + (((B + k : Nat) : Int) - (B : Int)) * c.way)]
        rw [show ((B + k : Nat) : Int) - (B : Int) = (k : Int) by omega]
        rfl
      · have e1 : (shK S c B k ++ [[(⟨c.reel, c.a + (k : Int) * c.way, 1, 1⟩ : Frm)]]).getD t [] = (shK S c B k).getD t [] := by
          rw [List.getD_eq_getElem?_getD, List.getD_eq_getElem?_getD]
          by_cases h2 : t < (shK S c B k).length
          · rw [List.getElem?_append_left h2]
          · rw [List.getElem?_append_right (by omega), List.getElem?_eq_none (by rw [List.length_singleton]; omega), List.getElem?_eq_none (by omega)]
        rw [e1, ih t]
        by_cases h2 : B ≤ t ∧ t < B + k
        · rw [if_pos h2, if_pos (by omega)]
        · rw [if_neg h2, if_neg (by omega)]
/-- clips whose fades do not meet -/
structure Cd2 (cs : List Clip) : Prop where
  cd : Cd cs
  nxt : ∀ (k : Nat) (c d : Clip), cs[k]? = some c → cs[k + 1]? = some d → d.f ≤ c.cnt - c.f
theorem Cd2.nil : Cd2 [] := ⟨Cd.nil, fun k c d h => by cases h⟩
theorem Cd2.snoc {cs : List Clip} {d : Clip} (h : Cd2 cs) (f0 : 0 ≤ d.f) (f1 : d.f ≤ d.cnt) (hf : cs = [] → d.f = 0) (hn : ∀ L c, cs = L ++ [c] → d.f ≤ c.cnt - c.f) : Cd2 (cs ++ [d]) := by
  refine ⟨h.cd.snoc f0 f1 hf fun L c e => ?_, fun k c e hc he => ?_⟩
  · have h1 := hn L c e
    have h2 := (h.cd.all c (by rw [e]; simp)).1
    omega
  · by_cases z : k + 1 < cs.length
    · rw [List.getElem?_append_left (by omega)] at hc
      rw [List.getElem?_append_left z] at he
      exact h.nxt k c e hc he
    · have hl := (List.getElem?_eq_some_iff.mp he).1
      rw [List.length_append, List.length_singleton] at hl
      rw [List.getElem?_append_right (by omega), show k + 1 - cs.length = 0 by omega] at he
      cases he
      rw [List.getElem?_append_left (by omega)] at hc
      obtain ⟨h1, h2⟩ := List.getElem?_eq_some_iff.mp hc
      have eq : cs = cs.take k ++ [cs[k]'h1] := by
        have := List.take_append_drop k cs
        rw [List.drop_eq_getElem_cons h1, List.drop_eq_nil_of_le (by omega)] at this
        exact this.symm
      rw [← h2]
      exact hn _ _ eq
theorem Cd2.left {cs : List Clip} {d : Clip} (h : Cd2 (cs ++ [d])) : Cd2 cs := by
  refine ⟨h.cd.left, fun k c e hc he => h.nxt k c e ?_ ?_⟩
  · rw [List.getElem?_append_left (List.getElem?_eq_some_iff.mp hc).1]; exact hc
  · rw [List.getElem?_append_left (List.getElem?_eq_some_iff.mp he).1]; exact he
theorem Cd2.last {cs : List Clip} {c d : Clip} (h : Cd2 (cs ++ [c] ++ [d])) : d.f ≤ c.cnt - c.f := by
  refine h.nxt cs.length c d ?_ ?_
  · rw [List.append_assoc, List.getElem?_append_right (Nat.le_refl _), Nat.sub_self]
    rfl
  · rw [List.append_assoc, List.getElem?_append_right (by omega), show cs.length + 1 - cs.length = 1 by omega]
    rfl
structure FilmOk (cs : List Clip) : Prop where
  sd : Sd cs
  len : ((shown cs).length : Int) = tend 0 (moments cs)
  cv : ∀ t : Nat, ((shown cs).getD t []).map frm = Cv (moments cs) t
  one : ∀ L c, cs = L ++ [c] → ∀ t : Nat, ((shown cs).length : Int) - (c.cnt - c.f) ≤ t → t < (shown cs).length → ((shown cs).getD t []).length = 1
  big : ∀ L c, cs = L ++ [c] → c.cnt - c.f ≤ ((shown cs).length : Int)
theorem film_ok : ∀ (n : Nat) (cs : List Clip), cs.length = n → Cd2 cs → (∀ c ∈ cs, PyData.strOk c.reel = true) → FilmOk cs
  | 0, cs, hl, h, hr => by
    cases cs with
    | nil =>
      refine ⟨Sd.nil, rfl, fun t => ?_, fun L c e => ?_, fun L c e => ?_⟩
      · show List.map frm (List.getD [] t []) = []
        rw [List.getD_nil]
        rfl
      · cases L <;> cases e
      · cases L <;> cases e
    | cons x r => cases hl
  | n + 1, cs, hl, h, hr => by
    obtain ⟨L, c, rfl⟩ : ∃ L c, cs = L ++ [c] := by
      have hne : cs ≠ [] := by intro z; rw [z] at hl; cases hl
      exact ⟨cs.dropLast, cs.getLast hne, (List.dropLast_concat_getLast hne).symm⟩
    have hL : L.length = n := by rw [List.length_append, List.length_singleton] at hl; omega
    have ih := film_ok n L hL h.left fun c hc => hr c (List.mem_append_left _ hc)
    obtain ⟨c0, c1⟩ := h.cd.all c (by simp)
    have room : c.f ≤ ((shown L).length : Int) ∧ ∀ t : Nat, (shown L).length - c.f.toNat ≤ t → t < (shown L).length → ((shown L).getD t []).length = 1 := by
      by_cases hne : L = []
      · subst hne
        have := h.cd.fst c rfl
        refine ⟨by omega, fun t h1 h2 => ?_⟩
        have : (shown ([] : List Clip)).length = 0 := rfl
        omega
      · have hL2 : L = L.dropLast ++ [L.getLast hne] := (List.dropLast_concat_getLast hne).symm
        have hla : c.f ≤ (L.getLast hne).cnt - (L.getLast hne).f := by
          rw [hL2] at h
          exact h.last
        have hb := ih.big _ _ hL2
        exact ⟨by omega, fun t h1 h2 => ih.one _ _ hL2 t (by omega) h2⟩
    obtain ⟨r1, r2⟩ := room
    have esh : shown (L ++ [c]) = shK (shown L) c ((shown L).length - c.f.toNat) c.cnt := shown_app L c
    have elen : ((shown (L ++ [c])).length : Int) = ((shown L).length : Int) + ((c.cnt : Int) - c.f) := len_app c0 c1
    have hm := shK_map (S := shown L) (c := c) (B := (shown L).length - c.f.toNat) c0 (by omega) r2 c.cnt (Nat.le_refl _)
    have em : moments (L ++ [c]) = moments L ++ c.ms := by rw [moments_app, moments_one]
    refine ⟨ih.sd.push c0 c1 r1 (hr c (by simp)), ?_, fun t => ?_, fun L' d e t h1 h2 => ?_, fun L' d e => ?_⟩
    · rw [elen, em, tend_app, (times_ms c _).2, ih.len]
      omega
    · rw [esh, hm t, ih.cv t, em, Cv_app]
      congr 1
      unfold blk
      rw [← ih.len]
      by_cases hc : (shown L).length - c.f.toNat ≤ t ∧ t < (shown L).length - c.f.toNat + c.cnt
      · rw [if_pos hc, if_pos (by omega)]
        rw [show ((t : Int) - (((shown L).length - c.f.toNat : Nat) : Int)) = (t : Int) - (((shown L).length : Int) - c.f) by omega]
      · rw [if_neg hc, if_neg (by omega)]
    · have := (List.append_inj' e rfl).2
      cases this
      have hmt := hm t
      rw [← esh] at hmt
      have h3 := congrArg List.length hmt
      rw [List.length_map, List.length_append, List.length_map] at h3
      have e0 : (shown L).getD t [] = [] := by rw [List.getD_eq_getElem?_getD, List.getElem?_eq_none (by omega)]; rfl
      rw [e0, if_pos (by omega)] at h3
      exact h3
    · have := (List.append_inj' e rfl).2
      cases this
      rw [elen]
      omega
/-! ### the strips -/
def covers (S : List Clip) (t : Int) (k : Nat) : Bool := decide (bgA S k ≤ t ∧ t < endA S (k + 1))
def xk (S : List Clip) (t : Int) (k : Nat) : Fr := ((clA S k).reel, (clA S k).a + (t - bgA S k) * (clA S k).way)
theorem tend_take (S : List Clip) : ∀ k, k ≤ S.length → tend 0 (moments (S.take k)) = endA S k
  | 0, _ => rfl
  | k + 1, hk => by
    have hg : S[k]? = some S[k] := List.getElem?_eq_getElem (by omega)
    rw [List.take_add_one, hg]
    show tend 0 (moments (S.take k ++ [S[k]])) = _
    rw [moments_app, moments_one, tend_app, (times_ms _ _).2, tend_take S k (by omega)]
    show _ = endA S k - (clA S k).f + (clA S k).cnt
    rw [clA_get hg]
theorem Cv_take (S : List Clip) (t : Int) : ∀ k, k ≤ S.length → Cv (moments (S.take k)) t = ((List.range k).filter (covers S t)).map (xk S t)
  | 0, _ => rfl
  | k + 1, hk => by
    have hg : S[k]? = some S[k] := List.getElem?_eq_getElem (by omega)
    rw [List.take_add_one, hg]
    show Cv (moments (S.take k ++ [S[k]])) t = _
    rw [moments_app, moments_one, Cv_app, Cv_take S t k (by omega), tend_take S k (by omega), List.range_succ, List.filter_append, List.map_append]
    congr 1
    have hb : bgA S k = endA S k - S[k].f := by unfold bgA; rw [clA_get hg]
    have he : endA S (k + 1) = endA S k - S[k].f + S[k].cnt := by
      show endA S k - (clA S k).f + (clA S k).cnt = _
      rw [clA_get hg]
    unfold blk
    by_cases hc : endA S k - S[k].f ≤ t ∧ t < endA S k - S[k].f + S[k].cnt
    · have hcv : covers S t k = true := decide_eq_true (by rw [hb, he]; exact hc)
      rw [if_pos hc, List.filter_cons, if_pos hcv]
      show _ = [xk S t k]
      unfold xk
      rw [clA_get hg, hb]
    · have hcv : ¬ covers S t k = true := fun z => hc (by have := of_decide_eq_true z; rw [hb, he] at this; exact this)
      rw [if_neg hc, List.filter_cons, if_neg hcv]
      rfl
theorem Cv_strips (S : List Clip) (t : Int) : Cv (moments S) t = ((List.range S.length).filter (covers S t)).map (xk S t) := by
  have := Cv_take S t S.length (Nat.le_refl _)
  rw [List.take_length] at this
  exact this
/-- strips that can be laid -/
structure Ly (S : List Clip) : Prop where
  up : ∀ k, k + 1 < S.length → bgA S k ≤ bgA S (k + 1)
  two : ∀ k, k + 2 < S.length → endA S (k + 1) ≤ bgA S (k + 2)
theorem ly_of {S : List Clip} (sn : Sw S) (ns : ∀ k, ¬ Short S 0 k) : Ly S := by
  have get : ∀ k, k < S.length → S[k]? = some (clA S k) := fun k hk => by
    have := List.getElem?_eq_getElem hk
    rw [this, clA_get this]
  have gap : ∀ k, 1 ≤ k → k + 1 < S.length → 0 ≤ gapA S k := fun k h1 h2 => by
    by_cases z : gapA S k < 0
    · exact absurd ⟨h1, h2, z⟩ (ns k)
    · omega
  refine ⟨fun k hk => ?_, fun k hk => ?_⟩
  · show _ ≤ endA S k - (clA S k).f + (clA S k).cnt - (clA S (k + 1)).f
    show endA S k - (clA S k).f ≤ _
    cases k with
    | zero =>
      have := sn.snd _ _ (get 0 (by omega)) (get 1 (by omega))
      show endA S 0 - (clA S 0).f ≤ endA S 0 - (clA S 0).f + (clA S 0).cnt - (clA S 1).f
      omega
    | succ k =>
      have h1 := gap (k + 1) (by omega) hk
      have h2 := sn.pos _ (List.mem_of_getElem? (get (k + 1) (by omega)))
      unfold gapA at h1
      omega
  · have h1 := gap (k + 1) (by omega) hk
    unfold gapA at h1
    show _ ≤ endA S (k + 1) - (clA S (k + 1)).f + (clA S (k + 1)).cnt - (clA S (k + 1 + 1)).f
    omega
theorem Ly.mono {S : List Clip} (h : Ly S) {i : Nat} : ∀ (d : Nat), i + d < S.length → bgA S i ≤ bgA S (i + d)
  | 0, _ => Int.le_refl _
  | d + 1, hd => Int.le_trans (h.mono d (by omega)) (h.up (i + d) (by omega))
theorem Ly.apart {S : List Clip} (h : Ly S) {t : Int} {i j : Nat} (hij : i < j) (hj : j < S.length) (ci : covers S t i = true) (cj : covers S t j = true) : j = i + 1 := by
  have a := of_decide_eq_true ci
  have b := of_decide_eq_true cj
  by_cases z : j = i + 1
  · exact z
  · have h1 := h.two i (by omega)
    have h2 := h.mono (i := i + 2) (j - (i + 2)) (by omega)
    rw [show i + 2 + (j - (i + 2)) = j by omega] at h2
    omega
/-- at most two, one behind the other -/
theorem Ly.few {S : List Clip} (h : Ly S) (t : Int) : (List.range S.length).filter (covers S t) = [] ∨ (∃ k, (List.range S.length).filter (covers S t) = [k]) ∨ ∃ k, (List.range S.length).filter (covers S t) = [k, k + 1] := by
  have mem : ∀ k ∈ (List.range S.length).filter (covers S t), k < S.length ∧ covers S t k = true := fun k hk => by
    obtain ⟨h1, h2⟩ := List.mem_filter.mp hk
    exact ⟨List.mem_range.mp h1, h2⟩
  have pw : ((List.range S.length).filter (covers S t)).Pairwise (· < ·) := List.Pairwise.filter _ List.pairwise_lt_range
  generalize (List.range S.length).filter (covers S t) = K at *
  match K, mem, pw with
  | [], _, _ => exact .inl rfl
  | [k], _, _ => exact .inr (.inl ⟨k, rfl⟩)
  | [j, k], mem, pw =>
    have hjk : j < k := (List.pairwise_cons.mp pw).1 k (by simp)
    have := h.apart hjk (mem k (by simp)).1 (mem j (by simp)).2 (mem k (by simp)).2
    exact .inr (.inr ⟨j, by rw [this]⟩)
  | i :: j :: k :: r, mem, pw =>
    obtain ⟨p1, p2⟩ := List.pairwise_cons.mp pw
    obtain ⟨p3, p4⟩ := List.pairwise_cons.mp p2
    have e1 := h.apart (p1 j (by simp)) (mem j (by simp)).1 (mem i (by simp)).2 (mem j (by simp)).2
    have e2 := h.apart (p1 k (by simp)) (mem k (by simp)).1 (mem i (by simp)).2 (mem k (by simp)).2
    have := p3 k (by simp)
    omega
/-! ### the rolls -/
theorem shows_roll {S : List Clip} (sn : Sw S) (ns : ∀ k, ¬ Short S 0 k) (fi : Nat) (hf : fi ≤ 1) : ∀ i, i ≤ manyA S fi → ((showsA S (rollA S fi i)).length : Int) = rEnd S fi i ∧
    ∀ t : Nat, t < (showsA S (rollA S fi i)).length → (∀ j, j < i → covers S t (fi + 2 * j) = true → (showsA S (rollA S fi i))[t]? = some (some (xk S t (fi + 2 * j)))) ∧ ((∀ j, j < i → covers S t (fi + 2 * j) = false) → (showsA S (rollA S fi i))[t]? = some none)
  | 0, _ => ⟨rfl, fun t ht => absurd ht (Nat.not_lt_zero _)⟩
  | i + 1, h => by
    have hk : fi + 2 * i < S.length := by unfold manyA at h; omega
    obtain ⟨ih1, ih2⟩ := shows_roll sn ns fi hf i (by omega)
    have hge := bg_geW sn (Int.le_refl 0) ns fi i hf hk
    obtain ⟨d, hd⟩ : ∃ d : Nat, bgA S (fi + 2 * i) - rEnd S fi i = (d : Int) := ⟨(bgA S (fi + 2 * i) - rEnd S fi i).toNat, by omega⟩
    have eld : showsA S (ldP (bgA S (fi + 2 * i) - rEnd S fi i)) = List.replicate d none := by
      rw [hd]
      unfold ldP
      split
      · rw [showsA_one]
        unfold showT
        rw [if_pos rfl]
        show List.replicate ((d : Int)).toNat none = _
        rw [Int.toNat_natCast]
      · have : d = 0 := by omega
        subst this
        rfl
    have est : showsA S [(⟨false, ((fi + 2 * i : Nat) : Int)⟩ : Th)] = (clA S (fi + 2 * i)).nums.map fun x => some ((clA S (fi + 2 * i)).reel, x) := by
      rw [showsA_one]
      unfold showT
      rw [if_neg Bool.false_ne_true, Int.toNat_natCast]
    have esh : showsA S (rollA S fi (i + 1)) = showsA S (rollA S fi i) ++ List.replicate d none ++ ((clA S (fi + 2 * i)).nums.map fun x => some ((clA S (fi + 2 * i)).reel, x)) := by
      show showsA S (rollA S fi i ++ ldP _ ++ [_]) = _
      rw [showsA_app, showsA_app, eld, est]
    have eend : rEnd S fi (i + 1) = bgA S (fi + 2 * i) + (clA S (fi + 2 * i)).cnt := rfl
    have eend2 : endA S (fi + 2 * i + 1) = bgA S (fi + 2 * i) + (clA S (fi + 2 * i)).cnt := rfl
    have old : ∀ j, j < i → endA S (fi + 2 * j + 1) ≤ rEnd S fi i := fun j hj => by
      have ly := ly_of sn ns
      have h1 : ∀ dd, j + 1 + dd = i → endA S (fi + 2 * j + 1) ≤ rEnd S fi i := fun dd hdd => by
        have e : rEnd S fi i = endA S (fi + 2 * (j + dd) + 1) := by
          rw [← hdd, show j + 1 + dd = (j + dd) + 1 by omega]
          rfl
        rw [e]
        cases dd with
        | zero => exact Int.le_refl _
        | succ dd =>
          have h2 := ly.two (fi + 2 * j) (by omega)
          have h3 := ly.mono (i := fi + 2 * j + 2) (2 * dd) (by omega)
          rw [show fi + 2 * (j + (dd + 1)) + 1 = fi + 2 * j + 2 + 2 * dd + 1 by omega]
          have h4 : endA S (fi + 2 * j + 2 + 2 * dd + 1) = bgA S (fi + 2 * j + 2 + 2 * dd) + (clA S (fi + 2 * j + 2 + 2 * dd)).cnt := rfl
          omega
      exact h1 (i - (j + 1)) (by omega)
    refine ⟨?_, fun t ht => ?_⟩
    · rw [esh, List.length_append, List.length_append, List.length_replicate, List.length_map, Clip.nums_len, eend]
      omega
    · rw [esh, List.length_append, List.length_append, List.length_replicate, List.length_map, Clip.nums_len] at ht
      rw [esh]
      by_cases t1 : t < (showsA S (rollA S fi i)).length
      · rw [List.append_assoc, List.getElem?_append_left t1]
        obtain ⟨g1, g2⟩ := ih2 t t1
        have nk : covers S t (fi + 2 * i) = false := decide_eq_false (by omega)
        refine ⟨fun j hj hc => ?_, fun hn => g2 fun j hj => hn j (by omega)⟩
        by_cases z : j = i
        · subst z
          rw [nk] at hc
          cases hc
        · exact g1 j (by omega) hc
      · have no : ∀ j, j < i → covers S t (fi + 2 * j) = false := fun j hj => decide_eq_false (by have := old j hj; omega)
        by_cases t2 : t < (showsA S (rollA S fi i)).length + d
        · have nk : covers S t (fi + 2 * i) = false := decide_eq_false (by omega)
          have e : (showsA S (rollA S fi i) ++ List.replicate d none ++ ((clA S (fi + 2 * i)).nums.map fun x => some ((clA S (fi + 2 * i)).reel, x)))[t]? = some none := by
            rw [List.getElem?_append_left (by rw [List.length_append, List.length_replicate]; exact t2), List.getElem?_append_right (by omega), List.getElem?_replicate, if_pos (by omega)]
          refine ⟨fun j hj hc => ?_, fun _ => e⟩
          by_cases z : j = i
          · subst z
            rw [nk] at hc
            cases hc
          · rw [no j (by omega)] at hc
            cases hc
        · have e : (showsA S (rollA S fi i) ++ List.replicate d none ++ ((clA S (fi + 2 * i)).nums.map fun x => some ((clA S (fi + 2 * i)).reel, x)))[t]? = some (some (xk S t (fi + 2 * i))) := by
            rw [List.getElem?_append_right (by rw [List.length_append, List.length_replicate]; omega), List.length_append, List.length_replicate, List.getElem?_map, nums_get (by omega)]
            show some (some _) = some (some _)
            unfold xk
            rw [show ((t - ((showsA S (rollA S fi i)).length + d) : Nat) : Int) = (t : Int) - bgA S (fi + 2 * i) by omega]
          have ck : covers S t (fi + 2 * i) = true := decide_eq_true (by omega)
          refine ⟨fun j hj hc => ?_, fun hn => ?_⟩
          · by_cases z : j = i
            · subst z
              exact e
            · rw [no j (by omega)] at hc
              cases hc
          · have := hn i (by omega)
            rw [ck] at this
            cases this
theorem shows_at {S : List Clip} (sn : Sw S) (ns : ∀ k, ¬ Short S 0 k) (fi : Nat) (hf : fi ≤ 1) (t : Nat) (ht : (t : Int) < endA S S.length) :
    (∀ k, k < S.length → k % 2 = fi → covers S t k = true → (showsA S (fullA S fi))[t]? = some (some (xk S t k))) ∧ ((∀ k, k < S.length → k % 2 = fi → covers S t k = false) → (showsA S (fullA S fi))[t]? = some none) := by
  obtain ⟨h1, h2⟩ := shows_roll sn ns fi hf (manyA S fi) (Nat.le_refl _)
  have hge := end_geW sn fi hf
  obtain ⟨d, hd⟩ : ∃ d : Nat, endA S S.length - rEnd S fi (manyA S fi) = (d : Int) := ⟨(endA S S.length - rEnd S fi (manyA S fi)).toNat, by omega⟩
  have eld : showsA S (ldP (endA S S.length - rEnd S fi (manyA S fi))) = List.replicate d none := by
    rw [hd]
    unfold ldP
    split
    · rw [showsA_one]
      unfold showT
      rw [if_pos rfl]
      show List.replicate ((d : Int)).toNat none = _
      rw [Int.toNat_natCast]
    · have : d = 0 := by omega
      subst this
      rfl
  have esh : showsA S (fullA S fi) = showsA S (rollA S fi (manyA S fi)) ++ List.replicate d none := by
    unfold fullA
    rw [showsA_app, eld]
  have ix : ∀ k, k < S.length → k % 2 = fi → ∃ j, j < manyA S fi ∧ k = fi + 2 * j := fun k hk hp => ⟨k / 2, by unfold manyA; omega, by omega⟩
  rw [esh]
  by_cases t1 : t < (showsA S (rollA S fi (manyA S fi))).length
  · rw [List.getElem?_append_left t1]
    obtain ⟨g1, g2⟩ := h2 t t1
    refine ⟨fun k hk hp hc => ?_, fun hn => g2 fun j hj => hn (fi + 2 * j) (by unfold manyA at hj; omega) (by omega)⟩
    obtain ⟨j, hj, rfl⟩ := ix k hk hp
    exact g1 j hj hc
  · have e : (showsA S (rollA S fi (manyA S fi)) ++ List.replicate d none)[t]? = some none := by
      rw [List.getElem?_append_right (by omega), List.getElem?_replicate, if_pos (by omega)]
    refine ⟨fun k hk hp hc => ?_, fun _ => e⟩
    exfalso
    obtain ⟨j, hj, rfl⟩ := ix k hk hp
    have hc := of_decide_eq_true hc
    -- its end lies within the roll
    have ly := ly_of sn ns
    have h3 : endA S (fi + 2 * j + 1) ≤ rEnd S fi (manyA S fi) := by
      have h4 : ∀ dd, j + 1 + dd = manyA S fi → endA S (fi + 2 * j + 1) ≤ rEnd S fi (manyA S fi) := fun dd hdd => by
        have e : rEnd S fi (manyA S fi) = endA S (fi + 2 * (j + dd) + 1) := by
          rw [← hdd, show j + 1 + dd = (j + dd) + 1 by omega]
          rfl
        rw [e]
        cases dd with
        | zero => exact Int.le_refl _
        | succ dd =>
          have hm : fi + 2 * (j + (dd + 1)) < S.length := by unfold manyA at hdd; omega
          have h5 := ly.two (fi + 2 * j) (by omega)
          have h6 := ly.mono (i := fi + 2 * j + 2) (2 * dd) (by omega)
          rw [show fi + 2 * (j + (dd + 1)) + 1 = fi + 2 * j + 2 + 2 * dd + 1 by omega]
          have h7 : endA S (fi + 2 * j + 2 + 2 * dd + 1) = bgA S (fi + 2 * j + 2 + 2 * dd) + (clA S (fi + 2 * j + 2 + 2 * dd)).cnt := rfl
          omega
      exact h4 (manyA S fi - (j + 1)) (by omega)
    omega
/-- what is there on both rolls -/
def there (u v : Mv) : List Fr := [u, v].filterMap id
theorem moment_ok {S : List Clip} (sn : Sw S) (ns : ∀ k, ¬ Short S 0 k) (t : Nat) (ht : (t : Int) < endA S S.length) :
    ∃ u v, (showsA S (fullA S 0))[t]? = some u ∧ (showsA S (fullA S 1))[t]? = some v ∧ (Cv (moments S) t = there u v ∨ Cv (moments S) t = (there u v).reverse) := by
  obtain ⟨a1, a2⟩ := shows_at sn ns 0 (by decide) t ht
  obtain ⟨b1, b2⟩ := shows_at sn ns 1 (by decide) t ht
  rw [Cv_strips]
  have mem : ∀ k, k ∈ (List.range S.length).filter (covers S t) ↔ k < S.length ∧ covers S t k = true := fun k => by
    rw [List.mem_filter, List.mem_range]
  have not : ∀ k, k < S.length → k ∉ (List.range S.length).filter (covers S t) → covers S t k = false := fun k hk hn => by
    cases hc : covers S t k with
    | false => rfl
    | true => exact absurd ((mem k).mpr ⟨hk, hc⟩) hn
  rcases (ly_of sn ns).few t with e | ⟨k, e⟩ | ⟨k, e⟩
  · rw [e] at mem not ⊢
    refine ⟨none, none, a2 fun k hk _ => not k hk (by simp), b2 fun k hk _ => not k hk (by simp), .inl rfl⟩
  · rw [e] at mem not ⊢
    obtain ⟨hk, hc⟩ := (mem k).mp (by simp)
    by_cases par : k % 2 = 0
    · exact ⟨some _, none, a1 k hk par hc, b2 fun j hj hp => not j hj (by simp; omega), .inl rfl⟩
    · exact ⟨none, some _, a2 fun j hj hp => not j hj (by simp; omega), b1 k hk (by omega) hc, .inl rfl⟩
  · rw [e] at mem not ⊢
    obtain ⟨hk, hc⟩ := (mem k).mp (by simp)
    obtain ⟨hk', hc'⟩ := (mem (k + 1)).mp (by simp)
    by_cases par : k % 2 = 0
    · exact ⟨some _, some _, a1 k hk par hc, b1 (k + 1) hk' (by omega) hc', .inl rfl⟩
    · exact ⟨some _, some _, a1 (k + 1) hk' (by omega) hc', b1 k hk (by omega) hc, .inr rfl⟩
end KS

set_option linter.all false
set_option maxRecDepth 100000
set_option maxHeartbeats 1000000
namespace K32
open PySem L2 G KS
def top (i : Nat) : Stmt := PySem.Challenge.pw_leadersplice_k32_whole_rolls_show_the_fi.main.body.getD i (.Pass ⟨0, 0, 0, 0⟩)
abbrev s_TooShort_init : Stmt := inClass (top 2) 0
abbrev s_frames_in : Stmt := top 4
abbrev s_way_of : Stmt := top 6
abbrev s_numbers_of : Stmt := top 7
abbrev s_shown : Stmt := top 8
abbrev s_show_clip : Stmt := top 9
abbrev s_faded : Stmt := top 10
abbrev s_length : Stmt := top 11
abbrev s_strips_of : Stmt := top 13
abbrev s_take_frame : Stmt := top 14
abbrev s_can_have : Stmt := top 15
abbrev s_frames_of : Stmt := top 16
abbrev s_rolls : Stmt := top 18
abbrev s_refuse_near : Stmt := top 19
abbrev s_begins_of : Stmt := top 20
abbrev s_laid : Stmt := top 21
abbrev s_put_leader : Stmt := top 22
abbrev s_roll_shows : Stmt := top 23
abbrev s__law_cell : Stmt := top 25
abbrev s__law_numbers : Stmt := top 26
abbrev s__law_clip : Stmt := top 27
abbrev s__law_frames : Stmt := top 28
abbrev s__law_clips : Stmt := top 29
abbrev s__law_begins : Stmt := top 30
abbrev s__law_gaps : Stmt := top 31
abbrev s__law_asked : Stmt := top 32
abbrev s__law_moment : Stmt := top 33
abbrev s_law : Stmt := top 34

/-- what stands behind a raise, one field -/
theorem raised1 {H H1 : Hp} {a dx : Addr} {o x o' : HO} (s1 : Same H H1) (ha : H1 a = none) (hdx : upd H1 a o dx = none) (hne : dx ≠ a) : Same H (del (upd (upd (upd H1 a o) dx x) a o') a) ∧ del (upd (upd (upd H1 a o) dx x) a o') a dx = some x := by
  refine ⟨Same.del ?_ (s1.free ha), by rw [del_ne hne, upd_ne hne]; exact upd_same⟩
  intro b o hb
  have hb1 := s1 _ _ hb
  rw [upd_ne (ne_of_none hb1 ha), upd_ne, upd_ne (ne_of_none hb1 ha)]
  · exact hb1
  · intro z
    subst z
    rw [upd_ne hne, hb1] at hdx
    cases hdx
theorem vs2 {v : V} {x y : Int} (h : x = y) : [v, V.int x] = [v, V.int y] := by rw [h]
theorem vs3' {u v : V} {x y : Int} (h : x = y) : [u, v, V.int x] = [u, v, V.int y] := by rw [h]
theorem atI_int {xs : List V} {z : Int} {k : Nat} {v : V} (e : z = (k : Int)) (h : xs[k]? = some v) : atI xs z = some v := by
  subst e
  exact atI_nat h
section
variable {P : Program} {w : World} {K : PySem.W.Frag} {mg : Str → Option Value} {base : Heap}
/-! ### _law_cell -/
def cellOf (ns : List Int) (k : Nat) : Int := ns.getD k 0
def spCell (K : PySem.W.Frag) : Sp := fun vs H Q _ => ∃ (a : Addr) (ns : List Int) (k : Nat), vs = [.ref a, .int (k : Int)] ∧ SqL K H a (ns.map V.int) ∧ Q (.int (cellOf ns k)) H
theorem scCell : FnScope ["_law_script", "_law_k"] ["_law_script", "_law_k"] (defScope s__law_cell) := ⟨rfl, rfl, rfl, by decide +kernel, rfl, by decide +kernel, by decide +kernel⟩
theorem ok_cell {f : Addr} {fd : FuncData} (F : Fun K "_law_cell" "_law_cell" s__law_cell f fd) (n_len : mg "len" = none) : FnOk P w K mg base CX0 1 f fd ["_law_script", "_law_k"] (spCell K) := by
  refine F.ok scCell (fun vs H Q E h => ?_) (fun cdv A outer s H vs Q E hr h => ?_)
  · obtain ⟨a, ns, k, rfl, _⟩ := h
    rfl
  obtain ⟨a, ns, k, rfl, hS, q⟩ := h
  refine useQ (ss_cons (s_if (t_cmp op_lt (e_v 1) (e_b call_len_seq n_len PySem.boot_len (a_cons (e_v 0) a_nil)))
      (ss_one (s_ret (e_ix ix_list (e_v 0) (e_v 1))))
      ss_nil)
    (ss_one (s_ret e_int))) ?_
  refine ⟨_, rfl, _, rfl, a, _, rfl, .inl hS, _, _, rfl, rfl, _, rfl, ?_⟩
  refine ite2 (fun z => ?_) (fun z => ?_)
  · have z := of_decide_eq_true z
    rw [List.length_map] at z
    have hk : k < ns.length := by omega
    have e : cellOf ns k = ns[k] := by
      unfold cellOf
      rw [List.getD_eq_getElem?_getD, List.getElem?_eq_getElem hk]
      rfl
    rw [e] at q
    exact ⟨_, rfl, _, rfl, a, _, _, _, rfl, rfl, hS, atI_nat (j := k) (get_int hk), q⟩
  · have z : ¬ ((k : Int) < (((ns.map V.int).length : Nat) : Int)) := fun y => z (decide_eq_true y)
    rw [List.length_map] at z
    have e : cellOf ns k = 0 := by
      unfold cellOf
      rw [List.getD_eq_getElem?_getD, List.getElem?_eq_none (by omega)]
      rfl
    rw [e] at q
    exact q
/-! ### _law_numbers -/
def spNum : Sp := fun vs H Q _ => ∃ (c : Int) (n : Nat), vs = [.int c, .int (n : Int)] ∧ n ≤ 1000 ∧ ∀ (l : Addr) (ns : List Int) (H' : Hp), Same H H' → ns.length = n → H l = none → H' l = some (.lst (ns.map V.int)) → Q (.ref l) H'
theorem scNum : FnScope ["_law_cell_here", "_law_many", "_law_found", "_law_number", "_law_digits", "_law_k"] ["_law_cell_here", "_law_many"] (defScope s__law_numbers) := ⟨rfl, rfl, rfl, by decide +kernel, rfl, by decide +kernel, by decide +kernel⟩
theorem ok_num {f : Addr} {fd : FuncData} (F : Fun K "_law_numbers" "_law_numbers" s__law_numbers f fd) (n_abs : mg "abs" = none) (n_range : mg "range" = none) (n_int : mg "int" = none) : FnOk P w K mg base CX0 1 f fd ["_law_cell_here", "_law_many"] spNum := by
  refine F.ok scNum (fun vs H Q E h => ?_) (fun cdv A outer s H vs Q E hr h => ?_)
  · obtain ⟨c, n, rfl, _⟩ := h
    rfl
  obtain ⟨c, n, rfl, hn, q⟩ := h
  refine useQ (ss_cons (s_set (i := 2) scNum.nd (e_lst a_nil))
    (ss_cons (s_set (i := 3) scNum.nd (e_op op_mod (e_op op_mul (e_op op_add (e_op op_mod (e_v 0) e_int) e_int) e_int) e_int))
    (ss_cons (s_set (i := 4) scNum.nd e_int)
    (ss_cons (s_cut (s_if (t_w (w_or (t_cmp op_lt (e_v 0) e_int) (w_or1 (t_cmp op_ge (e_v 0) (e_op op_pow e_int e_int)))))
      (ss_one (s_set (i := 4) scNum.nd (e_b call_abs n_abs (by decide +kernel) (a_cons (e_v 0) a_nil))))
      ss_nil))
    (ss_cons (s_for PassesOwn.never rfl (i_rng1 n_range (e_v 1)) (g_name (i := 5) scNum.nd)
      (ss_cons (s_set (i := 3) scNum.nd (e_op op_mod (e_op op_add (e_op op_add (e_op op_mul (e_v 3) (e_op op_add (e_op op_mod (e_v 3) e_int) e_int)) (e_op op_mul e_int (e_v 5))) e_int) e_int))
      (ss_cons (s_expr (e_append (e_v 2) (e_ix ix_list (e_lst (a_cons (e_v 3) (a_cons (e_op op_mod (e_v 4) e_int) a_nil))) (e_t call_int1 n_int PyProof.Rows.boot_int (a_cons (e_cmp op_gt (e_v 4) e_int) a_nil)))))
      (ss_one (s_set (i := 4) scNum.nd (e_op op_fdiv (e_v 4) e_int))))))
    (ss_one (s_ret (e_v 2)))))))) ?_
  have zl : sizeLine = 16777216 := sizeLine_eq
  refine ⟨(by show 0 ≤ sizeLine; decide), fun p hp => ?_⟩
  refine ⟨_, rfl, _, _, rfl, rfl, (by show (0 : Int) < 1999999973; decide), _, _, rfl, rfl, _, _, rfl, rfl, .inr ⟨by decide, by decide⟩, _, _, rfl, rfl, (by show (0 : Int) < 1999999973; decide), ?_⟩
  refine ⟨fun σ' H' => ∃ a d : Int, σ' = [some (.int c), some (.int (n : Int)), some (.ref p), some (.int a), some (.int d), none] ∧ 0 ≤ a ∧ a < 1999999973 ∧ H' = upd H p (.lst []), ?_, ?_⟩
  · have b1 : 0 ≤ (c % 1999999973 + 31) * 765432101 % 1999999973 := by omega
    have b2 : (c % 1999999973 + 31) * 765432101 % 1999999973 < 1999999973 := by omega
    refine ⟨_, rfl, _, _, rfl, rfl, _, rfl, ?_⟩
    refine ite2 (fun _ => ?_) (fun _ => ?_)
    · exact iteT ⟨_, rfl, _, rfl, _, _, rfl, b1, b2, rfl⟩
    · refine ⟨_, rfl, _, _, rfl, rfl, ⟨by decide, by decide, by decide⟩, _, _, rfl, rfl, _, rfl, ?_⟩
      refine ite2 (fun _ => ?_) (fun _ => ?_)
      · exact ⟨_, rfl, _, rfl, _, _, rfl, b1, b2, rfl⟩
      · exact ⟨_, _, rfl, b1, b2, rfl⟩
  rintro σ H1 ⟨a, d, rfl, h1, h2, rfl⟩
  refine ⟨_, rfl, (n : Int), rfl, by omega, by omega, for_range (lo := 0) (n := n) (fun i σ H' => ∃ (a d : Int) (ns : List Int) (o : Option V), σ = [some (.int c), some (.int (n : Int)), some (.ref p), some (.int a), some (.int d), o] ∧ 0 ≤ a ∧ a < 1999999973 ∧ ns.length = i ∧ H' p = some (.lst (ns.map V.int)) ∧ Same H H')
    ⟨a, d, [], none, rfl, h1, h2, rfl, upd_same, Same.new hp _⟩ ?_ ?_⟩
  · rintro i σ H' hi ⟨a, d, ns, o, rfl, h1, h2, hl, hpp, hS⟩
    refine ⟨_, rfl, _, rfl, _, _, rfl, rfl, (by show (0 : Int) < 65521; decide), _, _, rfl, rfl, _, _, rfl, rfl, .inl ⟨by omega, by omega⟩, _, rfl, _, _, rfl, rfl, .inl ⟨by decide, by decide⟩, _, _, rfl, rfl, _, _, rfl, rfl, _, _, rfl, rfl, (by show (0 : Int) < 1999999973; decide), ?_⟩
    have z1 : 0 ≤ (a * (a % 65521 + 40487) + 7 * (0 + (i : Int)) + 5) % 1999999973 := Int.emod_nonneg _ (by decide)
    have z2 : (a * (a % 65521 + 40487) + 7 * (0 + (i : Int)) + 5) % 1999999973 < 1999999973 := Int.emod_lt_of_pos _ (by decide)
    obtain ⟨v, hv, hm⟩ := at_list (xs := [V.int ((a * (a % 65521 + 40487) + 7 * (0 + (i : Int)) + 5) % 1999999973), .int (d % 1000000)]) (i := if decide (0 < d) = true then 1 else 0) (by split <;> decide) (by split <;> (show _ < (2 : Int); decide))
    obtain ⟨u, rfl⟩ : ∃ u, v = .int u := by
      simp only [List.mem_cons, List.not_mem_nil, or_false] at hm
      rcases hm with rfl | rfl
      · exact ⟨_, rfl⟩
      · exact ⟨_, rfl⟩
    refine ⟨_, rfl, .inl ⟨rfl, _, SqL.of hpp⟩, _, rfl, _, rfl, _, _, rfl, rfl, (by show (0 : Int) < 1000000; decide), (by show 2 ≤ sizeLine; decide), fun p2 hp2 => ⟨_, rfl, _, _, rfl, rfl, .inr ⟨_, rfl, p2, _, _, .int u, rfl, rfl, SqL.of upd_same, hv, p, _, _, rfl, rfl, Same.new hp2 _ _ _ hpp, (by rw [List.length_map]; omega), ?_⟩⟩⟩
    refine ⟨_, rfl, _, _, rfl, rfl, ⟨by decide, by decide⟩, (a * (a % 65521 + 40487) + 7 * (0 + (i : Int)) + 5) % 1999999973, _, ns ++ [u], _, rfl, z1, z2, (by rw [List.length_append, hl]; rfl), ?_, ?_⟩
    · rw [upd_same, List.map_append]
      rfl
    · intro b o hb
      rw [upd_ne (ne_of_none hb hp)]
      exact Same.new hp2 _ _ _ (hS _ _ hb)
  · rintro σ H' ⟨a, d, ns, o, rfl, h1, h2, hl, hpp, hS⟩
    exact ⟨_, rfl, q p ns H' hS hl hp hpp⟩
def spFin : Sp := fun vs H Q _ => ∃ (p : Addr) (c : Clip), vs = [.ref p] ∧ H p = some (.tup c.vs) ∧ Q (.int (c.cnt : Int)) H
theorem scFin : FnScope ["clip"] ["clip"] (defScope s_frames_in) := ⟨rfl, rfl, rfl, by decide +kernel, rfl, by decide +kernel, by decide +kernel⟩
theorem ok_fin {f : Addr} {fd : FuncData} (F : Fun K "frames_in" "frames_in" s_frames_in f fd) (n_abs : mg "abs" = none) : FnOk P w K mg base CX0 1 f fd ["clip"] spFin := by
  refine F.ok scFin (fun vs H Q E h => ?_) (fun cdv A outer s H vs Q E hr h => ?_)
  · obtain ⟨p, c, rfl, _⟩ := h
    rfl
  obtain ⟨p, c, rfl, hp, q⟩ := h
  refine useQ (ss_one (s_ret (e_op op_add (e_b call_abs n_abs (by decide +kernel) (a_cons (e_op op_sub (e_ix ix_tup (e_v 0) e_int) (e_ix ix_tup (e_v 0) e_int)) a_nil)) e_int))) ?_
  refine ⟨_, rfl, p, _, _, .int c.b, rfl, rfl, SqT.of hp, atI_nat (j := 2) rfl, _, rfl, p, _, _, .int c.a, rfl, rfl, SqT.of hp, atI_nat (j := 1) rfl, _, _, rfl, rfl, _, rfl, _, _, rfl, rfl, ?_⟩
  have e : (if c.b - c.a < 0 then -(c.b - c.a) else c.b - c.a) + 1 = (c.cnt : Int) := by
    unfold Clip.cnt
    split <;> omega
  show Q (.int ((if c.b - c.a < 0 then -(c.b - c.a) else c.b - c.a) + 1)) H
  rw [e]
  exact q
def spInit (C : Addr) (f : Str) : Sp := fun vs H Q _ => ∃ a y, vs = [.ref a, y] ∧ H a = some (newO a C none) ∧ ∀ dx, H dx = none → dx ≠ a → Q .non (upd (upd H dx (xdO dx [(f, y)])) a (newO a C (some dx)))
theorem scInit : FnScope ["self", "number"] ["self", "number"] (defScope s_TooShort_init) := ⟨rfl, rfl, rfl, by decide +kernel, rfl, by decide +kernel, by decide +kernel⟩
theorem ok_init {f C : Addr} {fd : FuncData} (F : Fun K "__init__" "TooShort.__init__" s_TooShort_init f fd) (XC : XCls K C) (XN : XNo K C "number") : FnOk P w K mg base CX0 1 f fd ["self", "number"] (spInit C "number") := by
  refine F.ok scInit (fun vs H Q E h => ?_) (fun cdv A outer s0 H vs Q E hr h => ?_)
  · obtain ⟨a, y, rfl, _⟩ := h
    rfl
  obtain ⟨a, y, rfl, hH, q⟩ := h
  refine useQ (ss_one (s_xset (e_v 0) (e_v 1))) ?_
  exact ⟨_, rfl, _, rfl, a, C, rfl, XC, XN, .inl ⟨hH, fun dx n1 n2 => q dx n1 n2⟩⟩
/-! ### the frames of a clip -/
def spWay : Sp := fun vs H Q _ => ∃ (p : Addr) (c : Clip), vs = [.ref p] ∧ H p = some (.tup c.vs) ∧ Q (.int c.way) H
theorem scWay : FnScope ["clip"] ["clip"] (defScope s_way_of) := ⟨rfl, rfl, rfl, by decide +kernel, rfl, by decide +kernel, by decide +kernel⟩
theorem ok_way {f : Addr} {fd : FuncData} (F : Fun K "way_of" "way_of" s_way_of f fd) : FnOk P w K mg base CX0 1 f fd ["clip"] spWay := by
  refine F.ok scWay (fun vs H Q E h => ?_) (fun cdv A outer s H vs Q E hr h => ?_)
  · obtain ⟨p, c, rfl, _⟩ := h
    rfl
  obtain ⟨p, c, rfl, hp, q⟩ := h
  refine useQ (ss_one (s_ret (e_if (t_cmp op_lt (e_ix ix_tup (e_v 0) e_int) (e_ix ix_tup (e_v 0) e_int)) (e_un un_neg e_int) e_int))) ?_
  refine ⟨_, rfl, p, _, _, .int c.b, rfl, rfl, SqT.of hp, atI_nat (j := 2) rfl, _, rfl, p, _, _, .int c.a, rfl, rfl, SqT.of hp, atI_nat (j := 1) rfl, _, _, rfl, rfl, _, rfl, ?_⟩
  have q : Q (.int (if c.b < c.a then -1 else 1)) H := q
  refine ite2 (fun z => ?_) (fun z => ?_)
  · rw [if_pos (of_decide_eq_true z)] at q
    exact ⟨_, rfl, q⟩
  · rw [if_neg fun y => z (decide_eq_true y)] at q
    exact q
def spFr : Sp := fun vs H Q _ => ∃ (p : Addr) (c : Clip), vs = [.ref p] ∧ H p = some (.tup c.vs) ∧ Sm c ∧ ∀ l, H l = none → Q (.ref l) (upd H l (.lst (c.nums.map V.int)))
theorem scNos : FnScope ["clip", "way"] ["clip"] (defScope s_numbers_of) := ⟨rfl, rfl, rfl, by decide +kernel, rfl, by decide +kernel, by decide +kernel⟩
theorem ok_nos {f : Addr} {fd : FuncData} (F : Fun K "numbers_of" "numbers_of" s_numbers_of f fd) (dWay : Def P w K mg base CX0 "way_of" 1 ["clip"] spWay) (n_list : mg "list" = none) (n_range : mg "range" = none) : FnOk P w K mg base CX0 2 f fd ["clip"] spFr := by
  refine F.ok scNos (fun vs H Q E h => ?_) (fun cdv A outer s H vs Q E hr h => ?_)
  · obtain ⟨p, c, rfl, _⟩ := h
    rfl
  obtain ⟨p, c, rfl, hp, sm, q⟩ := h
  refine useQ (ss_cons (s_set (i := 1) scNos.nd (e_call dWay hr pass0 (a_cons (e_v 0) a_nil)))
    (ss_one (s_ret (e_lrng3 rfl n_list n_range (e_ix ix_tup (e_v 0) e_int) (e_op op_add (e_ix ix_tup (e_v 0) e_int) (e_v 1)) (e_v 1))))) ?_
  refine ⟨_, rfl, p, c, rfl, hp, ?_⟩
  obtain ⟨a0, a1, b0, b1⟩ := sm
  have cw := c.way_cnt
  have cn : c.cnt ≤ 1000001 := Sm.cnt ⟨a0, a1, b0, b1⟩
  refine ⟨_, rfl, p, _, _, .int c.a, rfl, rfl, SqT.of hp, atI_nat (j := 1) rfl, _, rfl, p, _, _, .int c.b, rfl, rfl, SqT.of hp, atI_nat (j := 2) rfl, _, rfl, _, _, rfl, rfl, _, rfl, _, _, _, rfl, ⟨by omega, by omega⟩, ⟨by omega, by omega⟩, c.cnt, cw, by omega, fun l hl => ?_⟩
  rw [← c.numsV]
  exact q l hl
end
end K32

set_option linter.all false
set_option maxRecDepth 100000
set_option maxHeartbeats 1000000
namespace K32
open PySem L2 G KS
section
variable {P : Program} {w : World} {K : PySem.W.Frag} {mg : Str → Option Value} {base : Heap}
/-! ### refuse_near -/
def spNear (C : Addr) : Sp := fun vs H Q E => ∃ (p : Addr) (ps : List (Addr × Clip)) (ld : Int), vs = [.ref p, .int ld] ∧ ST H p ps ∧ ps.length ≤ 100000 ∧ ((∀ k, ¬ Short (ps.map (·.2)) ld k) → ∀ H', Same H H' → Q .non H') ∧
  (∀ (k : Nat) (z : Int) H' dx, z = k → FirstS (ps.map (·.2)) ld k → Same H H' → H' dx = some (xdO dx [("number", .int z)]) → E (.ref C) (some dx) H')
theorem scNear : FnScope ["strips", "leader", "number"] ["strips", "leader"] (defScope s_refuse_near) := ⟨rfl, rfl, rfl, by decide +kernel, rfl, by decide +kernel, by decide +kernel⟩
theorem ok_near {f C fI : Addr} {fd gd : FuncData} (F : Fun K "refuse_near" "refuse_near" s_refuse_near f fd) (dFin : Def P w K mg base CX0 "frames_in" 1 ["clip"] spFin)
    (m_TooShort : mg "TooShort" = some (.ref C)) (R_TooShort : XRaise K C fI) (G_TooShort : FnOk P w K mg base CX0 1 fI gd ["self", "number"] (spInit C "number")) (b_TooShort : Binds K gd ["self", "number"] [])
    (n_range : mg "range" = none) (n_len : mg "len" = none) : FnOk P w K mg base (CX1 P w) 3 f fd ["strips", "leader"] (spNear C) := by
  refine F.okX scNear (fun vs H Q E h => ?_) (fun cdv A outer s0 H vs Q E hr h => ?_)
  · obtain ⟨p, ps, ld, rfl, _⟩ := h
    rfl
  obtain ⟨p, ps, ld, rfl, st, hl, q, e⟩ := h
  refine useQ (ss_one (s_for PassesOwn.leaving rfl (i_rng2 n_range e_int (e_op op_sub (e_b call_len_seq n_len PySem.boot_len (a_cons (e_v 0) a_nil)) e_int)) (g_name (i := 2) scNear.nd)
      (ss_one (s_if (t_cmp op_lt (e_op op_sub (e_op op_sub (e_call dFin hr pass0 (a_cons (e_ix ix_list (e_v 0) (e_v 2)) a_nil)) (e_ix ix_tup (e_ix ix_list (e_v 0) (e_v 2)) e_int)) (e_ix ix_tup (e_ix ix_list (e_v 0) (e_op op_add (e_v 2) e_int)) e_int)) (e_v 1))
        (ss_one (s_raiseI m_TooShort R_TooShort G_TooShort hr b_TooShort (a_cons (e_v 2) a_nil)))
        ss_nil)))) ?_
  have zl : sizeLine = 16777216 := sizeLine_eq
  have hm : (ps.map fun x => V.ref x.1).length = ps.length := List.length_map ..
  have hm2 : (ps.map (·.2)).length = ps.length := List.length_map ..
  refine ⟨_, rfl, p, _, rfl, .inl (SqL.of st.1), _, _, rfl, rfl, 1, _, rfl, ⟨by decide, by decide, by rw [hm]; omega, by rw [hm]; omega⟩, ?_⟩
  rw [hm]
  refine for_range (lo := 1) (n := ((ps.length : Int) - 1 - 1).toNat) (fun i σ H' => ∃ o : Option V, σ = [some (.ref p), some (.int ld), o] ∧ (∀ j, j < 1 + i → ¬ Short (ps.map (·.2)) ld j) ∧ Same H H') ⟨none, rfl, fun j hj s => by have := s.1; omega, Same.refl _⟩ ?_ ?_
  · rintro i σ H' hi ⟨o, rfl, hn, hS⟩
    have st' := st.same hS
    obtain ⟨a1, g1, h1, _⟩ := st'.get (k := 1 + i) (by omega)
    obtain ⟨a2, g2, h2, _⟩ := st'.get (k := 1 + i + 1) (by omega)
    refine ⟨_, rfl, _, rfl, p, _, _, _, rfl, rfl, SqL.of st'.1, atI_int (k := 1 + i) (by omega) g1, a1, _, rfl, h1, ?_⟩
    refine ⟨_, rfl, _, rfl, p, _, _, _, rfl, rfl, SqL.of st'.1, atI_int (k := 1 + i) (by omega) g1, a1, _, _, .int _, rfl, rfl, SqT.of h1, atI_nat (j := 3) rfl, _, _, rfl, rfl, ?_⟩
    refine ⟨_, rfl, _, rfl, _, _, rfl, rfl, p, _, _, _, rfl, rfl, SqL.of st'.1, atI_int (k := 1 + i + 1) (by omega) g2, a2, _, _, .int _, rfl, rfl, SqT.of h2, atI_nat (j := 3) rfl, _, _, rfl, rfl, _, rfl, _, _, rfl, rfl, _, rfl, ?_⟩
    refine ite2 (fun z => ?_) (fun z => ?_)
    · have z := of_decide_eq_true z
      refine ⟨_, rfl, (by show 1 ≤ sizeLine; decide), fun a ha => ⟨a, _, rfl, upd_same, fun dx n1 n2 => ⟨rfl, some dx, upd_same, ?_⟩⟩⟩
      obtain ⟨r1, r2⟩ := raised1 (x := xdO dx [("number", V.int (1 + (i : Int)))]) (o' := newO a C (some dx)) hS ha n1 n2
      exact e (1 + i) _ _ dx (by omega) ⟨⟨by omega, by rw [hm2]; omega, z⟩, hn⟩ r1 r2
    · refine ⟨_, rfl, fun j hj => ?_, hS⟩
      by_cases y : j < 1 + i
      · exact hn j y
      · have : j = 1 + i := by omega
        subst this
        exact fun s => z (decide_eq_true s.2.2)
  · rintro σ H' ⟨o, rfl, hn, hS⟩
    refine q (fun k s => ?_) H' hS
    have := s.2.1
    rw [hm2] at this
    exact hn k (by omega) s
/-! ### begins_of -/
def spBg : Sp := fun vs H Q _ => ∃ (p : Addr) (ps : List (Addr × Clip)), vs = [.ref p] ∧ ST H p ps ∧ ps.length ≤ 100000 ∧ ∀ l H', Same H H' → H l = none → H' l = some (.lst (((List.range ps.length).map (bgA (ps.map (·.2)))).map V.int)) → Q (.ref l) H'
theorem bg_snoc (cs : List Clip) (i : Nat) : ((List.range (i + 1)).map (bgA cs)).map V.int = ((List.range i).map (bgA cs)).map V.int ++ [V.int (bgA cs i)] := by
  rw [List.range_succ, List.map_append, List.map_append]
  rfl
theorem scBg : FnScope ["strips", "begins", "end", "strip"] ["strips"] (defScope s_begins_of) := ⟨rfl, rfl, rfl, by decide +kernel, rfl, by decide +kernel, by decide +kernel⟩
theorem ok_bg {f : Addr} {fd : FuncData} (F : Fun K "begins_of" "begins_of" s_begins_of f fd) (dFin : Def P w K mg base CX0 "frames_in" 1 ["clip"] spFin) : FnOk P w K mg base CX0 2 f fd ["strips"] spBg := by
  refine F.ok scBg (fun vs H Q E h => ?_) (fun cdv A outer s H vs Q E hr h => ?_)
  · obtain ⟨p, ps, rfl, _⟩ := h
    rfl
  obtain ⟨p, ps, rfl, st, hl, q⟩ := h
  refine useQ (ss_cons (s_set (i := 1) scBg.nd (e_lst a_nil))
    (ss_cons (s_set (i := 2) scBg.nd e_int)
    (ss_cons (s_for PassesOwn.never rfl (i_list (e_v 0)) (g_name (i := 3) scBg.nd)
      (ss_cons (s_expr (e_append (e_v 1) (e_op op_sub (e_v 2) (e_ix ix_tup (e_v 3) e_int))))
      (ss_one (s_set (i := 2) scBg.nd (e_op op_add (e_ix ix_list (e_v 1) (e_un un_neg e_int)) (e_call dFin hr pass0 (a_cons (e_v 3) a_nil)))))))
    (ss_one (s_ret (e_v 1)))))) ?_
  have zl : sizeLine = 16777216 := sizeLine_eq
  have hm : (ps.map fun x => V.ref x.1).length = ps.length := List.length_map ..
  refine ⟨(by show 0 ≤ sizeLine; decide), fun pb hb => ?_⟩
  have s1 := Same.new hb (.lst [])
  refine ⟨_, rfl, p, rfl, ⟨_, SqL.of (s1 _ _ st.1)⟩, for_list (K := K) (a := p) (xs := ps.map fun x => V.ref x.1) (fun i σ H' => ∃ o : Option V, σ = [some (.ref p), some (.ref pb), some (.int (endA (ps.map (·.2)) i)), o] ∧ Same H H' ∧ H' pb = some (.lst (((List.range i).map (bgA (ps.map (·.2)))).map V.int)))
    ⟨none, rfl, s1, upd_same⟩ (fun i σ H' _ ⟨_, _, s, _⟩ => SqL.of (s _ _ st.1)) ?_ ?_⟩
  · rintro i x σ H' hx ⟨o, rfl, hS, hpb⟩
    have hi : i < ps.length := by
      have := (List.getElem?_eq_some_iff.mp hx).1
      omega
    have st' := st.same hS
    obtain ⟨a, g, h, _⟩ := st'.get hi
    rw [g] at hx
    cases hx
    have np : a ≠ pb := ne_of h hpb (by intro z; cases z)
    refine ⟨_, rfl, .inl ⟨rfl, _, SqL.of hpb⟩, _, rfl, _, rfl, a, _, _, .int _, rfl, rfl, SqT.of h, atI_nat (j := 3) rfl, _, _, rfl, rfl, pb, _, _, rfl, rfl, hpb, by rw [List.length_map, List.length_map, List.length_range]; omega, ?_⟩
    refine ⟨_, rfl, _, rfl, pb, _, _, .int (bgA (ps.map (·.2)) i), rfl, rfl, SqL.of upd_same, atI_last _ _, ?_⟩
    refine ⟨_, rfl, a, _, rfl, by rw [upd_ne np]; exact h, _, _, rfl, rfl, _, rfl, fun b u hu => ?_, ?_⟩
    · rw [upd_ne (ne_of_none hu hb)]
      exact hS _ _ hu
    · rw [upd_same, bg_snoc]
      rfl
  · rintro σ H' ⟨o, rfl, hS, hpb⟩
    rw [hm] at hpb
    exact ⟨_, rfl, q pb H' hS hb hpb⟩
/-! ### length -/
def spLen : Sp := fun vs H Q _ => ∃ (pc : Addr) (ps : List (Addr × Clip)), vs = [.ref pc] ∧ ST H pc ps ∧ ps.length ≤ 100000 ∧ ∀ (H' : Hp), Same H H' → Q (.int (endA (ps.map (·.2)) ps.length)) H'
theorem scLen : FnScope ["clips"] ["clips"] (defScope s_length) := ⟨rfl, rfl, rfl, by decide +kernel, rfl, by decide +kernel, by decide +kernel⟩
theorem ok_len {f : Addr} {fd : FuncData} (F : Fun K "length" "length" s_length f fd) (dFin : Def P w K mg base CX0 "frames_in" 1 ["clip"] spFin) (n_sum : mg "sum" = none) : FnOk P w K mg base CX0 2 f fd ["clips"] spLen := by
  refine F.ok scLen (fun vs H Q E h => ?_) (fun cdv A outer s H vs Q E hr h => ?_)
  · obtain ⟨pc, ps, rfl, _⟩ := h
    rfl
  obtain ⟨pc, ps, rfl, st, hpl, q⟩ := h
  refine useQ (ss_one (s_ret (e_b call_sum n_sum (by decide +kernel) (a_cons (e_comp [] [] [] rfl trivial trivial (i_list (e_v 0)) (fun _ _ _ _ => (e_op op_sub (e_call dFin hr pass0 (a_cons (e_n 0) a_nil)) (e_ix (ix_tupK (K := K) rfl) (e_n 0) e_int)))) a_nil)))) ?_
  have zl : sizeLine = 16777216 := sizeLine_eq
  refine ⟨_, rfl, pc, rfl, ⟨_, SqL.of st.1⟩, ?_⟩
  refine comp_list (((ps.map (·.2)).map fun c => ((c.cnt : Int) - c.f)).map V.int) (SqL.of st.1) (by rw [List.length_map]; omega) (by rw [List.length_map, List.length_map, List.length_map, List.length_map]) ?_ ?_
  · intro i x y H' R hS hx hy hR
    rw [List.getElem?_map] at hx
    rw [List.getElem?_map, List.getElem?_map, List.getElem?_map] at hy
    cases hz : ps[i]? with
    | none => rw [hz] at hx; cases hx
    | some z =>
      rw [hz] at hx hy
      cases hx
      cases hy
      have hc := hS _ _ (st.2 z (List.mem_of_getElem? hz))
      exact ⟨_, rfl, z.1, z.2, rfl, hc, _, rfl, z.1, _, _, .int z.2.f, rfl, rfl, SqT.of hc, atI_nat (j := 3) rfl, _, _, rfl, rfl, hR H' (Same.refl _)⟩
  intro D H1 s1 hD0 hD
  refine ⟨D, _, rfl, SqL.of hD, rfl, ?_⟩
  rw [len_endA, List.length_map]
  exact q H1 s1
/-! ### put_leader, laid -/
def spPut : Sp := fun vs H Q _ => ∃ (p : Addr) (ps : List (Addr × Th)) (m : Int), vs = [.ref p, .int m] ∧ TL H p ps ∧ ps.length ≤ 1000000 ∧ ∀ ps' H', Bt p H H' → TL H' p ps' → ps'.map (·.2) = ps.map (·.2) ++ ldP m → Q .non H'
theorem scPut : FnScope ["roll", "many"] ["roll", "many"] (defScope s_put_leader) := ⟨rfl, rfl, rfl, by decide +kernel, rfl, by decide +kernel, by decide +kernel⟩
theorem ok_put {f : Addr} {fd : FuncData} (F : Fun K "put_leader" "put_leader" s_put_leader f fd) : FnOk P w K mg base CX0 1 f fd ["roll", "many"] spPut := by
  refine F.ok scPut (fun vs H Q E h => ?_) (fun cdv A outer s H vs Q E hr h => ?_)
  · obtain ⟨p, ps, m, rfl, _⟩ := h
    rfl
  obtain ⟨p, ps, m, rfl, tl, hl, q⟩ := h
  refine useQ (ss_one (s_if (t_cmp op_gt (e_v 1) e_int)
      (ss_one (s_expr (e_append (e_v 0) (e_tup (a_cons e_str (a_cons (e_v 1) a_nil))))))
      ss_nil)) ?_
  have zl : sizeLine = 16777216 := sizeLine_eq
  refine ⟨_, rfl, _, _, rfl, rfl, _, rfl, ?_⟩
  refine ite2 (fun z => ?_) (fun z => ?_)
  · have z := of_decide_eq_true z
    refine ⟨_, rfl, .inl ⟨rfl, _, SqL.of tl.1⟩, _, rfl, (by show 2 ≤ sizeLine; decide), fun pt hpt => ?_⟩
    have s1 := Same.new hpt (.tup (Th.vs ⟨true, m⟩))
    have t1 := tl.same s1
    refine ⟨p, _, _, rfl, rfl, t1.1, by rw [List.length_map]; omega, ?_⟩
    refine q (ps ++ [(pt, ⟨true, m⟩)]) _ ((Bt.of s1).trans Bt.upd) (t1.push upd_same) ?_
    unfold ldP
    rw [if_pos z, List.map_append]
    rfl
  · have z : ¬ (0 < m) := fun y => z (decide_eq_true y)
    refine q ps H (Bt.refl _ _) tl ?_
    unfold ldP
    rw [if_neg z, List.append_nil]
def spLaid : Sp := fun vs H Q _ => ∃ (p pb : Addr) (ps : List (Addr × Clip)) (fi : Nat), vs = [.ref p, .ref pb, .int (fi : Int)] ∧ ST H p ps ∧ ps.length ≤ 100000 ∧ fi ≤ 1 ∧ H pb = some (.lst (((List.range ps.length).map (bgA (ps.map (·.2)))).map V.int)) ∧
  ∀ l ts H', Same H H' → H l = none → TL H' l ts → ts.map (·.2) = fullA (ps.map (·.2)) fi → Q (.ref l) H'
theorem scLaid : FnScope ["strips", "begins", "first", "roll", "end", "number"] ["strips", "begins", "first"] (defScope s_laid) := ⟨rfl, rfl, rfl, by decide +kernel, rfl, by decide +kernel, by decide +kernel⟩
theorem ok_laid {f : Addr} {fd : FuncData} (F : Fun K "laid" "laid" s_laid f fd) (dFin : Def P w K mg base CX0 "frames_in" 1 ["clip"] spFin) (dLen : Def P w K mg base CX0 "length" 2 ["clips"] spLen) (dPut : Def P w K mg base CX0 "put_leader" 1 ["roll", "many"] spPut) (n_range : mg "range" = none) (n_len : mg "len" = none) :
    FnOk P w K mg base CX0 3 f fd ["strips", "begins", "first"] spLaid := by
  refine F.ok scLaid (fun vs H Q E h => ?_) (fun cdv A outer s H vs Q E hr h => ?_)
  · obtain ⟨p, pb, ps, fi, rfl, _⟩ := h
    rfl
  obtain ⟨p, pb, ps, fi, rfl, st, hl, hfi, hpb, q⟩ := h
  refine useQ (ss_cons (s_set (i := 3) scLaid.nd (e_lst a_nil))
    (ss_cons (s_set (i := 4) scLaid.nd e_int)
    (ss_cons (s_for PassesOwn.never rfl (i_rng3 n_range (e_v 2) (e_b call_len_seq n_len PySem.boot_len (a_cons (e_v 0) a_nil)) e_int) (g_name (i := 5) scLaid.nd)
      (ss_cons (s_expr (e_call dPut hr pass0 (a_cons (e_v 3) (a_cons (e_op op_sub (e_ix ix_list (e_v 1) (e_v 5)) (e_v 4)) a_nil))))
      (ss_cons (s_expr (e_append (e_v 3) (e_tup (a_cons e_str (a_cons (e_v 5) a_nil)))))
      (ss_one (s_set (i := 4) scLaid.nd (e_op op_add (e_ix ix_list (e_v 1) (e_v 5)) (e_call dFin hr pass0 (a_cons (e_ix ix_list (e_v 0) (e_v 5)) a_nil))))))))
    (ss_cons (s_expr (e_call dPut hr pass0 (a_cons (e_v 3) (a_cons (e_op op_sub (e_call dLen hr pass0 (a_cons (e_v 0) a_nil)) (e_v 4)) a_nil))))
    (ss_one (s_ret (e_v 3))))))) ?_
  have zl : sizeLine = 16777216 := sizeLine_eq
  have hm : (ps.map fun x => V.ref x.1).length = ps.length := List.length_map ..
  have hm2 : (ps.map (·.2)).length = ps.length := List.length_map ..
  refine ⟨(by show 0 ≤ sizeLine; decide), fun pr hr0 => ?_⟩
  have s1 := Same.new hr0 (.lst [])
  refine ⟨_, rfl, _, rfl, p, _, rfl, .inl (SqL.of (s1 _ _ st.1)), _, _, rfl, ⟨by omega, by omega, by rw [hm]; omega, by rw [hm]; omega⟩, ?_⟩
  rw [hm]
  have en : (((ps.length : Int) - (fi : Int) + 1) / 2).toNat = manyA (ps.map (·.2)) fi := by
    unfold manyA
    rw [hm2]
    omega
  rw [en]
  refine for_rng2 (fun i σ H' => ∃ (o : Option V) (ts : List (Addr × Th)), σ = [some (.ref p), some (.ref pb), some (.int (fi : Int)), some (.ref pr), some (.int (rEnd (ps.map (·.2)) fi i)), o] ∧ Same H H' ∧ TL H' pr ts ∧ ts.map (·.2) = rollA (ps.map (·.2)) fi i)
    ⟨none, [], rfl, s1, TL.nil upd_same, rfl⟩ ?_ ?_
  · rintro i σ H' hi ⟨o, ts, rfl, hS, tl, ht⟩
    have hk : fi + 2 * i < ps.length := by
      unfold manyA at hi
      rw [hm2] at hi
      omega
    have st' := st.same hS
    obtain ⟨a, g, h, _⟩ := st'.get hk
    have gb : (((List.range ps.length).map (bgA (ps.map (·.2)))).map V.int)[fi + 2 * i]? = some (.int (bgA (ps.map (·.2)) (fi + 2 * i))) := by
      rw [List.getElem?_map, List.getElem?_map, List.getElem?_range hk]
      rfl
    have lt : ts.length ≤ 2 * i := by
      have := congrArg List.length ht
      rw [List.length_map] at this
      rw [this]
      exact rollA_len _ _ _
    have hpb' := hS _ _ hpb
    refine ⟨_, rfl, _, rfl, _, rfl, pb, _, _, _, rfl, rfl, SqL.of hpb', atI_int (k := fi + 2 * i) (by omega) gb, _, rfl, _, _, rfl, rfl, pr, ts, _, rfl, tl, by omega, fun ts1 H1 b1 tl1 ht1 => ?_⟩
    have S1 := Bt.same hS b1 hr0
    have st1 := st.same S1
    have hpb1 := S1 _ _ hpb
    have lt1 : ts1.length ≤ 2 * i + 1 := by
      have := congrArg List.length ht1
      rw [List.length_map, List.length_append, List.length_map] at this
      have := ldP_len (bgA (ps.map (·.2)) (fi + 2 * i) - rEnd (ps.map (·.2)) fi i)
      omega
    refine ⟨_, rfl, .inl ⟨rfl, _, SqL.of tl1.1⟩, _, rfl, (by show 2 ≤ sizeLine; decide), fun pt hpt => ?_⟩
    have s2 := Same.new hpt (.tup [.str stripS, .int ((fi : Int) + (i : Int) * 2)])
    have tl2 := tl1.same s2
    refine ⟨pr, _, _, rfl, rfl, tl2.1, by rw [List.length_map]; omega, ?_⟩
    have ez : (fi : Int) + (i : Int) * 2 = ((fi + 2 * i : Nat) : Int) := by omega
    have S3 := Bt.same (S1.trans s2) (Bt.upd (o := .lst ((ts1.map fun x => V.ref x.1) ++ [.ref pt]))) hr0
    have tl3 := tl2.push (pt := pt) (c := ⟨false, ((fi + 2 * i : Nat) : Int)⟩) (by rw [← ez]; exact upd_same)
    have st3 := st.same S3
    obtain ⟨a3, g3, h3, _⟩ := st3.get hk
    refine ⟨_, rfl, _, rfl, pb, _, _, _, rfl, rfl, SqL.of (S3 _ _ hpb), atI_int (k := fi + 2 * i) (by omega) gb, _, rfl, _, rfl, p, _, _, _, rfl, rfl, SqL.of st3.1, atI_int (k := fi + 2 * i) (by omega) g3, a3, _, rfl, h3, _, _, rfl, rfl, _, ts1 ++ [(pt, (⟨false, ((fi + 2 * i : Nat) : Int)⟩ : Th))], rfl, S3, tl3, ?_⟩
    rw [List.map_append, ht1, ht]
    rfl
  · rintro σ H' ⟨o, ts, rfl, hS, tl, ht⟩
    have lt : ts.length ≤ 2 * manyA (ps.map (·.2)) fi := by
      have := congrArg List.length ht
      rw [List.length_map] at this
      rw [this]
      exact rollA_len _ _ _
    have lm : manyA (ps.map (·.2)) fi ≤ ps.length + 1 := by
      unfold manyA
      rw [hm2]
      omega
    refine ⟨_, rfl, _, rfl, p, ps, rfl, st.same hS, hl, fun H1 s1 => ⟨_, rfl, _, _, rfl, rfl, pr, ts, _, rfl, tl.same s1, by omega, fun ts2 H2 b2 tl2 ht2 => ⟨_, rfl, ?_⟩⟩⟩
    refine q pr ts2 H2 (Bt.same (hS.trans s1) b2 hr0) hr0 tl2 ?_
    rw [ht2, ht]
    unfold fullA
    rw [hm2]
/-! ### rolls -/
def spRolls (C : Addr) : Sp := fun vs H Q E => ∃ (p : Addr) (ps : List (Addr × Clip)) (ld : Int), vs = [.ref p, .int ld] ∧ ST H p ps ∧ ps.length ≤ 100000 ∧
  ((∀ k, ¬ Short (ps.map (·.2)) ld k) → ∀ t l0 l1 ts0 ts1 H', Same H H' → H l0 = none → H l1 = none → l0 ≠ l1 → H' t = some (.tup [.ref l0, .ref l1]) → TL H' l0 ts0 → TL H' l1 ts1 → ts0.map (·.2) = fullA (ps.map (·.2)) 0 → ts1.map (·.2) = fullA (ps.map (·.2)) 1 → Q (.ref t) H') ∧
  (∀ (k : Nat) (z : Int) H' dx, z = k → FirstS (ps.map (·.2)) ld k → Same H H' → H' dx = some (xdO dx [("number", .int z)]) → E (.ref C) (some dx) H')
theorem scRolls : FnScope ["strips", "leader", "begins"] ["strips", "leader"] (defScope s_rolls) := ⟨rfl, rfl, rfl, by decide +kernel, rfl, by decide +kernel, by decide +kernel⟩
theorem ok_rolls {f C : Addr} {fd : FuncData} (F : Fun K "rolls" "rolls" s_rolls f fd) (dNear : Def P w K mg base (CX1 P w) "refuse_near" 3 ["strips", "leader"] (spNear C)) (dBg : Def P w K mg base CX0 "begins_of" 2 ["strips"] spBg) (dLaid : Def P w K mg base CX0 "laid" 3 ["strips", "begins", "first"] spLaid) :
    FnOk P w K mg base (CX1 P w) 4 f fd ["strips", "leader"] (spRolls C) := by
  refine F.okX scRolls (fun vs H Q E h => ?_) (fun cdv A outer s0 H vs Q E hr h => ?_)
  · obtain ⟨p, ps, ld, rfl, _⟩ := h
    rfl
  obtain ⟨p, ps, ld, rfl, st, hl, q, e⟩ := h
  refine useQ (ss_cons (s_expr (e_call dNear hr passX (a_cons (e_v 0) (a_cons (e_v 1) a_nil))))
    (ss_cons (s_set (i := 2) scRolls.nd (e_call dBg hr pass0 (a_cons (e_v 0) a_nil)))
    (ss_one (s_ret (e_tup (a_cons (e_call dLaid hr pass0 (a_cons (e_v 0) (a_cons (e_v 2) (a_cons e_int a_nil)))) (a_cons (e_call dLaid hr pass0 (a_cons (e_v 0) (a_cons (e_v 2) (a_cons e_int a_nil)))) a_nil))))))) ?_
  refine ⟨_, rfl, _, rfl, p, ps, ld, rfl, st, hl, fun hn H1 s1 => ?_, e⟩
  have st1 := st.same s1
  refine ⟨_, rfl, p, ps, rfl, st1, hl, fun pb H2 s2 hpb0 hpb => ?_⟩
  have st2 := st1.same s2
  refine ⟨_, rfl, _, rfl, p, pb, ps, 0, rfl, st2, hl, by decide, hpb, fun l0 ts0 H3 s3 hl0 tl0 ht0 => ?_⟩
  refine ⟨_, rfl, _, rfl, p, pb, ps, 1, rfl, st2.same s3, hl, by decide, s3 _ _ hpb, fun l1 ts1 H4 s4 hl1 tl1 ht1 => ?_⟩
  refine ⟨(by show 2 ≤ sizeLine; decide), fun t ht => ?_⟩
  have s5 := Same.new ht (.tup [.ref l0, .ref l1])
  have S2 := s1.trans s2
  refine q hn t l0 l1 ts0 ts1 _ (((S2.trans s3).trans s4).trans s5) (S2.free hl0) ((S2.trans s3).free hl1) (fun z => ?_) upd_same ((tl0.same s4).same s5) (tl1.same s5) ht0 ht1
  rw [← z, tl0.1] at hl1
  cases hl1
end
end K32

set_option linter.all false
set_option maxRecDepth 100000
set_option maxHeartbeats 1000000
namespace K32
open PySem L2 G KS
section
variable {P : Program} {w : World} {K : PySem.W.Frag} {mg : Str → Option Value} {base : Heap}
def spCan : Sp := fun vs H Q _ => ∃ (p : Addr) (c : Clip) (r : Str) (n : Int), vs = [.ref p, .str r, .int n] ∧ H p = some (.tup c.vs) ∧ Q (.bl (decide (can c ⟨r, n, 0⟩))) H
theorem scCan : FnScope ["strip", "reel", "number"] ["strip", "reel", "number"] (defScope s_can_have) := ⟨rfl, rfl, rfl, by decide +kernel, rfl, by decide +kernel, by decide +kernel⟩
theorem ok_can {f : Addr} {fd : FuncData} (F : Fun K "can_have" "can_have" s_can_have f fd) (dWay : Def P w K mg base CX0 "way_of" 1 ["clip"] spWay) (n_abs : mg "abs" = none) : FnOk P w K mg base CX0 2 f fd ["strip", "reel", "number"] spCan := by
  refine F.ok scCan (fun vs H Q E h => ?_) (fun cdv A outer s H vs Q E hr h => ?_)
  · obtain ⟨p, c, r, n, rfl, _⟩ := h
    rfl
  obtain ⟨p, c, r, n, rfl, hp, q⟩ := h
  refine useQ (ss_cons (s_if (t_cmp op_ne (e_ix ix_tup (e_v 0) e_int) (e_v 1))
      (ss_one (s_ret e_bl))
      ss_nil)
    (ss_cons (s_if (t_cmp op_eq (e_ix ix_tup (e_v 0) e_int) (e_ix ix_tup (e_v 0) e_int))
      (ss_one (s_ret (e_cmp op_eq (e_b call_abs n_abs (by decide +kernel) (a_cons (e_op op_sub (e_v 2) (e_ix ix_tup (e_v 0) e_int)) a_nil)) e_int)))
      ss_nil)
    (ss_one (s_ret (e_cmp op_eq (e_v 2) (e_op op_add (e_ix ix_tup (e_v 0) e_int) (e_call dWay hr pass0 (a_cons (e_v 0) a_nil)))))))) ?_
  refine ⟨_, rfl, p, _, _, .str c.reel, rfl, rfl, SqT.of hp, atI_nat (j := 0) rfl, _, rfl, rfl, _, rfl, ?_⟩
  by_cases e : c.reel = r
  · refine iteN (by rw [decide_eq_true (by rw [e])]; rfl) ?_
    refine ⟨_, rfl, p, _, _, .int c.a, rfl, rfl, SqT.of hp, atI_nat (j := 1) rfl, _, rfl, p, _, _, .int c.b, rfl, rfl, SqT.of hp, atI_nat (j := 2) rfl, rfl, _, rfl, ?_⟩
    by_cases ab : c.a = c.b
    · refine iteY (decide_eq_true (by rw [ab])) ?_
      refine ⟨_, rfl, _, rfl, p, _, _, .int c.b, rfl, rfl, SqT.of hp, atI_nat (j := 2) rfl, _, _, rfl, rfl, _, rfl, rfl, ?_⟩
      have z : decide (can c ⟨r, n, 0⟩) = decide (V.int (if n - c.b < 0 then -(n - c.b) else n - c.b) = V.int 1) := by
        rw [decide_eq_decide]
        unfold can goes
        rw [if_pos ab]
        simp only [V.int.injEq]
        constructor
        · rintro ⟨_, h⟩
          split <;> omega
        · intro h
          refine ⟨e, ?_⟩
          split at h <;> omega
      rw [← z]
      exact q
    · refine iteN (decide_eq_false (by intro z; exact ab (V.int.inj z))) ?_
      refine ⟨_, rfl, _, rfl, p, _, _, .int c.b, rfl, rfl, SqT.of hp, atI_nat (j := 2) rfl, _, rfl, p, c, rfl, hp, _, _, rfl, rfl, rfl, ?_⟩
      have z : decide (can c ⟨r, n, 0⟩) = decide (V.int n = V.int (c.b + c.way)) := by
        rw [decide_eq_decide]
        unfold can goes
        rw [if_neg ab]
        simp only [V.int.injEq]
        exact ⟨fun h => h.2, fun h => ⟨e, h⟩⟩
      rw [← z]
      exact q
  · refine iteY (by rw [decide_eq_false (by intro z; exact e (V.str.inj z))]; rfl) ?_
    have z : decide (can c ⟨r, n, 0⟩) = false := decide_eq_false fun h => e h.1
    rw [z] at q
    exact q
def spTake : Sp := fun vs H Q _ => ∃ (pl : Addr) (rs : List (Addr × Clip)) (r : Str) (n : Int), vs = [.ref pl, .str r, .int n] ∧ SL H pl rs ∧ rs.length ≤ 1000000 ∧
  ∀ (rs' : List (Addr × Clip)) (H' : Hp), Bt pl H H' → SL H' pl rs' → rs'.map (·.2) = stepR (rs.map (·.2)) ⟨r, n, 0⟩ → Q .non H'
theorem scTake : FnScope ["strips", "reel", "number"] ["strips", "reel", "number"] (defScope s_take_frame) := ⟨rfl, rfl, rfl, by decide +kernel, rfl, by decide +kernel, by decide +kernel⟩
theorem ok_take {f : Addr} {fd : FuncData} (F : Fun K "take_frame" "take_frame" s_take_frame f fd) (dCan : Def P w K mg base CX0 "can_have" 2 ["strip", "reel", "number"] spCan) : FnOk P w K mg base CX0 3 f fd ["strips", "reel", "number"] spTake := by
  refine F.ok scTake (fun vs H Q E h => ?_) (fun cdv A outer s H vs Q E hr h => ?_)
  · obtain ⟨pl, rs, r, n, rfl, _⟩ := h
    rfl
  obtain ⟨pl, rs, r, n, rfl, sl, hlen, q⟩ := h
  refine useQ (ss_one (s_if (t_w (w_and (t_tru (e_v 0)) (w_and1 (t_val (e_call dCan hr pass0 (a_cons (e_ix ix_list (e_v 0) (e_un un_neg e_int)) (a_cons (e_v 1) (a_cons (e_v 2) a_nil))))))))
      (ss_one (s_asg (e_op op_catG (e_sl sl_tupG (e_ix ix_list (e_v 0) (e_un un_neg e_int)) o_none (o_some e_int)) (e_tup (a_cons (e_v 2) (a_cons (e_ix ix_tup (e_ix ix_list (e_v 0) (e_un un_neg e_int)) e_int) a_nil)))) (g_sub (e_v 0) (e_un un_neg e_int))))
      (ss_one (s_expr (e_append (e_v 0) (e_tup (a_cons (e_v 1) (a_cons (e_v 2) (a_cons (e_v 2) (a_cons e_int a_nil)))))))))) ?_
  have zl : sizeLine = 16777216 := sizeLine_eq
  have push : ∀ {H1 : Hp}, SL H1 pl rs → Same H H1 → stepR (rs.map (·.2)) ⟨r, n, 0⟩ = ⟨r, n, n, 0⟩ :: rs.map (·.2) → ∀ pt, H1 pt = none → Q .non (upd (upd H1 pt (.tup (Clip.vs ⟨r, n, n, 0⟩))) pl (.lst ((rs.reverse.map fun x => V.ref x.1) ++ [.ref pt]))) := by
    intro H1 sl1 s1 e pt hpt
    have st := Same.new hpt (.tup (Clip.vs ⟨r, n, n, 0⟩))
    exact q _ _ ((Bt.of (s1.trans st)).trans Bt.upd) ((sl1.same st).push (c := ⟨r, n, n, 0⟩) upd_same) e.symm
  cases rs with
  | nil =>
    refine ⟨_, rfl, false, ?_, iteF ?_⟩
    · exact .inl ⟨_, SqL.of sl.1, rfl⟩
    refine ⟨_, rfl, .inl ⟨rfl, _, SqL.of sl.1⟩, _, rfl, _, rfl, _, rfl, (by show 4 ≤ sizeLine; decide), fun pt hpt => ?_⟩
    exact ⟨pl, _, _, rfl, rfl, Same.new hpt _ _ _ sl.1, (by decide), push sl (Same.refl _) rfl pt hpt⟩
  | cons x rs =>
    refine ⟨_, rfl, true, ?_, iteT ?_⟩
    · refine .inl ⟨_, SqL.of sl.1, ?_⟩
      rw [List.reverse_cons, List.map_append]
      simp
    have hx := sl.2 x (List.mem_cons_self ..)
    refine ⟨_, rfl, _, rfl, pl, _, _, .ref x.1, rfl, rfl, SqL.of sl.1, SL.last (H := H) (p := pl), _, rfl, _, rfl, x.1, x.2, r, n, rfl, hx, _, rfl, ?_⟩
    by_cases e : can x.2 ⟨r, n, 0⟩
    · refine iteY (decide_eq_true e) ?_
      refine ⟨_, rfl, _, rfl, pl, _, _, .ref x.1, rfl, rfl, SqL.of sl.1, SL.last (H := H) (p := pl), _, rfl, x.1, _, rfl, hx, fun p1 H1 s1 hp1 => ?_⟩
      refine ⟨_, rfl, _, rfl, _, rfl, pl, _, _, .ref x.1, rfl, rfl, SqL.of (s1 _ _ sl.1), SL.last (H := H) (p := pl), x.1, _, _, .int x.2.f, rfl, rfl, SqT.of (s1 _ _ hx), atI_nat (j := 3) rfl, (by show 2 ≤ sizeLine; decide), fun p2 hp2 => ?_⟩
      have s2 := Same.new hp2 (.tup [.int n, .int x.2.f])
      refine ⟨p1, p2, _, _, rfl, rfl, s2 _ _ hp1, upd_same, (by show 2 + 2 ≤ sizeLine; decide), fun p3 H3 s3 hp3 => ?_⟩
      have S3 := (s1.trans s2).trans s3
      have sl3 := sl.same S3
      have hl : (((x :: rs).reverse.map fun x => V.ref x.1)).length = rs.length + 1 := by rw [List.length_map, List.length_reverse]; rfl
      refine ⟨_, rfl, _, rfl, pl, _, _, rs.length, rfl, rfl, sl3.1, ?_, ?_⟩
      · have := ixN_last (n := (((x :: rs).reverse.map fun x => V.ref x.1)).length) (by rw [hl]; exact Nat.succ_pos _)
        rw [hl] at this ⊢
        exact this
      · have e2 : (((x :: rs).reverse.map fun x => V.ref x.1)).set rs.length (V.ref p3) = (rs.reverse.map fun x => V.ref x.1) ++ [.ref p3] := by
          rw [List.reverse_cons, List.map_append]
          have : rs.length = (rs.reverse.map fun x => V.ref x.1).length := by rw [List.length_map, List.length_reverse]
          rw [this, List.set_append_right _ _ (Nat.le_refl _), Nat.sub_self]
          rfl
        rw [e2]
        refine q ((p3, ⟨x.2.reel, x.2.a, n, x.2.f⟩) :: rs) _ ((Bt.of S3).trans Bt.upd) (sl3.put (c := ⟨x.2.reel, x.2.a, n, x.2.f⟩) hp3) ?_
        rw [List.map_cons, List.map_cons, stepR_cons, if_pos ⟨Int.le_refl 0, e⟩]
    · refine iteN (decide_eq_false e) ?_
      refine ⟨_, rfl, .inl ⟨rfl, _, SqL.of sl.1⟩, _, rfl, _, rfl, _, rfl, (by show 4 ≤ sizeLine; decide), fun pt hpt => ?_⟩
      refine ⟨pl, _, _, rfl, rfl, Same.new hpt _ _ _ sl.1, ?_, push sl (Same.refl _) ?_ pt hpt⟩
      · rw [List.length_map, List.length_reverse]
        omega
      · rw [List.map_cons, stepR_cons, if_neg fun z => e z.2]
def spStrips : Sp := fun vs H Q _ => ∃ (pc : Addr) (ps : List (Addr × Clip)) (n : Nat), vs = [.ref pc] ∧ CL 1000 n H pc ps ∧ n ≤ 1000000 ∧ ps.length ≤ 100 ∧
  ∀ (l : Addr) (rs : List (Addr × Clip)) (H' : Hp), Same H H' → H l = none → SL H' l rs → rs.map (·.2) = stripsR (moments (ps.map (·.2))) → Q (.ref l) H'
theorem scStrips : FnScope ["clips", "strips", "clip", "numbers", "number"] ["clips"] (defScope s_strips_of) := ⟨rfl, rfl, rfl, by decide +kernel, rfl, by decide +kernel, by decide +kernel⟩
theorem ok_strips {f : Addr} {fd : FuncData} (F : Fun K "strips_of" "strips_of" s_strips_of f fd) (dNos : Def P w K mg base CX0 "numbers_of" 2 ["clip"] spFr) (dTake : Def P w K mg base CX0 "take_frame" 3 ["strips", "reel", "number"] spTake) : FnOk P w K mg base CX0 4 f fd ["clips"] spStrips := by
  refine F.ok scStrips (fun vs H Q E h => ?_) (fun cdv A outer s H vs Q E hr h => ?_)
  · obtain ⟨pc, ps, n, rfl, _⟩ := h
    rfl
  obtain ⟨pc, ps, N, rfl, cl, hN, hpl, q⟩ := h
  refine useQ (ss_cons (s_set (i := 1) scStrips.nd (e_lst a_nil))
    (ss_cons (s_for PassesOwn.never rfl (i_list (e_v 0)) (g_name (i := 2) scStrips.nd)
      (ss_cons (s_set (i := 3) scStrips.nd (e_call dNos hr pass0 (a_cons (e_v 2) a_nil)))
      (ss_cons (s_cut (s_if (t_cmp op_gt (e_ix ix_tup (e_v 2) e_int) e_int)
        (ss_cons (s_expr (e_append (e_v 1) (e_tup (a_cons (e_ix ix_tup (e_v 2) e_int) (a_cons (e_ix ix_tup (e_v 2) e_int) (a_cons (e_ix ix_tup (e_v 2) e_int) (a_cons (e_ix ix_tup (e_v 2) e_int) a_nil)))))))
        (ss_one (s_set (i := 3) scStrips.nd (e_sl sl_list (e_v 3) (o_some e_int) o_none))))
        ss_nil))
      (ss_one (s_for PassesOwn.never rfl (i_list (e_v 3)) (g_name (i := 4) scStrips.nd)
        (ss_one (s_expr (e_call dTake hr pass0 (a_cons (e_v 1) (a_cons (e_ix ix_tup (e_v 2) e_int) (a_cons (e_v 4) a_nil)))))))))))
    (ss_one (s_ret (e_v 1))))) ?_
  have zl : sizeLine = 16777216 := sizeLine_eq
  refine ⟨(by show 0 ≤ sizeLine; decide), fun pl hp => ?_⟩
  have s0 := Same.new hp (.lst [])
  have bound : ∀ i, (stripsR (moments ((ps.take i).map (·.2)))).length ≤ 100000 := by
    intro i
    have h1 := len_fold (moments ((ps.take i).map (·.2))) []
    have h2 := moments_len (m := 1000) ((ps.take i).map (·.2)) fun c hc => by
      obtain ⟨x, hx, rfl⟩ := List.mem_map.mp hc
      exact (cl.2 x (List.mem_of_mem_take hx)).2.d
    rw [List.length_map, List.length_take] at h2
    have h3 : 1000 * min i ps.length ≤ 1000 * 100 := Nat.mul_le_mul_left _ (by omega)
    show (List.foldl stepR [] _).length ≤ _
    rw [List.length_nil] at h1
    omega
  refine ⟨_, rfl, pc, rfl, ⟨_, SqL.of (s0 _ _ cl.1)⟩, for_list (xs := ps.map fun x => V.ref x.1) (fun i σ H' => ∃ (rs : List (Addr × Clip)) (o2 o3 o4 : Option V), σ = [some (.ref pc), some (.ref pl), o2, o3, o4] ∧ SL H' pl rs ∧ rs.map (·.2) = stripsR (moments ((ps.take i).map (·.2))) ∧ Same H H')
    ⟨[], none, none, none, rfl, SL.nil upd_same, rfl, s0⟩ ?_ ?_ ?_⟩
  · rintro i σ H' hi ⟨rs, o2, o3, o4, rfl, sl, er, hS⟩
    exact SqL.of (hS _ _ cl.1)
  · rintro i x σ H' hx ⟨rs, o2, o3, o4, rfl, sl, er, hS⟩
    rw [List.getElem?_map] at hx
    cases hz : ps[i]? with
    | none => rw [hz] at hx; cases hx
    | some z =>
      rw [hz] at hx
      cases hx
      obtain ⟨hc, ok⟩ := cl.2 z (List.mem_of_getElem? hz)
      have hc := hS _ _ hc
      have ek : stripsR (moments ((ps.take (i + 1)).map (·.2))) = z.2.ms.foldl stepR (rs.map (·.2)) := by
        rw [List.take_add_one, hz, List.map_append]
        show stripsR (moments (_ ++ [z.2])) = _
        unfold stripsR at er ⊢
        rw [moments_app, moments_one, List.foldl_append, er]
      have hrl : rs.length ≤ 100000 := by
        have := bound i
        rw [← er, List.length_map] at this
        exact this
      have hd := ok.d
      refine ⟨_, rfl, z.1, z.2, rfl, hc, ok.sm hN, fun l1 hl1 => ?_⟩
      have s1 := Same.new hl1 (.lst (z.2.nums.map V.int))
      have sl1 := sl.same s1
      refine ⟨fun σ' H1 => ∃ (rs1 : List (Addr × Clip)) (ln : Addr) (xs : List Int) (o4 : Option V), σ' = [some (.ref pc), some (.ref pl), some (.ref z.1), some (.ref ln), o4] ∧ SL H1 pl rs1 ∧ H1 ln = some (.lst (xs.map V.int)) ∧ ln ≠ pl ∧ rs1.length + xs.length ≤ 102000 ∧ z.2.ms.foldl stepR (rs.map (·.2)) = (xs.map fun n => (⟨z.2.reel, n, 0⟩ : Mo)).foldl stepR (rs1.map (·.2)) ∧ Bt pl H' H1, ?_, ?_⟩
      · refine ⟨_, rfl, z.1, _, _, .int z.2.f, rfl, rfl, SqT.of (s1 _ _ hc), atI_nat (j := 3) rfl, _, _, rfl, rfl, _, rfl, ?_⟩
        have nel : l1 ≠ pl := fun e => by rw [e, sl.1] at hl1; cases hl1
        refine ite2 (fun y => ?_) (fun y => ?_)
        · have y := of_decide_eq_true y
          refine ⟨_, rfl, .inl ⟨rfl, _, SqL.of sl1.1⟩, _, rfl, z.1, _, _, .str z.2.reel, rfl, rfl, SqT.of (s1 _ _ hc), atI_nat (j := 0) rfl, _, rfl, z.1, _, _, .int z.2.a, rfl, rfl, SqT.of (s1 _ _ hc), atI_nat (j := 1) rfl, _, rfl, z.1, _, _, .int z.2.a, rfl, rfl, SqT.of (s1 _ _ hc), atI_nat (j := 1) rfl, _, rfl, z.1, _, _, .int z.2.f, rfl, rfl, SqT.of (s1 _ _ hc), atI_nat (j := 3) rfl, (by show 4 ≤ sizeLine; decide), fun pt hpt => ?_⟩
          have s2 := Same.new hpt (.tup (Clip.vs ⟨z.2.reel, z.2.a, z.2.a, z.2.f⟩))
          refine ⟨pl, _, _, rfl, rfl, s2 _ _ sl1.1, by rw [List.length_map, List.length_reverse]; omega, ?_⟩
          have hl2 : upd (upd (upd H' l1 (.lst (z.2.nums.map V.int))) pt (.tup (Clip.vs ⟨z.2.reel, z.2.a, z.2.a, z.2.f⟩))) pl (.lst ((rs.reverse.map fun x => V.ref x.1) ++ [.ref pt])) l1 = some (.lst (z.2.nums.map V.int)) := by
            rw [upd_ne nel]
            exact s2 _ _ upd_same
          refine ⟨_, rfl, _, rfl, l1, _, rfl, SqL.of hl2, fun l3 hl3 => ?_⟩
          rw [show cutV (z.2.nums.map V.int) (some 1) none = (z.2.nums.drop 1).map V.int from cut_drop V.int z.2.nums 1] at *
          have s3 := Same.new hl3 (.lst ((z.2.nums.drop 1).map V.int))
          have slp := ((sl1.same s2).push (c := ⟨z.2.reel, z.2.a, z.2.a, z.2.f⟩) upd_same)
          refine ⟨_, l3, z.2.nums.drop 1, _, rfl, slp.same s3, upd_same, ?_, ?_, ?_, ?_⟩
          · intro e
            rw [e, upd_same] at hl3
            cases hl3
          · rw [List.length_cons, List.length_drop, Clip.nums_len]
            omega
          · rw [ms_head, List.foldl_cons, stepR_new y]
            rfl
          · exact ((Bt.of (s1.trans s2)).trans Bt.upd).trans (Bt.of s3)
        · have y : ¬ 0 < z.2.f := fun k => y (decide_eq_true k)
          have f0 := ok.f0
          exact ⟨rs, l1, z.2.nums, _, rfl, sl1, upd_same, nel, by rw [Clip.nums_len]; omega, by rw [ms_zero (by omega)], Bt.of s1⟩
      rintro σ H1 ⟨rs1, ln, xs, o4', rfl, sl1, hln, nel, hlen, ef, bt⟩
      have hc1 : H1 z.1 = some (.tup z.2.vs) := bt _ _ (sl.ne hc) hc
      refine ⟨_, rfl, ln, rfl, ⟨_, SqL.of hln⟩, for_list (xs := xs.map V.int) (fun j σ H2 => ∃ (rs2 : List (Addr × Clip)) (o4 : Option V), σ = [some (.ref pc), some (.ref pl), some (.ref z.1), some (.ref ln), o4] ∧ SL H2 pl rs2 ∧ H2 ln = some (.lst (xs.map V.int)) ∧ rs2.map (·.2) = ((xs.take j).map fun n => (⟨z.2.reel, n, 0⟩ : Mo)).foldl stepR (rs1.map (·.2)) ∧ Bt pl H1 H2)
        ⟨rs1, _, rfl, sl1, hln, rfl, Bt.refl _ _⟩ ?_ ?_ ?_⟩
      · rintro j σ H2 hj ⟨rs2, o4, rfl, sl2, hl2, er2, bt2⟩
        exact SqL.of hl2
      · rintro j y σ H2 hy ⟨rs2, o4, rfl, sl2, hl2, er2, bt2⟩
        rw [List.getElem?_map] at hy
        cases hu : xs[j]? with
        | none => rw [hu] at hy; cases hy
        | some u =>
          rw [hu] at hy
          cases hy
          have hc2 := bt2 _ _ (sl1.ne hc1) hc1
          have hrl2 : rs2.length ≤ 1000000 := by
            have e := congrArg List.length er2
            rw [List.length_map] at e
            have h1 := len_fold ((xs.take j).map fun n => (⟨z.2.reel, n, 0⟩ : Mo)) (rs1.map (·.2))
            rw [List.length_map, List.length_map, List.length_take] at h1
            omega
          refine ⟨_, rfl, _, rfl, z.1, _, _, .str z.2.reel, rfl, rfl, SqT.of hc2, atI_nat (j := 0) rfl, _, rfl, pl, rs2, z.2.reel, u, rfl, sl2, hrl2, fun rs3 H3 b3 sl3 e3 => ?_⟩
          refine ⟨rs3, _, rfl, sl3, b3 _ _ nel hl2, ?_, bt2.trans b3⟩
          rw [e3, er2, List.take_add_one, hu, List.map_append, List.foldl_append]
          rfl
      · rintro σ H2 ⟨rs2, o4, rfl, sl2, hl2, er2, bt2⟩
        rw [List.length_map, List.take_length] at er2
        exact ⟨rs2, _, _, _, rfl, sl2, by rw [ek, ef, er2], Bt.same hS (bt.trans bt2) hp⟩
  · rintro σ H' ⟨rs, o2, o3, o4, rfl, sl, er, hS⟩
    rw [List.length_map, List.take_length] at er
    exact ⟨_, rfl, q pl rs H' hS hp sl er⟩
end
end K32

set_option linter.all false
set_option maxRecDepth 100000
set_option maxHeartbeats 2000000
namespace K32
open PySem L2 G KS
section
variable {P : Program} {w : World} {K : PySem.W.Frag} {mg : Str → Option Value} {base : Heap}
theorem scLFr : FnScope ["_law_clip_here"] ["_law_clip_here"] (defScope s__law_frames) := ⟨rfl, rfl, rfl, by decide +kernel, rfl, by decide +kernel, by decide +kernel⟩
theorem ok_lfr {f : Addr} {fd : FuncData} (F : Fun K "_law_frames" "_law_frames" s__law_frames f fd) (n_abs : mg "abs" = none) : FnOk P w K mg base CX0 1 f fd ["_law_clip_here"] spFin := by
  refine F.ok scLFr (fun vs H Q E h => ?_) (fun cdv A outer s H vs Q E hr h => ?_)
  · obtain ⟨p, c, rfl, _⟩ := h
    rfl
  obtain ⟨p, c, rfl, hp, q⟩ := h
  refine useQ (ss_one (s_ret (e_op op_add (e_b call_abs n_abs (by decide +kernel) (a_cons (e_op op_sub (e_ix ix_tup (e_v 0) e_int) (e_ix ix_tup (e_v 0) e_int)) a_nil)) e_int))) ?_
  refine ⟨_, rfl, p, _, _, .int c.b, rfl, rfl, SqT.of hp, atI_nat (j := 2) rfl, _, rfl, p, _, _, .int c.a, rfl, rfl, SqT.of hp, atI_nat (j := 1) rfl, _, _, rfl, rfl, _, rfl, _, _, rfl, rfl, ?_⟩
  have e : (if c.b - c.a < 0 then -(c.b - c.a) else c.b - c.a) + 1 = (c.cnt : Int) := by
    unfold Clip.cnt
    split <;> omega
  show Q (.int ((if c.b - c.a < 0 then -(c.b - c.a) else c.b - c.a) + 1)) H
  rw [e]
  exact q
def spClip : Sp := fun vs H Q _ => ∃ (pf : Addr) (c : Int) (n : Nat) (ps : List (Addr × Clip)) (N : Nat), vs = [.ref pf, .int c, .int (n : Int)] ∧ n ≤ 1000 ∧ CL 12 N H pf ps ∧ 30 ≤ N ∧ N ≤ 500000 ∧
  ∀ (p : Addr) (c : Clip) (H' : Hp), Same H H' → H p = none → H' p = some (.tup c.vs) → COk 12 (N + 20) c → (ps = [] → c.f = 0) → (∀ L x, ps = L ++ [x] → c.f ≤ x.2.cnt - x.2.f) → Q (.ref p) H'
/-- what is known of a clip's parts so far -/
structure Pt (N : Nat) (ps : List (Addr × Clip)) (r : Str) (fi sz fa : Int) : Prop where
  rl : r.length ≤ 100
  rf : Fine r
  i0 : -1 ≤ fi
  i1 : fi ≤ N + 1
  f0 : 0 ≤ fa
  f1 : fa ≤ sz
  f2 : ps = [] → fa = 0
  f3 : ∀ L x, ps = L ++ [x] → fa ≤ x.2.cnt - x.2.f
theorem fine3 : ∀ s ∈ (["a", "bo", "reel"] : List Str), s.length ≤ 100 ∧ Fine s := by
  intro s hs
  simp only [List.mem_cons, List.not_mem_nil, or_false] at hs
  rcases hs with rfl | rfl | rfl <;> exact ⟨by decide, by decide +kernel⟩
theorem scClip : FnScope ["_law_clips_here", "_law_cell_here", "_law_at", "_law_xs", "_law_reel", "_law_first", "_law_size", "_law_way", "_law_fade", "_law_ahead", "_law_last"] ["_law_clips_here", "_law_cell_here", "_law_at"] (defScope s__law_clip) := ⟨rfl, rfl, rfl, by decide +kernel, rfl, by decide +kernel, by decide +kernel⟩
theorem ok_clip {f : Addr} {fd : FuncData} (F : Fun K "_law_clip" "_law_clip" s__law_clip f fd) (dNum : Def P w K mg base CX0 "_law_numbers" 1 ["_law_cell_here", "_law_many"] spNum) (dLFr : Def P w K mg base CX0 "_law_frames" 1 ["_law_clip_here"] spFin) (n_abs : mg "abs" = none) (n_min : mg "min" = none) : FnOk P w K mg base CX0 2 f fd ["_law_clips_here", "_law_cell_here", "_law_at"] spClip := by
  refine F.ok scClip (fun vs H Q E h => ?_) (fun cdv A outer s H vs Q E hr h => ?_)
  · obtain ⟨pf, c, n, ps, N, rfl, _⟩ := h
    rfl
  obtain ⟨pf, c, n, ps, N, rfl, hn, cl, N1, N2, q⟩ := h
  refine useQ (ss_cons (s_set (i := 3) scClip.nd (e_call dNum hr pass0 (a_cons (e_op op_add (e_op op_mul (e_v 1) e_int) (e_op op_mul (e_op op_mul (e_v 2) (e_v 2)) (e_v 2))) (a_cons e_int a_nil))))
    (ss_cons (s_set (i := 4) scClip.nd (e_ix ix_list (e_lstS ["a", "bo", "reel"]) (e_op op_mod (e_ix ix_list (e_v 3) e_int) e_int)))
    (ss_cons (s_set (i := 5) scClip.nd (e_op op_mod (e_ix ix_list (e_v 3) e_int) e_int))
    (ss_cons (s_set (i := 6) scClip.nd (e_op op_add e_int (e_op op_mod (e_ix ix_list (e_v 3) e_int) (e_ix ix_list (e_lst (a_cons e_int (a_cons e_int a_nil))) (e_op op_mod (e_ix ix_list (e_v 3) e_int) e_int)))))
    (ss_cons (s_set (i := 7) scClip.nd (e_ix ix_list (e_lst (a_cons e_int (a_cons (e_un un_neg e_int) a_nil))) (e_op op_mod (e_op op_fdiv (e_ix ix_list (e_v 3) e_int) e_int) e_int)))
    (ss_cons (s_set (i := 8) scClip.nd e_int)
    (ss_cons (s_cut (s_if (t_w (w_and (t_cmp (op_neD hr) (e_v 0) (e_lst a_nil)) (w_and1 (t_cmp op_lt (e_op op_mod (e_ix ix_list (e_v 3) e_int) e_int) e_int))))
      (ss_one (s_set (i := 8) scClip.nd (e_op op_add e_int (e_op op_mod (e_ix ix_list (e_v 3) e_int) e_int))))
      ss_nil))
    (ss_cons (s_cut (s_if (t_cmp (op_neD hr) (e_v 0) (e_lst a_nil))
      (ss_cons (s_set (i := 9) scClip.nd (e_ix ix_list (e_v 0) (e_un un_neg e_int)))
      (ss_cons (s_set (i := 8) scClip.nd (e_b (call_min3 rfl) n_min (by decide +kernel) (a_cons (e_v 8) (a_cons (e_v 6) (a_cons (e_op op_sub (e_call dLFr hr pass0 (a_cons (e_v 9) a_nil)) (e_ix ix_tup (e_v 9) e_int)) a_nil)))))
      (ss_one (s_if (t_cmp op_eq (e_op op_mod (e_ix ix_list (e_v 3) e_int) e_int) e_int)
        (ss_cons (s_set (i := 4) scClip.nd (e_ix ix_tup (e_v 9) e_int))
        (ss_one (s_set (i := 5) scClip.nd (e_op op_add (e_ix ix_tup (e_v 9) e_int) (e_v 7)))))
        ss_nil))))
      ss_nil))
    (ss_cons (s_set (i := 10) scClip.nd (e_op op_add (e_v 5) (e_op op_mul (e_v 7) (e_op op_sub (e_v 6) e_int))))
    (ss_cons (s_cut (s_if (t_w (w_or (t_cmp op_lt (e_v 5) e_int) (w_or1 (t_cmp op_lt (e_v 10) e_int))))
      (ss_one (s_par (i := 5) (j := 10) scClip.nd (e_b call_abs n_abs (by decide +kernel) (a_cons (e_v 5) a_nil)) (e_op op_sub (e_op op_add (e_b call_abs n_abs (by decide +kernel) (a_cons (e_v 5) a_nil)) (e_v 6)) e_int)))
      ss_nil))
    (ss_one (s_ret (e_tup (a_cons (e_v 4) (a_cons (e_v 5) (a_cons (e_v 10) (a_cons (e_v 8) a_nil))))))))))))))))) ?_
  have zl : sizeLine = 16777216 := sizeLine_eq
  refine ⟨_, rfl, _, _, rfl, rfl, .inr ⟨by decide, by decide⟩, _, rfl, _, rfl, _, _, rfl, rfl, .inl ⟨by omega, by omega⟩, _, rfl, _, _, rfl, rfl, .inr ⟨by omega, by omega⟩, _, _, rfl, rfl, _, 7, rfl, by decide, fun px xs H1 s1 hxl hpx0 hpx => ?_⟩
  have k0 : 0 < xs.length := by omega
  have k1 : 1 < xs.length := by omega
  have k2 : 2 < xs.length := by omega
  have k3 : 3 < xs.length := by omega
  have k4 : 4 < xs.length := by omega
  have k5 : 5 < xs.length := by omega
  have k6 : 6 < xs.length := by omega
  -- reel
  refine ⟨(by show 3 ≤ sizeLine; decide), fun p1 hp1 => ?_⟩
  obtain ⟨v, hv, hm⟩ := at_list (xs := ((["a", "bo", "reel"] : List Str).map V.str)) (i := xs[0] % 3) (by omega) (by show _ < (3 : Int); omega)
  obtain ⟨r0, hr0, rfl⟩ := List.mem_map.mp hm
  obtain ⟨rl0, rf0⟩ := fine3 r0 hr0
  have t1 := Same.new hp1 (.lst ((["a", "bo", "reel"] : List Str).map V.str))
  refine ⟨_, rfl, px, _, _, _, rfl, rfl, SqL.of (t1 _ _ hpx), atI_nat (j := 0) (get_int k0), _, _, rfl, rfl, (by show (0 : Int) < 3; decide), p1, _, _, .str r0, rfl, rfl, SqL.of upd_same, hv, ?_⟩
  -- first
  refine ⟨_, rfl, px, _, _, _, rfl, rfl, SqL.of (t1 _ _ hpx), atI_nat (j := 1) (get_int k1), _, _, rfl, rfl, (by show (0 : Int) < 30; decide), ?_⟩
  -- size
  refine ⟨_, rfl, px, _, _, _, rfl, rfl, SqL.of (t1 _ _ hpx), atI_nat (j := 2) (get_int k2), (by show 2 ≤ sizeLine; decide), fun p2 hp2 => ?_⟩
  obtain ⟨u, hu, hm⟩ := at_list (xs := [V.int 3, .int 12]) (i := xs[3] % 2) (by omega) (by show _ < (2 : Int); omega)
  obtain ⟨mu, rfl, d1, d2⟩ : ∃ d : Int, u = .int d ∧ 1 ≤ d ∧ d ≤ 12 := by
    simp only [List.mem_cons, List.not_mem_nil, or_false] at hm
    rcases hm with rfl | rfl <;> exact ⟨_, rfl, by decide, by decide⟩
  have t2 := Same.new hp2 (.lst [V.int 3, .int 12])
  have T2 := t1.trans t2
  have m1 := Int.emod_nonneg xs[2] (b := mu) (by omega)
  have m2 := Int.emod_lt_of_pos xs[2] (b := mu) (by omega)
  refine ⟨_, rfl, px, _, _, _, rfl, rfl, SqL.of (T2 _ _ hpx), atI_nat (j := 3) (get_int k3), _, _, rfl, rfl, (by show (0 : Int) < 2; decide), p2, _, _, .int mu, rfl, rfl, SqL.of upd_same, hu, _, _, rfl, rfl, (by show (0 : Int) < mu; omega), _, _, rfl, rfl, ?_⟩
  -- way
  refine ⟨_, rfl, (by show 2 ≤ sizeLine; decide), fun p3 hp3 => ?_⟩
  obtain ⟨u, hw, hm⟩ := at_list (xs := [V.int 1, .int (-1)]) (i := xs[3] / 2 % 2) (by omega) (by show _ < (2 : Int); omega)
  obtain ⟨wy, rfl, dw⟩ : ∃ d : Int, u = .int d ∧ (d = 1 ∨ d = -1) := by
    simp only [List.mem_cons, List.not_mem_nil, or_false] at hm
    rcases hm with rfl | rfl
    · exact ⟨_, rfl, .inl rfl⟩
    · exact ⟨_, rfl, .inr rfl⟩
  have t3 := Same.new hp3 (.lst [V.int 1, .int (-1)])
  have T3 := T2.trans t3
  refine ⟨_, rfl, px, _, _, _, rfl, rfl, SqL.of (T3 _ _ hpx), atI_nat (j := 3) (get_int k3), _, _, rfl, rfl, ⟨by decide, by decide⟩, _, _, rfl, rfl, (by show (0 : Int) < 2; decide), p3, _, _, .int wy, rfl, rfl, SqL.of upd_same, hw, ?_⟩
  have S3 := s1.trans T3
  have ne : ∀ {H' : Hp}, Same H H' → ∀ p, H' p = none → PyData.eqv (.list ((ps.map (·.2)).map Clip.d)) (.list []) = ps.isEmpty ∧ Den K (upd H' p (.lst [])) (.ref pf) (.list ((ps.map (·.2)).map Clip.d)) ∧ Den K (upd H' p (.lst [])) (.ref p) (.list []) := fun {H'} s p hp => by
    refine ⟨?_, (cl.same (s.trans (Same.new hp _))).st.den, .lst (SqL.of upd_same) .nil⟩
    rw [eqv_nilB]
    cases ps <;> rfl
  have lay : (PyData.list ((ps.map (·.2)).map Clip.d)).canLay0 = true := layL fun c hc => by
    obtain ⟨x, hx, rfl⟩ := List.mem_map.mp hc
    exact (cl.2 x hx).2.rf
  have dep := Nat.le_trans (Nat.min_le_left _ (PyData.list []).depth) (depL (ps.map (·.2)))
  -- the first if
  refine ⟨fun σ' H' => ∃ fa : Int, σ' = [some (.ref pf), some (.int c), some (.int (n : Int)), some (.ref px), some (.str r0), some (.int (xs[1] % 30)), some (.int ((1 : Int) + xs[2] % mu)), some (.int wy), some (.int fa), none, none] ∧ 0 ≤ fa ∧ (ps = [] → fa = 0) ∧ Same H H' ∧ H' px = some (.lst (xs.map V.int)), ?_, ?_⟩
  · refine ⟨_, rfl, (by show 0 ≤ sizeLine; decide), fun p4 hp4 => ?_⟩
    obtain ⟨e4, d4, d5⟩ := ne S3 p4 hp4
    have t4 := Same.new hp4 (.lst [])
    refine ⟨_, _, d4, d5, lay, rfl, dep, _, rfl, ?_⟩
    rw [e4]
    cases hps : ps with
    | nil => exact iteF ⟨0, rfl, by decide, fun _ => rfl, S3.trans t4, t4 _ _ (T3 _ _ hpx)⟩
    | cons x0 r =>
      refine iteT ⟨_, rfl, px, _, _, _, rfl, rfl, SqL.of (t4 _ _ (T3 _ _ hpx)), atI_nat (j := 4) (get_int k4), _, _, rfl, rfl, (by show (0 : Int) < 5; decide), _, _, rfl, rfl, _, rfl, ?_⟩
      refine ite2 (fun _ => ?_) (fun _ => ⟨0, rfl, by decide, fun z => (by cases z), S3.trans t4, t4 _ _ (T3 _ _ hpx)⟩)
      refine ⟨_, rfl, px, _, _, _, rfl, rfl, SqL.of (t4 _ _ (T3 _ _ hpx)), atI_nat (j := 5) (get_int k5), _, _, rfl, rfl, (by show (0 : Int) < 4; decide), _, _, rfl, rfl, (1 : Int) + xs[5] % 4, rfl, by omega, fun z => (by cases z), S3.trans t4, t4 _ _ (T3 _ _ hpx)⟩
  rintro σ H4 ⟨fa, rfl, fa0, fa1, S4, hpx4⟩
  have sz1 : 1 ≤ (1 : Int) + xs[2] % mu := by omega
  have sz2 : (1 : Int) + xs[2] % mu ≤ 12 := by omega
  have b1 : 0 ≤ xs[1] % 30 := by omega
  have b2 : xs[1] % 30 < 30 := by omega
  generalize (1 : Int) + xs[2] % mu = sz at *
  generalize xs[1] % 30 = fi0 at *
  -- the second
  refine ⟨fun σ' H' => ∃ (r : Str) (fi fa : Int) (o : Option V), σ' = [some (.ref pf), some (.int c), some (.int (n : Int)), some (.ref px), some (.str r), some (.int fi), some (.int sz), some (.int wy), some (.int fa), o, none] ∧ Pt N ps r fi sz fa ∧ Same H H', ?_, ?_⟩
  · refine ⟨_, rfl, (by show 0 ≤ sizeLine; decide), fun p4 hp4 => ?_⟩
    obtain ⟨e4, d4, d5⟩ := ne S4 p4 hp4
    have t4 := Same.new hp4 (.lst [])
    refine ⟨_, _, d4, d5, lay, rfl, dep, _, rfl, ?_⟩
    rw [e4]
    rcases snoc_cases ps with hps | ⟨L, x, hps⟩
    · rw [hps]
      have z := fa1 hps
      exact iteF ⟨r0, fi0, fa, none, rfl, ⟨rl0, rf0, by omega, by omega, fa0, by omega, fun _ => z, fun L x e => by cases L <;> cases e⟩, S4.trans t4⟩
    · have he : ps.isEmpty = false := by rw [hps]; cases L <;> rfl
      rw [he]
      have S5 := S4.trans t4
      have cl5 := cl.same S5
      obtain ⟨hx, ok⟩ := cl5.2 x (by rw [hps]; simp)
      have la : atI (ps.map fun x => V.ref x.1) (-1) = some (V.ref x.1) := by
        rw [hps, List.map_append]
        exact atI_last _ _
      have f1 := ok.f1
      have b0 := ok.b0
      have bb := ok.b1
      have hpx5 := t4 _ _ hpx4
      refine iteT ⟨_, rfl, _, rfl, pf, _, _, _, rfl, rfl, SqL.of cl5.1, la, ?_⟩
      refine ⟨_, rfl, _, rfl, _, rfl, x.1, x.2, rfl, hx, _, rfl, x.1, _, _, .int x.2.f, rfl, rfl, SqT.of hx, atI_nat (j := 3) rfl, _, _, rfl, rfl, _, _, _, rfl, fun m h1 h2 h3 h4 => ?_⟩
      have hm0 : 0 ≤ m := by rcases h4 with rfl | rfl | rfl <;> omega
      have f3 : ∀ L' x', ps = L' ++ [x'] → m ≤ x'.2.cnt - x'.2.f := fun L' x' e => by
        rw [hps] at e
        have := (List.append_inj' e rfl).2
        cases this
        exact h3
      have f2 : ps = [] → m = 0 := fun z => by rw [z] at hps; cases L <;> cases hps
      refine ⟨_, rfl, px, _, _, _, rfl, rfl, SqL.of hpx5, atI_nat (j := 6) (get_int k6), _, _, rfl, rfl, (by show (0 : Int) < 3; decide), rfl, _, rfl, ?_⟩
      refine ite2 (fun _ => ?_) (fun _ => ⟨r0, fi0, m, _, rfl, ⟨rl0, rf0, by omega, by omega, hm0, h2, f2, f3⟩, S5⟩)
      refine ⟨_, rfl, x.1, _, _, .str x.2.reel, rfl, rfl, SqT.of hx, atI_nat (j := 0) rfl, _, rfl, x.1, _, _, .int x.2.b, rfl, rfl, SqT.of hx, atI_nat (j := 2) rfl, _, rfl, _, _, rfl, rfl, x.2.reel, x.2.b + wy, m, _, rfl, ⟨ok.rl, ok.rf, by omega, by omega, hm0, h2, f2, f3⟩, S5⟩
  rintro σ H5 ⟨r, fi, fa, o, rfl, pt, S5⟩
  obtain ⟨p1, p2, p3, p4, p5, p6, p7, p8⟩ := pt
  refine ⟨_, rfl, _, rfl, _, rfl, _, _, rfl, rfl, _, _, rfl, rfl, .inl ⟨by rcases dw with rfl | rfl <;> decide, by rcases dw with rfl | rfl <;> decide⟩, _, _, rfl, rfl, ?_⟩
  -- the third
  refine ⟨fun σ' H' => ∃ fi la : Int, σ' = [some (.ref pf), some (.int c), some (.int (n : Int)), some (.ref px), some (.str r), some (.int fi), some (.int sz), some (.int wy), some (.int fa), o, some (.int la)] ∧ 0 ≤ fi ∧ fi ≤ N + 1 ∧ 0 ≤ la ∧ (la - fi).natAbs + 1 = sz.toNat ∧ Same H H', ?_, ?_⟩
  · have e5 : ∃ la : Int, la = fi + wy * (sz - 1) ∧ (la - fi).natAbs + 1 = sz.toNat := ⟨_, rfl, by rcases dw with rfl | rfl <;> omega⟩
    obtain ⟨la, ela, hla⟩ := e5
    refine ⟨_, rfl, _, _, rfl, rfl, _, rfl, ?_⟩
    refine ite2 (fun z => ?_) (fun z => ?_)
    · exact iteT ⟨_, rfl, _, rfl, _, rfl, _, rfl, _, rfl, _, _, rfl, rfl, _, _, rfl, rfl, _, _, rfl, _, _, rfl, by split <;> omega, by split <;> omega, by split <;> omega, by split <;> omega, S5⟩
    · have z : ¬ fi < 0 := fun y => z (decide_eq_true y)
      refine ⟨_, rfl, _, _, rfl, rfl, _, rfl, ?_⟩
      refine ite2 (fun z2 => ⟨_, rfl, _, rfl, _, rfl, _, rfl, _, rfl, _, _, rfl, rfl, _, _, rfl, rfl, _, _, rfl, _, _, rfl, by split <;> omega, by split <;> omega, by split <;> omega, by split <;> omega, S5⟩) (fun z2 => ?_)
      have z2 : ¬ fi + wy * (sz - 1) < 0 := fun y => z2 (decide_eq_true y)
      exact ⟨fi, _, rfl, by omega, by omega, by omega, by rw [← ela]; exact hla, S5⟩
  rintro σ H6 ⟨fi', la, rfl, i0, i1, l0, hla, S6⟩
  refine ⟨_, rfl, _, rfl, _, rfl, _, rfl, (by show 4 ≤ sizeLine; decide), fun pt hpt => ?_⟩
  have ec : (⟨r, fi', la, fa⟩ : Clip).cnt = sz.toNat := hla
  refine q pt ⟨r, fi', la, fa⟩ _ (S6.trans (Same.new hpt _)) (S6.free hpt) upd_same ⟨p1, p2, i0, ?_, l0, ?_, p5, ?_, ?_⟩ p7 p8
  · show fi' ≤ ((N + 20 : Nat) : Int)
    omega
  · show la ≤ ((N + 20 : Nat) : Int)
    omega
  · rw [ec]
    show fa ≤ (sz.toNat : Int)
    omega
  · rw [ec]
    omega
def spClips (K : PySem.W.Frag) : Sp := fun vs H Q _ => ∃ (a : Addr) (ns : List Int) (k m : Nat), vs = [.ref a, .int (k : Int), .int (m : Int)] ∧ SqL K H a (ns.map V.int) ∧ m ≤ 40 ∧
  ∀ (l : Addr) (ps : List (Addr × Clip)) (H' : Hp), Same H H' → H l = none → CL 12 2000 H' l ps → Cd2 (ps.map (·.2)) → ps.length = m → Q (.ref l) H'
theorem scClips : FnScope ["_law_script", "_law_at", "_law_many", "_law_clips_here", "_law_k"] ["_law_script", "_law_at", "_law_many"] (defScope s__law_clips) := ⟨rfl, rfl, rfl, by decide +kernel, rfl, by decide +kernel, by decide +kernel⟩
theorem ok_clips {f : Addr} {fd : FuncData} (F : Fun K "_law_clips" "_law_clips" s__law_clips f fd) (dClip : Def P w K mg base CX0 "_law_clip" 2 ["_law_clips_here", "_law_cell_here", "_law_at"] spClip) (dCell : Def P w K mg base CX0 "_law_cell" 1 ["_law_script", "_law_k"] (spCell K)) (n_range : mg "range" = none) : FnOk P w K mg base CX0 3 f fd ["_law_script", "_law_at", "_law_many"] (spClips K) := by
  refine F.ok scClips (fun vs H Q E h => ?_) (fun cdv A outer s H vs Q E hr h => ?_)
  · obtain ⟨a, ns, k, m, rfl, _⟩ := h
    rfl
  obtain ⟨a, ns, k, m, rfl, hS, hm, q⟩ := h
  refine useQ (ss_cons (s_set (i := 3) scClips.nd (e_lst a_nil))
    (ss_cons (s_for PassesOwn.never rfl (i_rng1 n_range (e_v 2)) (g_name (i := 4) scClips.nd)
      (ss_one (s_expr (e_append (e_v 3) (e_call dClip hr pass0 (a_cons (e_v 3) (a_cons (e_call dCell hr pass0 (a_cons (e_v 0) (a_cons (e_op op_add (e_v 1) (e_v 4)) a_nil))) (a_cons (e_v 4) a_nil))))))))
    (ss_one (s_ret (e_v 3))))) ?_
  have zl : sizeLine = 16777216 := sizeLine_eq
  refine ⟨(by show 0 ≤ sizeLine; decide), fun pf hpf => ?_⟩
  have s7 := Same.new hpf (.lst [])
  refine ⟨_, rfl, (m : Int), rfl, by omega, by omega, ?_⟩
  refine for_range (lo := 0) (n := m) (fun i σ H' => ∃ (ps : List (Addr × Clip)) (o : Option V), σ = [some (.ref a), some (.int (k : Int)), some (.int (m : Int)), some (.ref pf), o] ∧ CL 12 (30 + 20 * i) H' pf ps ∧ ps.length = i ∧ Same H H' ∧ Cd2 (ps.map (·.2)))
    ⟨[], none, rfl, CL.nil upd_same, rfl, s7, Cd2.nil⟩ ?_ ?_
  · rintro i σ H' hi ⟨ps, o, rfl, cl, hpl, hS', cd⟩
    refine ⟨_, rfl, .inl ⟨rfl, _, SqL.of cl.1⟩, _, rfl, _, rfl, _, rfl, _, rfl, _, _, rfl, rfl, a, ns, k + i, vs2 (by omega), hS'.seq hS, _, rfl, pf, _, i, ps, 30 + 20 * i, vs3' (by omega), by omega, cl, by omega, by omega, fun pt c H2 s2 hpt0 hpt ok e1 e2 => ?_⟩
    have cl2 := (cl.same s2).mono (Nat.le_refl 12) (show 30 + 20 * i ≤ 30 + 20 * i + 20 by omega)
    refine ⟨pf, _, _, rfl, rfl, cl2.1, by rw [List.length_map]; omega, ps ++ [(pt, c)], _, rfl, ?_, by rw [List.length_append, hpl]; rfl, Bt.same (hS'.trans s2) Bt.upd hpf, ?_⟩
    · rw [show 30 + 20 * (i + 1) = 30 + 20 * i + 20 by omega]
      exact cl2.push hpt ok
    · rw [List.map_append]
      refine cd.snoc ok.f0 ok.f1 (fun z => e1 ?_) (fun L d e => ?_)
      · cases ps with
        | nil => rfl
        | cons x r => cases z
      · rcases snoc_cases ps with hps | ⟨L', x, hps⟩
        · rw [hps] at e
          cases L <;> cases e
        · rw [hps, List.map_append] at e
          have := (List.append_inj' e rfl).2
          cases this
          have h2 := e2 L' x hps
          show c.f ≤ (x.2.cnt : Int) - x.2.f
          omega
  · rintro σ H' ⟨ps, o, rfl, cl, hpl, hS', cd⟩
    exact ⟨_, rfl, q pf ps H' hS' hpf (cl.mono (Nat.le_refl _) (by omega)) cd hpl⟩
/-! ### _law_begins, _law_gaps -/
def spBegs : Sp := fun vs H Q _ => ∃ (p : Addr) (ps : List (Addr × Clip)), vs = [.ref p] ∧ ST H p ps ∧ ps.length ≤ 100000 ∧ ∀ t l H', Same H H' → H' t = some (.tup [.ref l, .int (endA (ps.map (·.2)) ps.length)]) → H' l = some (.lst (((List.range ps.length).map (bgA (ps.map (·.2)))).map V.int)) → Q (.ref t) H'
theorem scBegs : FnScope ["_law_strips", "_law_begins_here", "_law_at", "_law_strip"] ["_law_strips"] (defScope s__law_begins) := ⟨rfl, rfl, rfl, by decide +kernel, rfl, by decide +kernel, by decide +kernel⟩
theorem ok_begs {f : Addr} {fd : FuncData} (F : Fun K "_law_begins" "_law_begins" s__law_begins f fd) (dLFr : Def P w K mg base CX0 "_law_frames" 1 ["_law_clip_here"] spFin) : FnOk P w K mg base CX0 2 f fd ["_law_strips"] spBegs := by
  refine F.ok scBegs (fun vs H Q E h => ?_) (fun cdv A outer s H vs Q E hr h => ?_)
  · obtain ⟨p, ps, rfl, _⟩ := h
    rfl
  obtain ⟨p, ps, rfl, st, hl, q⟩ := h
  refine useQ (ss_cons (s_set (i := 1) scBegs.nd (e_lst a_nil))
    (ss_cons (s_set (i := 2) scBegs.nd e_int)
    (ss_cons (s_for PassesOwn.never rfl (i_list (e_v 0)) (g_name (i := 3) scBegs.nd)
      (ss_cons (s_expr (e_append (e_v 1) (e_op op_sub (e_v 2) (e_ix ix_tup (e_v 3) e_int))))
      (ss_one (s_set (i := 2) scBegs.nd (e_op op_add (e_op op_sub (e_v 2) (e_ix ix_tup (e_v 3) e_int)) (e_call dLFr hr pass0 (a_cons (e_v 3) a_nil)))))))
    (ss_one (s_ret (e_tup (a_cons (e_v 1) (a_cons (e_v 2) a_nil)))))))) ?_
  have zl : sizeLine = 16777216 := sizeLine_eq
  have hm : (ps.map fun x => V.ref x.1).length = ps.length := List.length_map ..
  refine ⟨(by show 0 ≤ sizeLine; decide), fun pb hb => ?_⟩
  have s1 := Same.new hb (.lst [])
  refine ⟨_, rfl, p, rfl, ⟨_, SqL.of (s1 _ _ st.1)⟩, for_list (K := K) (a := p) (xs := ps.map fun x => V.ref x.1) (fun i σ H' => ∃ o : Option V, σ = [some (.ref p), some (.ref pb), some (.int (endA (ps.map (·.2)) i)), o] ∧ Same H H' ∧ H' pb = some (.lst (((List.range i).map (bgA (ps.map (·.2)))).map V.int)))
    ⟨none, rfl, s1, upd_same⟩ (fun i σ H' _ ⟨_, _, s, _⟩ => SqL.of (s _ _ st.1)) ?_ ?_⟩
  · rintro i x σ H' hx ⟨o, rfl, hS, hpb⟩
    have hi : i < ps.length := by
      have := (List.getElem?_eq_some_iff.mp hx).1
      omega
    have st' := st.same hS
    obtain ⟨a, g, h, _⟩ := st'.get hi
    rw [g] at hx
    cases hx
    have np : a ≠ pb := ne_of h hpb (by intro z; cases z)
    refine ⟨_, rfl, .inl ⟨rfl, _, SqL.of hpb⟩, _, rfl, _, rfl, a, _, _, .int _, rfl, rfl, SqT.of h, atI_nat (j := 3) rfl, _, _, rfl, rfl, pb, _, _, rfl, rfl, hpb, by rw [List.length_map, List.length_map, List.length_range]; omega, ?_⟩
    have h' : upd H' pb (.lst (((List.range i).map (bgA (ps.map (·.2)))).map V.int ++ [V.int (bgA (ps.map (·.2)) i)])) a = some (.tup (clA (ps.map (·.2)) i).vs) := by rw [upd_ne np]; exact h
    refine ⟨_, rfl, _, rfl, a, _, _, .int _, rfl, rfl, SqT.of h', atI_nat (j := 3) rfl, _, _, rfl, rfl, _, rfl, a, _, rfl, h', _, _, rfl, rfl, _, rfl, fun b u hu => ?_, ?_⟩
    · rw [upd_ne (ne_of_none hu hb)]
      exact hS _ _ hu
    · rw [upd_same, bg_snoc]
      rfl
  · rintro σ H' ⟨o, rfl, hS, hpb⟩
    rw [hm] at hpb
    refine ⟨_, rfl, _, rfl, (by show 2 ≤ sizeLine; decide), fun t ht => ?_⟩
    rw [hm] at *
    exact q t pb _ (hS.trans (Same.new ht _)) upd_same (Same.new ht _ _ _ hpb)
def gapsL (cs : List Clip) : List Int := (List.range (cs.length - 2)).map fun j => gapA cs (j + 1)
theorem gapsL_len (cs : List Clip) : (gapsL cs).length = cs.length - 2 := by unfold gapsL; rw [List.length_map, List.length_range]
theorem gapsL_get {cs : List Clip} {i : Nat} (h : i < cs.length - 2) : (gapsL cs)[i]? = some (gapA cs (i + 1)) := by
  unfold gapsL
  rw [List.getElem?_map, List.getElem?_range h]
  rfl
def spGaps : Sp := fun vs H Q _ => ∃ (p : Addr) (ps : List (Addr × Clip)), vs = [.ref p] ∧ ST H p ps ∧ ps.length ≤ 100000 ∧ ∀ l H', Same H H' → H l = none → H' l = some (.lst ((gapsL (ps.map (·.2))).map V.int)) → Q (.ref l) H'
theorem scGaps : FnScope ["_law_strips", "_law_begins_here", "_law_end", "_law_found", "_law_k", "_law_ends"] ["_law_strips"] (defScope s__law_gaps) := ⟨rfl, rfl, rfl, by decide +kernel, rfl, by decide +kernel, by decide +kernel⟩
theorem ok_gaps {f : Addr} {fd : FuncData} (F : Fun K "_law_gaps" "_law_gaps" s__law_gaps f fd) (dBegs : Def P w K mg base CX0 "_law_begins" 2 ["_law_strips"] spBegs) (dLFr : Def P w K mg base CX0 "_law_frames" 1 ["_law_clip_here"] spFin) (n_range : mg "range" = none) (n_len : mg "len" = none) : FnOk P w K mg base CX0 3 f fd ["_law_strips"] spGaps := by
  refine F.ok scGaps (fun vs H Q E h => ?_) (fun cdv A outer s H vs Q E hr h => ?_)
  · obtain ⟨p, ps, rfl, _⟩ := h
    rfl
  obtain ⟨p, ps, rfl, st, hl, q⟩ := h
  refine useQ (ss_cons (s_asg (e_call dBegs hr pass0 (a_cons (e_v 0) a_nil)) (g_tup rfl (gs_cons (g_name (i := 1) scGaps.nd) (gs_cons (g_name (i := 2) scGaps.nd) gs_nil))))
    (ss_cons (s_set (i := 3) scGaps.nd (e_lst a_nil))
    (ss_cons (s_for PassesOwn.never rfl (i_rng2 n_range e_int (e_op op_sub (e_b call_len_seq n_len PySem.boot_len (a_cons (e_v 0) a_nil)) e_int)) (g_name (i := 4) scGaps.nd)
      (ss_cons (s_set (i := 5) scGaps.nd (e_op op_add (e_ix ix_list (e_v 1) (e_op op_sub (e_v 4) e_int)) (e_call dLFr hr pass0 (a_cons (e_ix ix_list (e_v 0) (e_op op_sub (e_v 4) e_int)) a_nil))))
      (ss_one (s_expr (e_append (e_v 3) (e_op op_sub (e_ix ix_list (e_v 1) (e_op op_add (e_v 4) e_int)) (e_v 5)))))))
    (ss_one (s_ret (e_v 3)))))) ?_
  have zl : sizeLine = 16777216 := sizeLine_eq
  have hm : (ps.map fun x => V.ref x.1).length = ps.length := List.length_map ..
  have hm2 : (ps.map (·.2)).length = ps.length := List.length_map ..
  refine ⟨_, rfl, p, ps, rfl, st, hl, fun t pb H1 s1 ht hpb => ⟨t, _, rfl, SqT.of ht, rfl, _, _, rfl, _, _, rfl, rfl, ?_⟩⟩
  refine ⟨(by show 0 ≤ sizeLine; decide), fun pg hg => ?_⟩
  have s2 := Same.new hg (.lst [])
  have S2 := s1.trans s2
  refine ⟨_, rfl, p, _, rfl, .inl (SqL.of (S2 _ _ st.1)), _, _, rfl, rfl, 1, _, rfl, ⟨by decide, by decide, by rw [hm]; omega, by rw [hm]; omega⟩, ?_⟩
  rw [hm]
  refine for_range (lo := 1) (n := ((ps.length : Int) - 1 - 1).toNat) (fun i σ H' => ∃ o5 o4 : Option V, σ = [some (.ref p), some (.ref pb), some (.int (endA (ps.map (·.2)) ps.length)), some (.ref pg), o4, o5] ∧ Same H1 H' ∧ H' pg = some (.lst (((gapsL (ps.map (·.2))).take i).map V.int))) ⟨none, none, rfl, s2, upd_same⟩ ?_ ?_
  · rintro i σ H' hi ⟨o5, o4, rfl, hS, hpg⟩
    have st' := st.same (s1.trans hS)
    have hpb' := hS _ _ hpb
    have gb : ∀ k, k < ps.length → (((List.range ps.length).map (bgA (ps.map (·.2)))).map V.int)[k]? = some (.int (bgA (ps.map (·.2)) k)) := fun k hk => by
      rw [List.getElem?_map, List.getElem?_map, List.getElem?_range hk]
      rfl
    obtain ⟨a1, g1, h1, _⟩ := st'.get (k := i) (by omega)
    refine ⟨_, rfl, _, rfl, _, _, rfl, rfl, pb, _, _, _, rfl, rfl, SqL.of hpb', atI_int (k := i) (by omega) (gb i (by omega)), _, rfl, _, rfl, _, _, rfl, rfl, p, _, _, _, rfl, rfl, SqL.of st'.1, atI_int (k := i) (by omega) g1, a1, _, rfl, h1, _, _, rfl, rfl, ?_⟩
    have gi := gapsL_get (cs := ps.map (·.2)) (i := i) (by rw [hm2]; omega)
    refine ⟨_, rfl, .inl ⟨rfl, _, SqL.of hpg⟩, _, rfl, _, rfl, _, _, rfl, rfl, pb, _, _, _, rfl, rfl, SqL.of hpb', atI_int (k := i + 1 + 1) (by omega) (gb (i + 1 + 1) (by omega)), _, rfl, _, _, rfl, rfl, pg, _, _, rfl, rfl, hpg, by rw [List.length_map, List.length_take]; omega, _, _, rfl, Bt.same hS Bt.upd hg, ?_⟩
    rw [upd_same, List.take_add_one, gi, List.map_append]
    have e : bgA (ps.map (·.2)) (i + 1 + 1) - (bgA (ps.map (·.2)) i + ((clA (ps.map (·.2)) i).cnt : Int)) = gapA (ps.map (·.2)) (i + 1) := by
      unfold gapA
      show endA (ps.map (·.2)) (i + 1) - _ + _ - _ - endA (ps.map (·.2)) (i + 1) = _
      omega
    show some (HO.lst (_ ++ [V.int (bgA (ps.map (·.2)) (i + 1 + 1) - (bgA (ps.map (·.2)) i + ((clA (ps.map (·.2)) i).cnt : Int)))])) = _
    rw [e]
    rfl
  · rintro σ H' ⟨o5, o4, rfl, hS, hpg⟩
    refine ⟨_, rfl, q pg H' (s1.trans hS) (s1.free hg) ?_⟩
    rw [hpg, List.take_of_length_le (by rw [gapsL_len, hm2]; omega)]
end
end K32

set_option linter.all false
set_option maxRecDepth 100000
set_option maxHeartbeats 2000000
namespace K32
open PySem L2 G KS
section
variable {P : Program} {w : World} {K : PySem.W.Frag} {mg : Str → Option Value} {base : Heap}
theorem scFr : FnScope ["strip"] ["strip"] (defScope s_frames_of) := ⟨rfl, rfl, rfl, by decide +kernel, rfl, by decide +kernel, by decide +kernel⟩
theorem ok_fr {f : Addr} {fd : FuncData} (F : Fun K "frames_of" "frames_of" s_frames_of f fd) (dNos : Def P w K mg base CX0 "numbers_of" 2 ["clip"] spFr) : FnOk P w K mg base CX0 3 f fd ["strip"] spFr := by
  refine F.ok scFr (fun vs H Q E h => ?_) (fun cdv A outer s H vs Q E hr h => ?_)
  · obtain ⟨p, c, rfl, _⟩ := h
    rfl
  obtain ⟨p, c, rfl, hp, sm, q⟩ := h
  refine useQ (ss_one (s_ret (e_call dNos hr pass0 (a_cons (e_v 0) a_nil)))) ?_
  exact ⟨_, rfl, p, c, rfl, hp, sm, q⟩
/-! ### _law_asked -/
def spAsked : Sp := fun vs H Q _ => ∃ (p : Addr) (ps : List (Addr × Clip)) (ld : Int), vs = [.ref p, .int ld] ∧ ST H p ps ∧ ps.length ≤ 100000 ∧
  ((∀ k, ¬ Short (ps.map (·.2)) ld k) → ∀ tt t l0 l1 ts0 ts1 H', Same H H' → H l0 = none → H l1 = none → l0 ≠ l1 → H' tt = some (.tup [.str (Str.ofString "laid"), .ref t]) → H' t = some (.tup [.ref l0, .ref l1]) → TL H' l0 ts0 → TL H' l1 ts1 → ts0.map (·.2) = fullA (ps.map (·.2)) 0 → ts1.map (·.2) = fullA (ps.map (·.2)) 1 → Q (.ref tt) H') ∧
  (∀ (k : Nat) (z : Int) H' tt, z = k → FirstS (ps.map (·.2)) ld k → Same H H' → H' tt = some (.tup [.str (Str.ofString "short"), .int z]) → Q (.ref tt) H')
theorem scAsked : FnScope ["_law_strips", "_law_leader", "_law_found", "e"] ["_law_strips", "_law_leader"] (defScope s__law_asked) := ⟨rfl, rfl, rfl, by decide +kernel, rfl, by decide +kernel, by decide +kernel⟩
theorem ok_asked {f C : Addr} {fd : FuncData} {bmC : List Value} {idC : String} (F : Fun K "_law_asked" "_law_asked" s__law_asked f fd) (dRolls : Def P w K mg base (CX1 P w) "rolls" 4 ["strips", "leader"] (spRolls C))
    (m_TooShort : mg "TooShort" = some (.ref C)) (c_TooShort : ExcC K C bmC idC) (hb_TooShort : bmC.contains (.type "BaseException") = true) (XK : ExcK K C) (XC : XCls K C) (XN : XNo K C "number") :
    FnOk P w K mg base CX0 5 f fd ["_law_strips", "_law_leader"] spAsked := by
  refine F.ok scAsked (fun vs H Q E h => ?_) (fun cdv A outer s H vs Q E hr h => ?_)
  · obtain ⟨p, ps, ld, rfl, _⟩ := h
    rfl
  obtain ⟨p, ps, ld, rfl, st, hl, q, e⟩ := h
  refine useQ (ss_cons (s_try (i := 2) (j := 3) scAsked.nd m_TooShort c_TooShort hb_TooShort (x_call dRolls hr (a_cons (e_v 0) (a_cons (e_v 1) a_nil))) (fun a => (ss_one (s_ret (e_tup (a_cons e_str (a_cons (e_xf (e_v 3)) a_nil)))))))
    (ss_one (s_ret (e_tup (a_cons e_str (a_cons (e_v 2) a_nil)))))) ?_
  refine ⟨_, rfl, _, rfl, p, ps, ld, rfl, st, hl, fun hn t l0 l1 ts0 ts1 H1 s1 n0 n1 ne ht tl0 tl1 e0 e1 => ?_, fun k z H1 dx ez fs s1 hdx => ?_⟩
  · refine ⟨_, rfl, (by show 2 ≤ sizeLine; decide), fun tt htt => ?_⟩
    have s2 := Same.new htt (.tup [.str (Str.ofString "laid"), .ref t])
    exact q hn tt t l0 l1 ts0 ts1 _ (s1.trans s2) n0 n1 ne upd_same (s2 _ _ ht) (tl0.same s2) (tl1.same s2) e0 e1
  · refine ⟨C, bmC, idC, rfl, c_TooShort, by simp, fun a ha => ?_⟩
    have te := Same.new ha (excO a (.ref C) (some dx))
    have he := upd_same (H := H1) (a := a) (o := excO a (.ref C) (some dx))
    refine ⟨_, rfl, a, C, dx, _, .int z, rfl, he, te _ _ hdx, XK, XC, XN, rfl, (by show 2 ≤ sizeLine; decide), fun tt htt => ?_⟩
    exact e k z _ tt ez fs ((s1.trans te).trans (Same.new htt _)) upd_same
theorem is_lead (b : Bool) : decide (V.str (if b = true then leadS else stripS) = V.str (Str.ofString "leader")) = b := by cases b <;> decide +kernel
theorem rep_flat {α : Type} (x : α) : ∀ n : Nat, (List.replicate n [x]).flatten = List.replicate n x
  | 0 => rfl
  | n + 1 => by rw [List.replicate_succ, List.flatten_cons, rep_flat x n, List.replicate_succ]; rfl
theorem nums_mv (c : Clip) : (c.nums.map fun x => (some (c.reel, x) : Mv)) = (List.range' 0 c.cnt).map fun (i : Nat) => some (c.reel, c.a + (i : Int) * c.way) := by
  unfold Clip.nums
  rw [List.map_map, List.range_eq_range']
  rfl
structure RlOk (cs : List Clip) (ts : List Th) : Prop where
  n0 : ∀ t ∈ ts, 0 ≤ t.n
  n1 : ∀ t ∈ ts, t.lead = true ∨ t.n < cs.length
  sm : ∀ c ∈ cs, Sm c
  ln : (showsA cs ts).length ≤ 1000000
  tl : ts.length ≤ 1000000
/-- a strip of the roll -/
theorem RlOk.at {cs : List Clip} {ts : List Th} (h : RlOk cs ts) {i : Nat} {t : Th} (ht : ts[i]? = some t) (hl : t.lead = false) : ∃ k : Nat, t.n = (k : Int) ∧ k < cs.length ∧ t.n.toNat = k := by
  have hm := List.mem_of_getElem? ht
  have h0 := h.n0 t hm
  have h1 : t.n < cs.length := by
    rcases h.n1 t hm with z | z
    · rw [hl] at z; cases z
    · exact z
  exact ⟨t.n.toNat, by omega, by omega, rfl⟩
theorem RlOk.part {cs : List Clip} {ts : List Th} (h : RlOk cs ts) {i : Nat} {t : Th} (ht : ts[i]? = some t) : (showsA cs (ts.take i)).length + (showT cs t).length ≤ 1000000 := by
  have h1 := shows_le cs ts (i + 1)
  have h2 := h.ln
  rw [shows_take ht, List.length_append] at h1
  omega
def spShows : Sp := fun vs H Q _ => ∃ (p pr : Addr) (ps : List (Addr × Clip)) (ts : List (Addr × Th)), vs = [.ref p, .ref pr] ∧ ST H p ps ∧ TL H pr ts ∧ ps.length ≤ 100000 ∧ RlOk (ps.map (·.2)) (ts.map (·.2)) ∧ ∀ l H', Same H H' → H l = none → ML H' l (showsA (ps.map (·.2)) (ts.map (·.2))) → Q (.ref l) H'
theorem scShows : FnScope ["strips", "roll", "moments", "kind", "number"] ["strips", "roll"] (defScope s_roll_shows) := ⟨rfl, rfl, rfl, by decide +kernel, rfl, by decide +kernel, by decide +kernel⟩
theorem ok_shows {f : Addr} {fd : FuncData} (F : Fun K "roll_shows" "roll_shows" s_roll_shows f fd) (dFr : Def P w K mg base CX0 "frames_of" 3 ["strip"] spFr) : FnOk P w K mg base CX0 4 f fd ["strips", "roll"] spShows := by
  refine F.ok scShows (fun vs H Q E h => ?_) (fun cdv A outer s H vs Q E hr h => ?_)
  · obtain ⟨p, pr, ps, ts, rfl, _⟩ := h
    rfl
  obtain ⟨p, pr, ps, ts, rfl, st, tl, hl, ok, q⟩ := h
  refine useQ (ss_cons (s_set (i := 2) scShows.nd (e_lst a_nil))
    (ss_cons (s_for PassesOwn.never rfl (i_list (e_v 1)) (g_tup rfl (gs_cons (g_name (i := 3) scShows.nd) (gs_cons (g_namec (i := 4) scShows.nd) gs_nil)))
      (ss_one (s_if (t_cmp op_eq (e_v 3) e_str)
        (ss_one (s_expr (e_extend (e_v 2) (e_op op_rep (e_lst (a_cons e_non a_nil)) (e_c 4)))))
        (ss_one (s_expr (e_extend (e_v 2) (e_comp ["number", "strips"] [4, 0] [("strips", s.heap.objs.size + 1), ("number", s.heap.objs.size + 2)] rfl ⟨rfl, rfl, rfl, rfl, ⟨rfl, rfl, rfl, rfl, trivial⟩⟩ ⟨rfl, ⟨rfl, trivial⟩⟩ (i_list (e_call dFr hr pass0 (a_cons (e_ix ix_list (e_c 0) (e_c 4)) a_nil))) (fun _ _ _ _ => (e_tup (a_cons (e_ix (ix_tupK (K := K) rfl) (e_ix (ix_listK (K := K) rfl) (e_n 2) (e_n 1)) e_int) (a_cons (e_n 0) a_nil)))))))))))
    (ss_one (s_ret (e_v 2))))) ?_
  have zl : sizeLine = 16777216 := sizeLine_eq
  have hm2 : (ps.map (·.2)).length = ps.length := List.length_map ..
  refine ⟨(by show 0 ≤ sizeLine; decide), fun pm hm0 => ?_⟩
  have s1 := Same.new hm0 (.lst [])
  refine ⟨_, rfl, pr, rfl, ⟨_, SqL.of (s1 _ _ tl.1)⟩, for_list (K := K) (a := pr) (xs := ts.map fun x => V.ref x.1) (fun i σ H' => ∃ (vs : List V) (o3 o4 : Option V), σ = [some (.ref p), some (.ref pr), some (.ref pm), o3, o4] ∧ Same H H' ∧ H' pm = some (.lst vs) ∧ MVs H' vs (showsA (ps.map (·.2)) ((ts.map (·.2)).take i)))
    ⟨[], none, none, rfl, s1, upd_same, .nil⟩ (fun i σ H' _ ⟨_, _, _, _, s, _⟩ => SqL.of (s _ _ tl.1)) ?_ ?_⟩
  · rintro i x σ H' hx ⟨vs, o3, o4, rfl, hS, hpm, mv⟩
    rw [List.getElem?_map] at hx
    cases hz : ts[i]? with
    | none => rw [hz] at hx; cases hx
    | some z =>
      rw [hz] at hx
      cases hx
      have hzt : (ts.map (·.2))[i]? = some z.2 := by rw [List.getElem?_map, hz]; rfl
      have h0 := hS _ _ (tl.2 z (List.mem_of_getElem? hz))
      have part := ok.part hzt
      have lv := mv.len
      refine ⟨z.1, _, rfl, SqT.of h0, rfl, _, _, rfl, _, _, rfl, rfl, ?_⟩
      refine ⟨_, rfl, rfl, _, rfl, ?_⟩
      rw [is_lead, shows_take hzt]
      rw [showT_len] at part
      cases hlead : z.2.lead with
      | true =>
        rw [hlead, if_pos rfl] at part
        have n0 := ok.n0 z.2 (List.mem_of_getElem? hzt)
        refine iteT ⟨_, rfl, .inl ⟨rfl, _, SqL.of hpm⟩, (by show 1 ≤ sizeLine; decide), fun q1 hq1 => ?_⟩
        have t1 := Same.new hq1 (.lst [V.non])
        refine ⟨_, rfl, q1, _, _, rfl, rfl, upd_same, by omega, by omega, by show 1 * z.2.n.toNat ≤ sizeLine; omega, fun q2 hq2 => ?_⟩
        rw [rep_flat] at *
        have t2 := Same.new hq2 (.lst (List.replicate z.2.n.toNat V.non))
        have T2 := t1.trans t2
        refine ⟨pm, q2, _, _, rfl, rfl, T2 _ _ hpm, upd_same, by rw [List.length_replicate, lv]; omega, _, _, _, rfl, Bt.same (hS.trans T2) Bt.upd hm0, upd_same, ?_⟩
        have e : showT (ps.map (·.2)) z.2 = List.replicate z.2.n.toNat none := by unfold showT; rw [if_pos hlead]
        rw [e]
        exact MVs.bt (Bt.upd (p := pm)) (T2 _ _ hpm) ((mv.same T2).app (MVs.nones _))
      | false =>
        rw [hlead, if_neg Bool.false_ne_true] at part
        obtain ⟨k, hk, hkl, hk'⟩ := ok.at hzt hlead
        rw [hm2] at hkl
        rw [hk'] at part
        have st' := st.same hS
        obtain ⟨a1, g1, ha1, hg⟩ := st'.get hkl
        have sm := ok.sm _ (List.mem_of_getElem? hg)
        obtain ⟨c, hc⟩ : ∃ c, c = clA (ps.map (·.2)) k := ⟨_, rfl⟩
        rw [← hc] at ha1 sm part
        refine iteF ⟨_, rfl, .inl ⟨rfl, _, SqL.of hpm⟩, _, rfl, _, rfl, p, _, _, _, rfl, rfl, SqL.of st'.1, atI_int (k := k) hk g1, a1, c, rfl, ha1, sm, fun l hl0 => ?_⟩
        have t1 := Same.new hl0 (.lst (c.nums.map V.int))
        refine ⟨l, rfl, ⟨_, SqL.of upd_same⟩, comp_new (fun i => [.str c.reel, .int (c.a + (i : Int) * c.way)]) (SqL.of upd_same) (by rw [List.length_map, Clip.nums_len]; omega) ?_ ?_⟩
        · intro j y H2 R s2 hy hR
          rw [List.getElem?_map] at hy
          cases hu : c.nums[j]? with
          | none => rw [hu] at hy; cases hy
          | some u =>
            rw [hu] at hy
            cases hy
            have hj : j < c.cnt := by
              have := (List.getElem?_eq_some_iff.mp hu).1
              rw [Clip.nums_len] at this
              exact this
            have eu := nums_get (c := c) (k := j) hj
            rw [hu] at eu
            cases eu
            have T2 := t1.trans s2
            refine ⟨_, rfl, _, rfl, p, _, _, _, rfl, rfl, SqL.of (T2 _ _ st'.1), atI_int (k := k) hk g1, a1, _, _, .str c.reel, rfl, rfl, SqT.of (T2 _ _ ha1), atI_nat (j := 0) rfl, _, rfl, (by show 2 ≤ sizeLine; decide), fun r hr0 => ?_⟩
            exact hR r _ (Same.new hr0 _) upd_same
        · intro D H2 rs s2 hD0 hD hrl hrs
          have T2 := t1.trans s2
          rw [List.length_map, Clip.nums_len] at hrl
          refine ⟨pm, D, _, _, rfl, rfl, T2 _ _ hpm, hD, by rw [List.length_map, lv]; omega, _, _, _, rfl, Bt.same (hS.trans T2) Bt.upd hm0, upd_same, ?_⟩
          have e : showT (ps.map (·.2)) z.2 = (List.range' 0 rs.length).map fun (i : Nat) => some (c.reel, c.a + (i : Int) * c.way) := by
            unfold showT
            rw [if_neg (by rw [hlead]; exact Bool.false_ne_true), hk', ← hc, nums_mv, hrl]
          rw [e]
          exact MVs.bt (Bt.upd (p := pm)) (T2 _ _ hpm) ((mv.same T2).app (MVs.refs (f := fun i => (c.reel, c.a + (i : Int) * c.way)) rs 0 fun i r hr => by rw [Nat.zero_add]; exact hrs i r hr))
  · rintro σ H' ⟨vs, o3, o4, rfl, hS, hpm, mv⟩
    rw [List.length_map, ← List.length_map (f := (·.2)), List.take_length] at mv
    exact ⟨_, rfl, q pm H' hS hm0 ⟨vs, hpm, mv⟩⟩
end
end K32

set_option linter.all false
set_option maxRecDepth 100000
set_option maxHeartbeats 1000000
namespace K32
open PySem L2 G KS
open DT hiding iteN iteY
def _root_.KS.Frm.d (f : Frm) : PyData := .tuple [.str f.reel, .int f.n, .int f.p, .int f.w]
def _root_.KS.Frm.vs (f : Frm) : List V := [.str f.reel, .int f.n, .int f.p, .int f.w]
def momD (m : List Frm) : PyData := .tuple (m.map Frm.d)
/-- the moments in a list -/
def SH (H : Hp) (p : Addr) (S : List (List Frm)) : Prop := ∃ vs, H p = some (.lst vs) ∧ Tds H vs (S.map momD)
theorem SH.same {H H' : Hp} {p : Addr} {S : List (List Frm)} (h : SH H p S) (s : Same H H') : SH H' p S := by
  obtain ⟨vs, h1, h2⟩ := h
  exact ⟨vs, s _ _ h1, h2.tk (TK.of s)⟩
theorem td_frm {H : Hp} {v : V} {f : Frm} (h : Td H v f.d) : ∃ a, v = .ref a ∧ H a = some (.tup f.vs) := by
  obtain ⟨a, vs, rfl, h1, h2⟩ := h.tinv
  cases h2 with | cons a1 h2 => cases h2 with | cons a2 h2 => cases h2 with | cons a3 h2 => cases h2 with | cons a4 h2 => cases h2; rw [a1.sinv, a2.iinv, a3.iinv, a4.iinv] at h1; exact ⟨_, rfl, h1⟩
theorem mk_frm {H : Hp} {a : Addr} {f : Frm} (h : H a = some (.tup f.vs)) : Td H (.ref a) f.d := .tup h (.cons (.str _) (.cons (.int _) (.cons (.int _) (.cons (.int _) .nil))))
theorem td_mom {H : Hp} {v : V} {g : Frm} {r : List Frm} (h : Td H v (momD (g :: r))) : ∃ a b rest, v = .ref a ∧ H a = some (.tup (.ref b :: rest)) ∧ H b = some (.tup g.vs) := by
  obtain ⟨a, vs, rfl, h1, h2⟩ := h.tinv
  cases h2 with
  | cons a1 h2 =>
    obtain ⟨b, rfl, hb⟩ := td_frm a1
    exact ⟨a, b, _, rfl, h1, hb⟩
theorem tds_set {H : Hp} {v : V} {d : PyData} (h : Td H v d) : ∀ {vs : List V} {ds : List PyData} (i : Nat), Tds H vs ds → Tds H (vs.set i v) (ds.set i d)
  | _, _, _, .nil => .nil
  | _, _, 0, .cons _ r => .cons h r
  | _, _, i + 1, .cons a r => .cons a (tds_set h i r)
section
variable {P : Program} {w : World} {K : PySem.W.Frag} {mg : Str → Option Value} {base : Heap}
def spFaded : Sp := fun vs H Q _ => ∃ (gt : Addr) (g : Frm) (r : Str) (n pa wh : Int), vs = [.ref gt, .str r, .int n, .int pa, .int wh] ∧ H gt = some (.tup g.vs) ∧ ∀ p H', Same H H' → Td H' (.ref p) (momD [⟨g.reel, g.n, wh - pa, wh⟩, ⟨r, n, pa, wh⟩]) → Q (.ref p) H'
theorem scFaded : FnScope ["going", "reel", "number", "part", "whole"] ["going", "reel", "number", "part", "whole"] (defScope s_faded) := ⟨rfl, rfl, rfl, by decide +kernel, rfl, by decide +kernel, by decide +kernel⟩
theorem ok_faded {f : Addr} {fd : FuncData} (F : Fun K "faded" "faded" s_faded f fd) : FnOk P w K mg base CX0 1 f fd ["going", "reel", "number", "part", "whole"] spFaded := by
  refine F.ok scFaded (fun vs H Q E h => ?_) (fun cdv A outer s H vs Q E hr h => ?_)
  · obtain ⟨gt, g, r, n, pa, wh, rfl, _⟩ := h
    rfl
  obtain ⟨gt, g, r, n, pa, wh, rfl, hg, q⟩ := h
  refine useQ (ss_one (s_ret (e_tup (a_cons (e_op op_catG (e_sl sl_tupG (e_v 0) o_none (o_some e_int)) (e_tup (a_cons (e_op op_sub (e_v 4) (e_v 3)) (a_cons (e_v 4) a_nil)))) (a_cons (e_tup (a_cons (e_v 1) (a_cons (e_v 2) (a_cons (e_v 3) (a_cons (e_v 4) a_nil))))) a_nil))))) ?_
  refine ⟨_, rfl, _, rfl, gt, _, rfl, hg, fun p1 H1 s1 hp1 => ?_⟩
  have hp1 : H1 p1 = some (.tup [.str g.reel, .int g.n]) := hp1
  refine ⟨_, rfl, _, rfl, _, _, rfl, rfl, _, rfl, (by show 2 ≤ sizeLine; decide), fun p2 hp2 => ?_⟩
  have s2 := Same.new hp2 (.tup [.int (wh - pa), .int wh])
  refine ⟨p1, p2, _, _, rfl, rfl, s2 _ _ hp1, upd_same, (by show 2 + 2 ≤ sizeLine; decide), fun p3 H3 s3 hp3 => ?_⟩
  refine ⟨_, rfl, _, rfl, _, rfl, _, rfl, (by show 4 ≤ sizeLine; decide), fun p4 hp4 => ⟨(by show 2 ≤ sizeLine; decide), fun p5 hp5 => ?_⟩⟩
  have s4 := Same.new hp4 (.tup (Frm.vs ⟨r, n, pa, wh⟩))
  have s5 := Same.new hp5 (.tup [.ref p3, .ref p4])
  refine q p5 _ ((((s1.trans s2).trans s3).trans s4).trans s5) (.tup upd_same (.cons (mk_frm (f := ⟨g.reel, g.n, wh - pa, wh⟩) (s5 _ _ (s4 _ _ hp3))) (.cons (mk_frm (f := ⟨r, n, pa, wh⟩) (s5 _ _ upd_same)) .nil)))
def spSC : Sp := fun vs H Q _ => ∃ (pl pc : Addr) (S : List (List Frm)) (c : Clip), vs = [.ref pl, .ref pc] ∧ SH H pl S ∧ H pc = some (.tup c.vs) ∧ Sm c ∧ PyData.strOk c.reel = true ∧ 0 ≤ c.f ∧ c.f ≤ (S.length : Int) ∧ MsOk S ∧ S.length ≤ 100000 ∧
  ∀ H', Bt pl H H' → SH H' pl (showC S c) → Q .non H'
theorem scSC : FnScope ["moments", "clip", "fade", "begin", "k", "number", "going"] ["moments", "clip"] (defScope s_show_clip) := ⟨rfl, rfl, rfl, by decide +kernel, rfl, by decide +kernel, by decide +kernel⟩
theorem ok_sc {f : Addr} {fd : FuncData} (F : Fun K "show_clip" "show_clip" s_show_clip f fd) (dNos : Def P w K mg base CX0 "numbers_of" 2 ["clip"] spFr) (dFaded : Def P w K mg base CX0 "faded" 1 ["going", "reel", "number", "part", "whole"] spFaded) (n_len : mg "len" = none) (n_enumerate : mg "enumerate" = none) : FnOk P w K mg base CX0 3 f fd ["moments", "clip"] spSC := by
  refine F.ok scSC (fun vs H Q E h => ?_) (fun cdv A outer s H vs Q E hr h => ?_)
  · obtain ⟨pl, pc, S, c, rfl, _⟩ := h
    rfl
  obtain ⟨pl, pc, S, c, rfl, ⟨vs0, hv0, td0⟩, hc, sm, rf, f0, f1, mk, hSl, q⟩ := h
  refine useQ (ss_cons (s_set (i := 2) scSC.nd (e_ix ix_tup (e_v 1) e_int))
    (ss_cons (s_set (i := 3) scSC.nd (e_op op_sub (e_b call_len_seq n_len PySem.boot_len (a_cons (e_v 0) a_nil)) (e_v 2)))
    (ss_one (s_for PassesOwn.never rfl (i_enum n_enumerate (e_call dNos hr pass0 (a_cons (e_v 1) a_nil))) (g_tup rfl (gs_cons (g_name (i := 4) scSC.nd) (gs_cons (g_name (i := 5) scSC.nd) gs_nil)))
      (ss_one (s_cut (s_if (t_cmp op_lt (e_v 4) (e_v 2))
        (ss_cons (s_set (i := 6) scSC.nd (e_ix ix_tup (e_ix ix_list (e_v 0) (e_op op_add (e_v 3) (e_v 4))) e_int))
        (ss_one (s_asg (e_call dFaded hr pass0 (a_cons (e_v 6) (a_cons (e_ix ix_tup (e_v 1) e_int) (a_cons (e_v 5) (a_cons (e_op op_add (e_v 4) e_int) (a_cons (e_op op_add (e_v 2) e_int) a_nil)))))) (g_sub (e_v 0) (e_op op_add (e_v 3) (e_v 4))))))
        (ss_one (s_expr (e_append (e_v 0) (e_tup (a_cons (e_tup (a_cons (e_ix ix_tup (e_v 1) e_int) (a_cons (e_v 5) (a_cons e_int (a_cons e_int a_nil))))) a_nil)))))))))))) ?_
  have zl : sizeLine = 16777216 := sizeLine_eq
  have l0 : vs0.length = S.length := by rw [td0.len, List.length_map]
  refine ⟨_, rfl, pc, _, _, .int c.f, rfl, rfl, SqT.of hc, atI_nat (j := 3) rfl, ?_⟩
  refine ⟨_, rfl, pl, _, rfl, .inl (SqL.of hv0), _, rfl, _, _, rfl, rfl, ?_⟩
  refine ⟨_, rfl, pc, c, rfl, hc, sm, fun l1 hl1 => ?_⟩
  have s1 := Same.new hl1 (.lst (c.nums.map V.int))
  have npl : pc ≠ pl := ne_of hc hv0 (by intro z; cases z)
  have nl1 : l1 ≠ pl := fun e => by rw [e, hv0] at hl1; cases hl1
  have hcn := sm.cnt
  obtain ⟨B, hB⟩ : ∃ B : Nat, B = S.length - c.f.toNat := ⟨_, rfl⟩
  have eB : (vs0.length : Int) - c.f = (B : Int) := by rw [l0, hB]; omega
  refine ⟨l1, rfl, ⟨_, SqL.of upd_same⟩, for_enum (K := K) (a := l1) (xs := c.nums.map V.int) (fun k σ H2 => ∃ (o4 o5 o6 : Option V), σ = [some (.ref pl), some (.ref pc), some (.int c.f), some (.int ((vs0.length : Int) - c.f)), o4, o5, o6] ∧ SH H2 pl (shK S c B k) ∧ H2 l1 = some (.lst (c.nums.map V.int)) ∧ Bt pl H H2)
    ⟨none, none, none, rfl, ⟨vs0, s1 _ _ hv0, td0.tk (TK.of s1)⟩, upd_same, Bt.of s1⟩ ?_ ?_ ?_⟩
  · rintro k σ H2 hk ⟨o4, o5, o6, rfl, sh, hl2, bt⟩
    exact SqL.of hl2
  · rintro k y σ H2 pt hy ⟨o4, o5, o6, rfl, ⟨vs2, hv2, td2⟩, hl2, bt⟩ hpt
    rw [List.getElem?_map] at hy
    cases hu : c.nums[k]? with
    | none => rw [hu] at hy; cases hy
    | some u =>
      rw [hu] at hy
      cases hy
      have hkc : k < c.cnt := by
        have := (List.getElem?_eq_some_iff.mp hu).1
        rwa [Clip.nums_len] at this
      have eu : u = c.a + (k : Int) * c.way := by
        rw [nums_get hkc] at hu
        cases hu
        rfl
      have st := Same.new hpt (.tup [.int (k : Int), .int u])
      have hc2 := st _ _ (bt _ _ npl hc)
      have td3 := td2.tk (TK.of st)
      have hl3 := st _ _ hl2
      have lk : vs2.length = S.length + (k - c.f.toNat) := by rw [td2.len, List.length_map, len_shK S c B f0 k]
      refine ⟨pt, _, rfl, SqT.of upd_same, rfl, _, _, rfl, _, _, rfl, rfl, ?_⟩
      refine ⟨fun σ' H4 => ∃ (o6 : Option V), σ' = [some (.ref pl), some (.ref pc), some (.int c.f), some (.int ((vs0.length : Int) - c.f)), some (.int (k : Int)), some (.int u), o6] ∧ SH H4 pl (shK S c B (k + 1)) ∧ H4 l1 = some (.lst (c.nums.map V.int)) ∧ Bt pl H H4, ?_, ?_⟩
      · refine ⟨_, rfl, _, rfl, _, _, rfl, rfl, _, rfl, ?_⟩
        refine ite2 (fun z => ?_) (fun z => ?_)
        · have z := of_decide_eq_true z
          have hb : B + k < (shK S c B k).length := by rw [len_shK S c B f0 k]; omega
          have mok := ms_shK mk rf f0 (B := B) (by omega) k
          have hg : (shK S c B k)[B + k]? = some (shK S c B k)[B + k] := List.getElem?_eq_getElem hb
          have hne := (mok _ (List.getElem_mem hb)).1
          have epf : shK S c B (k + 1) = KS.putF (shK S c B k) c B k (c.a + (k : Int) * c.way) := rfl
          generalize (shK S c B k)[B + k] = m at hg hne
          cases m with
          | nil => exact absurd rfl hne
          | cons g r =>
            obtain ⟨v, hv, tv⟩ := td3.at (i := B + k) (d := momD (g :: r)) (by rw [List.getElem?_map, hg]; rfl)
            obtain ⟨ma, gt, rest, rfl, hma, hgt⟩ := td_mom tv
            have av : atI vs2 ((vs0.length : Int) - c.f + (k : Int)) = some (.ref ma) := by
              rw [eB, show (B : Int) + (k : Int) = ((B + k : Nat) : Int) by omega]
              exact atI_nat hv
            refine ⟨_, rfl, _, rfl, _, rfl, _, _, rfl, rfl, pl, _, _, .ref ma, rfl, rfl, SqL.of (st _ _ hv2), av, ma, _, _, .ref gt, rfl, rfl, SqT.of hma, atI_nat (j := 0) rfl, ?_⟩
            refine ⟨_, rfl, _, rfl, pc, _, _, .str c.reel, rfl, rfl, SqT.of hc2, atI_nat (j := 0) rfl, _, rfl, _, rfl, _, _, rfl, rfl, _, rfl, _, _, rfl, rfl, gt, g, c.reel, u, _, _, rfl, hgt, fun p H5 s5 tp => ?_⟩
            have hv5 := s5 _ _ (st _ _ hv2)
            have T5 : TK (upd H2 pt (.tup [.int (k : Int), .int u])) H5 := TK.of s5
            refine ⟨_, rfl, _, rfl, _, rfl, _, _, rfl, rfl, pl, _, _, B + k, rfl, rfl, hv5, ?_, _, rfl, ⟨vs2.set (B + k) (.ref p), upd_same, ?_⟩, ?_, ?_⟩
            · rw [eB, show (B : Int) + (k : Int) = ((B + k : Nat) : Int) by omega]
              exact ixN_nat (by omega)
            · rw [epf]
              unfold KS.putF
              rw [if_pos z, List.getD_eq_getElem?_getD, hg, List.map_set]
              refine tds_set ?_ (B + k) ((td3.tk T5).tk (TK.lst hv5))
              have e1 : (c.f + 1 - ((k : Int) + 1)) = c.f - (k : Int) := by omega
              rw [e1, eu] at tp
              exact tp.tk (TK.lst hv5)
            · rw [upd_ne nl1]
              exact s5 _ _ hl3
            · exact (bt.trans (Bt.of (st.trans s5))).trans Bt.upd
        · have z : ¬ (k : Int) < c.f := fun y => z (decide_eq_true y)
          refine ⟨_, rfl, .inl ⟨rfl, _, SqL.of (st _ _ hv2)⟩, _, rfl, pc, _, _, .str c.reel, rfl, rfl, SqT.of hc2, atI_nat (j := 0) rfl, _, rfl, (by show 4 ≤ sizeLine; decide), fun p5 hp5 => ⟨(by show 1 ≤ sizeLine; decide), fun p6 hp6 => ?_⟩⟩
          have s5 := Same.new hp5 (.tup (Frm.vs ⟨c.reel, u, 1, 1⟩))
          have s6 := Same.new hp6 (.tup [.ref p5])
          have hv6 := s6 _ _ (s5 _ _ (st _ _ hv2))
          refine ⟨pl, _, _, rfl, rfl, hv6, by omega, _, rfl, ⟨vs2 ++ [.ref p6], upd_same, ?_⟩, ?_, ?_⟩
          · show Tds _ _ ((KS.putF (shK S c B k) c B k (c.a + (k : Int) * c.way)).map momD)
            unfold KS.putF
            rw [if_neg z, List.map_append, ← eu]
            refine ((td3.tk (TK.of (s5.trans s6))).tk (TK.lst hv6)).app (.cons ?_ .nil)
            exact Td.tk (TK.lst hv6) (.tup upd_same (.cons (mk_frm (f := ⟨c.reel, u, 1, 1⟩) (s6 _ _ upd_same)) .nil))
          · rw [upd_ne nl1]
            exact s6 _ _ (s5 _ _ hl3)
          · exact (bt.trans (Bt.of ((st.trans s5).trans s6))).trans Bt.upd
      · rintro σ H4 ⟨o6', rfl, sh4, hl4, bt4⟩
        exact ⟨_, _, _, rfl, sh4, hl4, bt4⟩
  · rintro σ H2 ⟨o4, o5, o6, rfl, sh, hl2, bt⟩
    rw [List.length_map, Clip.nums_len] at sh
    rw [hB] at sh
    exact q H2 bt sh
def spShown : Sp := fun vs H Q _ => ∃ (pc : Addr) (ps : List (Addr × Clip)) (n : Nat), vs = [.ref pc] ∧ CL 100 n H pc ps ∧ n ≤ 1000000 ∧ ps.length ≤ 100 ∧ Sd (ps.map (·.2)) ∧
  ∀ (l : Addr) (H' : Hp), Same H H' → H l = none → SH H' l (shown (ps.map (·.2))) → Q (.ref l) H'
theorem scShown : FnScope ["clips", "moments", "clip"] ["clips"] (defScope s_shown) := ⟨rfl, rfl, rfl, by decide +kernel, rfl, by decide +kernel, by decide +kernel⟩
theorem ok_shown {f : Addr} {fd : FuncData} (F : Fun K "shown" "shown" s_shown f fd) (dSC : Def P w K mg base CX0 "show_clip" 3 ["moments", "clip"] spSC) : FnOk P w K mg base CX0 4 f fd ["clips"] spShown := by
  refine F.ok scShown (fun vs H Q E h => ?_) (fun cdv A outer s H vs Q E hr h => ?_)
  · obtain ⟨pc, ps, n, rfl, _⟩ := h
    rfl
  obtain ⟨pc, ps, N, rfl, cl, hN, hpl, sd, q⟩ := h
  refine useQ (ss_cons (s_set (i := 1) scShown.nd (e_lst a_nil))
    (ss_cons (s_for PassesOwn.never rfl (i_list (e_v 0)) (g_name (i := 2) scShown.nd)
      (ss_one (s_expr (e_call dSC hr pass0 (a_cons (e_v 1) (a_cons (e_v 2) a_nil))))))
    (ss_one (s_ret (e_v 1))))) ?_
  have zl : sizeLine = 16777216 := sizeLine_eq
  have ml : (ps.map (·.2)).length = ps.length := List.length_map ..
  refine ⟨(by show 0 ≤ sizeLine; decide), fun pl hp => ?_⟩
  have s0 := Same.new hp (.lst [])
  have cnt : ∀ c ∈ ps.map (·.2), c.cnt ≤ 100 := fun c hc => by
    obtain ⟨x, hx, rfl⟩ := List.mem_map.mp hc
    exact (cl.2 x hx).2.d
  refine ⟨_, rfl, pc, rfl, ⟨_, SqL.of (s0 _ _ cl.1)⟩, for_list (xs := ps.map fun x => V.ref x.1) (fun i σ H' => ∃ (o2 : Option V), σ = [some (.ref pc), some (.ref pl), o2] ∧ SH H' pl (shown ((ps.map (·.2)).take i)) ∧ Same H H')
    ⟨none, rfl, ⟨[], upd_same, .nil⟩, s0⟩ ?_ ?_ ?_⟩
  · rintro i σ H' hi ⟨o2, rfl, sh, hS⟩
    exact SqL.of (hS _ _ cl.1)
  · rintro i x σ H' hx ⟨o2, rfl, sh, hS⟩
    rw [List.getElem?_map] at hx
    cases hz : ps[i]? with
    | none => rw [hz] at hx; cases hx
    | some z =>
      rw [hz] at hx
      cases hx
      have hi : i < ps.length := (List.getElem?_eq_some_iff.mp hz).1
      obtain ⟨hc, ok⟩ := cl.2 z (List.mem_of_getElem? hz)
      have hcz : (ps.map (·.2))[i]? = some z.2 := by rw [List.getElem?_map, hz]; rfl
      have hm : z.2 ∈ ps.map (·.2) := List.mem_of_getElem? hcz
      have lb := len_bound sd cnt i (by omega)
      refine ⟨_, rfl, _, rfl, pl, z.1, _, z.2, rfl, sh, hS _ _ hc, ok.sm hN, sd.rf _ hm, sd.f0 _ hm, sd.f2 i _ hcz, ms_shown sd i (by omega), by omega, fun H2 bt sh2 => ?_⟩
      refine ⟨_, rfl, ?_, Bt.same hS bt hp⟩
      rw [shown_take hcz]
      exact sh2
  · rintro σ H' ⟨o2, rfl, sh, hS⟩
    rw [List.length_map, ← ml, List.take_length] at sh
    exact ⟨_, rfl, q pl H' hS hp sh⟩
end
end K32

set_option linter.all false
set_option maxRecDepth 100000
set_option maxHeartbeats 4000000
namespace K32
open PySem L2 G KS
open DT hiding iteN iteY
theorem _root_.KS.MVs.den {K : PySem.W.Frag} {H : Hp} : ∀ {vs : List V} {ms : List Mv}, MVs H vs ms → DenAll K H vs (ms.map Mv.d)
  | _, _, .nil => .nil
  | _, _, .cons a r => .cons a.den (KS.MVs.den r)
theorem layMv : ∀ {ms : List Mv}, (∀ m ∈ ms, MvOk m) → PyData.canLayAll0 (ms.map Mv.d) = true
  | [], _ => rfl
  | m :: r, h => by
    rw [List.map_cons, PyData.canLayAll0, (h m (List.mem_cons_self ..)).lay, layMv fun x hx => h x (List.mem_cons_of_mem _ hx)]
    rfl
theorem layM {ms : List Mv} (h : ∀ m ∈ ms, MvOk m) : (PyData.list (ms.map Mv.d)).canLay0 = true := by rw [PyData.canLay0]; exact layMv h
theorem depMv : ∀ ms : List Mv, PyData.depthAll (ms.map Mv.d) ≤ 1
  | [] => by simp [PyData.depthAll]
  | m :: r => by
    have := depMv r
    have := m.dep
    rw [List.map_cons, PyData.depthAll]
    omega
theorem depM (ms : List Mv) : (PyData.list (ms.map Mv.d)).depth ≤ 60 := by
  have := depMv ms
  rw [PyData.depth]
  omega
theorem _root_.KS.MVs.rev {H : Hp} : ∀ {vs : List V} {ms : List Mv}, MVs H vs ms → MVs H vs.reverse ms.reverse
  | _, _, .nil => .nil
  | _, _, .cons a r => by
    rw [List.reverse_cons, List.reverse_cons]
    exact (KS.MVs.rev r).app (.cons a .nil)
section
variable {P : Program} {w : World} {K : PySem.W.Frag} {mg : Str → Option Value} {base : Heap}
def spMom : Sp := fun vs H Q _ => ∃ (vf v0 v1 : V) (m : List Frm) (u v : Mv), vs = [vf, v0, v1] ∧ Td H vf (momD m) ∧ MV H v0 u ∧ MV H v1 v ∧ m.length ≤ 2 ∧ (∀ x ∈ there u v, PyData.strOk x.1 = true) ∧ (m.map frm = there u v ∨ m.map frm = (there u v).reverse) ∧ ∀ H', Same H H' → Q (.bl true) H'
theorem scMom : FnScope ["_law_frames_here", "_law_one", "_law_other", "_law_seen", "_law_there"] ["_law_frames_here", "_law_one", "_law_other"] (defScope s__law_moment) := ⟨rfl, rfl, rfl, by decide +kernel, rfl, by decide +kernel, by decide +kernel⟩
theorem ok_mom {f : Addr} {fd : FuncData} (F : Fun K "_law_moment" "_law_moment" s__law_moment f fd) (n_len : mg "len" = none) : FnOk P w K mg base CX0 1 f fd ["_law_frames_here", "_law_one", "_law_other"] spMom := by
  refine F.ok scMom (fun vs H Q E h => ?_) (fun cdv A outer s H vs Q E hr h => ?_)
  · obtain ⟨vf, v0, v1, m, u, v, rfl, _⟩ := h
    rfl
  obtain ⟨vf, v0, v1, m, u, v, rfl, td, mv0, mv1, hm2, sok, eq, q⟩ := h
  refine useQ (ss_cons (s_comp (i := 3) scMom.nd [] [] [] rfl trivial trivial (i_tup (e_v 0)) (fun _ _ _ _ => (e_sl sl_tupG (e_n 0) o_none (o_some e_int))))
    (ss_cons (s_compF (i := 4) scMom.nd [] [] [] rfl trivial trivial (i_list (e_lst (a_cons (e_v 1) (a_cons (e_v 2) a_nil)))) (fun _ _ _ _ => (t_notN (e_n 0))) (fun _ _ _ _ => (e_n 0)))
    (ss_cons (s_if (t_cmp op_ne (e_b call_len_seq n_len PySem.boot_len (a_cons (e_v 3) a_nil)) (e_b call_len_seq n_len PySem.boot_len (a_cons (e_v 4) a_nil)))
      (ss_one (s_ret e_bl))
      ss_nil)
    (ss_one (s_ret (e_or (e_cmp (op_eqD hr) (e_v 3) (e_v 4)) (e_one (e_cmp (op_eqD hr) (e_v 3) (e_rev (e_v 4) (o_some (e_un un_neg e_int))))))))))) ?_
  have zl : sizeLine = 16777216 := sizeLine_eq
  obtain ⟨a, ws, rfl, ha, tds⟩ := td.tinv
  have lw : ws.length = m.length := by rw [tds.len, List.length_map]
  have dflt : Frm := ⟨Str.ofString "", 0, 0, 0⟩
  refine ⟨_, rfl, a, rfl, ⟨_, SqT.of ha⟩, comp_newT (fun i => [.str (m.getD i dflt).reel, .int (m.getD i dflt).n]) (SqT.of ha) (by omega) ?_ ?_⟩
  · intro i x H' R s1 hx hR
    have hi : i < m.length := by have := (List.getElem?_eq_some_iff.mp hx).1; omega
    have hmi : m[i]? = some m[i] := List.getElem?_eq_getElem hi
    obtain ⟨d, hd, tdx⟩ := tds.get hx
    rw [List.getElem?_map, hmi] at hd
    cases hd
    obtain ⟨b, rfl, hb⟩ := td_frm tdx
    have eg : m.getD i dflt = m[i] := by rw [List.getD_eq_getElem?_getD, hmi]; rfl
    rw [eg] at hR
    exact ⟨_, rfl, _, rfl, b, _, rfl, s1 _ _ hb, fun p1 H1 s2 hp1 => hR p1 H1 s2 hp1⟩
  intro D H1 rs s1 hD0 hD hrl hrs
  have mvD : MVs H1 (rs.map V.ref) ((m.map frm).map some) := by
    have h0 := MVs.refs (H := H1) (f := fun i => frm (m.getD i dflt)) rs 0 fun i r hr => by rw [Nat.zero_add]; exact hrs i r hr
    have e : ((List.range' 0 rs.length).map fun i => (some (frm (m.getD i dflt)) : Mv)) = (m.map frm).map some := by
      rw [hrl, lw, ← List.range_eq_range', List.map_map]
      apply List.ext_getElem?
      intro i
      rw [List.getElem?_map, List.getElem?_map]
      by_cases hi : i < m.length
      · rw [List.getElem?_range hi, List.getElem?_eq_getElem hi]
        show some (some (frm (m.getD i dflt))) = some (some (frm m[i]))
        rw [List.getD_eq_getElem?_getD, List.getElem?_eq_getElem hi]
        rfl
      · rw [List.getElem?_eq_none (by rw [List.length_range]; omega), List.getElem?_eq_none (by omega)]
        rfl
    rw [e] at h0
    exact h0
  refine ⟨_, rfl, _, rfl, (by show 2 ≤ sizeLine; decide), fun p2 hp2 => ?_⟩
  have s2 := Same.new hp2 (.lst [v0, v1])
  refine ⟨p2, rfl, ⟨_, SqL.of upd_same⟩, compF_list (fun x => !decide (x = .non)) (fun x => x) (SqL.of upd_same) (by show 2 ≤ sizeLine; decide) ?_ ?_ ?_⟩
  · intro x H' R s3 hx hR
    exact ⟨_, rfl, _, rfl, hR H' (Same.refl _)⟩
  · intro x H' R s3 hx hp hR
    exact ⟨_, rfl, hR H' (Same.refl _)⟩
  intro D2 H3 s3 hD20 hD2
  have S3 := s2.trans s3
  have S13 := s1.trans S3
  have hD3 := S3 _ _ hD
  have mvD3 := mvD.same S3
  have mvT : MVs H3 ((([v0, v1].filter fun x => !decide (x = .non))).map fun x => x) ((there u v).map some) := by
    have w0 := mv0.same S13
    have w1 := mv1.same S13
    cases u with
    | none =>
      cases w0
      cases v with
      | none => cases w1; exact .nil
      | some y =>
        obtain ⟨r, rfl, hr1⟩ := w1
        exact .cons ⟨r, rfl, hr1⟩ .nil
    | some x =>
      obtain ⟨r, rfl, hr0⟩ := w0
      cases v with
      | none => cases w1; exact .cons ⟨r, rfl, hr0⟩ .nil
      | some y =>
        obtain ⟨r', rfl, hr1⟩ := w1
        exact .cons ⟨r, rfl, hr0⟩ (.cons ⟨r', rfl, hr1⟩ .nil)
  generalize ([v0, v1].filter fun x => !decide (x = .non)).map (fun x => x) = ts at hD2 mvT
  have lT := mvT.len
  have lD := mvD3.len
  rw [List.length_map] at lT lD
  have lmt : m.length = (there u v).length := by
    rcases eq with e | e
    · have := congrArg List.length e
      rwa [List.length_map] at this
    · have := congrArg List.length e
      rwa [List.length_map, List.length_reverse] at this
  rw [List.length_map] at lD
  refine ⟨_, rfl, D, _, rfl, .inl (SqL.of hD3), _, rfl, D2, _, rfl, .inl (SqL.of hD2), rfl, _, rfl, iteN (by rw [decide_eq_true (congrArg (fun n : Nat => V.int (n : Int)) (by rw [List.length_map, lD, List.length_map, lT, lmt]))]; rfl) ?_⟩
  have okT : ∀ x ∈ (there u v).map some, MvOk x := fun x hx y hy => by
    obtain ⟨z, hz, rfl⟩ := List.mem_map.mp hx
    cases hy
    exact sok y hz
  have okM : ∀ x ∈ (m.map frm).map some, MvOk x := fun x hx => by
    rcases eq with e | e
    · rw [e] at hx
      exact okT x hx
    · rw [e, List.map_reverse] at hx
      exact okT x (List.mem_reverse.mp hx)
  refine ⟨_, rfl, _, rfl, _, _, .lst (SqL.of hD3) mvD3.den, .lst (SqL.of hD2) mvT.den, layM okM, layM okT, Nat.le_trans (Nat.min_le_left _ _) (depM _), _, rfl, ?_⟩
  cases hc : PyData.eqv (.list (((m.map frm).map some).map Mv.d)) (.list (((there u v).map some).map Mv.d)) with
  | true => exact iteT (q _ S13)
  | false =>
    rcases eq with e | e
    · rw [e, PySem.SeqAt.eqv_refl _ (layM okT)] at hc
      cases hc
    · refine iteF ⟨_, rfl, _, rfl, _, rfl, _, rfl, rfl, D2, _, rfl, SqL.of hD2, fun p5 hp5 => ?_⟩
      have s5 := Same.new hp5 (.lst ts.reverse)
      have mvR := (mvT.same s5).rev
      rw [← List.map_reverse, ← e] at mvR
      refine ⟨_, _, .lst (SqL.of (s5 _ _ hD3)) (mvD3.same s5).den, .lst (SqL.of upd_same) mvR.den, layM okM, layM okM, Nat.le_trans (Nat.min_le_left _ _) (depM _), ?_⟩
      rw [PySem.SeqAt.eqv_refl _ (layM okM)]
      exact q _ (S13.trans s5)
end
end K32

set_option linter.all false
set_option maxRecDepth 100000
set_option maxHeartbeats 4000000
namespace K32
open PySem L2 G KS
open DT hiding iteN iteY
theorem cut_mid {xs : List V} {a n : Nat} (h : a + n ≤ xs.length) : cutV xs (some (a : Int)) (some ((a : Int) + (n : Int))) = (xs.drop a).take n := by
  unfold cutV
  have e : ((a : Int) + (n : Int)) = ((a + n : Nat) : Int) := by omega
  rw [e, HT.sIx_nat, HT.sIx_nat]
  simp only [Nat.min_eq_left h, Nat.min_eq_left (show a ≤ xs.length by omega), show a + n - a = n by omega]
theorem one_of {xs : List V} {a : Nat} {v : V} (h : xs[a]? = some v) : (xs.drop a).take 1 = [v] := by
  obtain ⟨h1, h2⟩ := List.getElem?_eq_some_iff.mp h
  rw [List.drop_eq_getElem_cons h1, h2]
  rfl
theorem MVs.at {H : Hp} {vs : List V} {ms : List Mv} {i : Nat} {m : Mv} (h : MVs H vs ms) (hm : ms[i]? = some m) : ∃ v, vs[i]? = some v ∧ MV H v m := by
  have hl := h.len
  have hi : i < vs.length := by have := (List.getElem?_eq_some_iff.mp hm).1; omega
  have hv : vs[i]? = some vs[i] := List.getElem?_eq_getElem hi
  obtain ⟨m', h1, h2⟩ := h.get hv
  rw [hm] at h1
  cases h1
  exact ⟨_, hv, h2⟩
theorem end_mono {S : List Clip} (sn : Sw S) (ns : ∀ k, ¬ Short S 0 k) : ∀ (d k : Nat), k + d ≤ S.length → 1 ≤ k → endA S k ≤ endA S (k + d)
  | 0, k, _, _ => Int.le_refl _
  | d + 1, k, h, hk => by
    have ih := end_mono sn ns d k (by omega) hk
    refine Int.le_trans ih ?_
    have get : S[k + d]? = some (clA S (k + d)) := by
      have := List.getElem?_eq_getElem (l := S) (i := k + d) (by omega)
      rw [this, clA_get this]
    have fc : (clA S (k + d)).f ≤ (clA S (k + d)).cnt := by
      by_cases hl : k + d + 1 < S.length
      · have hg : ¬ gapA S (k + d) < 0 := fun z => ns (k + d) ⟨by omega, hl, z⟩
        unfold gapA at hg
        have get2 : S[k + d + 1]? = some (clA S (k + d + 1)) := by
          have := List.getElem?_eq_getElem (l := S) (i := k + d + 1) hl
          rw [this, clA_get this]
        have := sn.pos _ (List.mem_of_getElem? get2)
        omega
      · have eq : S = S.take (k + d) ++ [clA S (k + d)] := by
          have h1 : k + d < S.length := by omega
          have := List.take_append_drop (k + d) S
          rw [List.drop_eq_getElem_cons h1, List.drop_eq_nil_of_le (by omega)] at this
          have h2 := (List.getElem?_eq_some_iff.mp get).2
          rw [h2] at this
          exact this.symm
        exact sn.lst _ _ eq
    show endA S (k + d) ≤ endA S (k + d) - (clA S (k + d)).f + (clA S (k + d)).cnt
    omega
section
variable {P : Program} {w : World} {K : PySem.W.Frag} {mg : Str → Option Value} {base : Heap}
def spLaw (K : PySem.W.Frag) : Sp := fun vs H Q _ => ∃ (a : Addr) (ns : List Int), vs = [.ref a] ∧ SqL K H a (ns.map V.int) ∧ ns.length ≤ 63 ∧ ∀ H', Q (.bl true) H'
/-- what is told -/
def Told (cs : List Clip) (ld : Int) (Hb H : Hp) (wv fv : V) : Prop := ((∀ k, ¬ Short cs ld k) ∧ wv = .str (Str.ofString "laid") ∧ ∃ t l0 l1 ts0 ts1, fv = .ref t ∧ Hb l0 = none ∧ Hb l1 = none ∧ l0 ≠ l1 ∧ H t = some (.tup [.ref l0, .ref l1]) ∧ TL H l0 ts0 ∧ TL H l1 ts1 ∧ ts0.map (·.2) = fullA cs 0 ∧ ts1.map (·.2) = fullA cs 1) ∨
  ∃ k : Nat, FirstS cs ld k ∧ wv = .str (Str.ofString "short") ∧ fv = .int k
theorem Told.same {cs : List Clip} {ld : Int} {Hb H H' : Hp} {wv fv : V} (h : Told cs ld Hb H wv fv) (s : Same H H') : Told cs ld Hb H' wv fv := by
  rcases h with ⟨h1, h2, t, l0, l1, ts0, ts1, h3, h4, h5, h6, h7, h8, h9, h10, h11⟩ | h
  · exact .inl ⟨h1, h2, t, l0, l1, ts0, ts1, h3, h4, h5, h6, s _ _ h7, h8.same s, h9.same s, h10, h11⟩
  · exact .inr h
theorem scLaw : FnScope ["_law_script", "_law_clips_here", "_law_strips", "_law_film", "_law_word", "_law_told", "_law_gaps_here", "_law_short", "_law_one", "_law_other", "_law_first", "_law_second", "_law_at", "_law_k", "_law_roll"] ["_law_script"] (defScope s_law) := ⟨rfl, rfl, rfl, by decide +kernel, rfl, by decide +kernel, by decide +kernel⟩
theorem ok_law {f : Addr} {fd : FuncData} (F : Fun K "law" "law" s_law f fd) (dCell : Def P w K mg base CX0 "_law_cell" 1 ["_law_script", "_law_k"] (spCell K)) (dClips : Def P w K mg base CX0 "_law_clips" 3 ["_law_script", "_law_at", "_law_many"] (spClips K))
    (dStrips : Def P w K mg base CX0 "strips_of" 4 ["clips"] spStrips) (dShown : Def P w K mg base CX0 "shown" 4 ["clips"] spShown) (dLen : Def P w K mg base CX0 "length" 2 ["clips"] spLen) (dGaps : Def P w K mg base CX0 "_law_gaps" 3 ["_law_strips"] spGaps) (dAsked : Def P w K mg base CX0 "_law_asked" 5 ["_law_strips", "_law_leader"] spAsked) (dShows : Def P w K mg base CX0 "roll_shows" 4 ["strips", "roll"] spShows) (dLFr : Def P w K mg base CX0 "_law_frames" 1 ["_law_clip_here"] spFin) (dMom : Def P w K mg base CX0 "_law_moment" 1 ["_law_frames_here", "_law_one", "_law_other"] spMom)
    (n_range : mg "range" = none) (n_len : mg "len" = none) (n_list : mg "list" = none) (n_isinstance : mg "isinstance" = none) (n_all : mg "all" = none) :
    FnOk P w K mg base CX0 6 f fd ["_law_script"] (spLaw K) := by
  refine F.ok scLaw (fun vs H Q E h => ?_) (fun cdv A outer s H vs Q E hr h => ?_)
  · obtain ⟨a, ns, rfl, _⟩ := h
    rfl
  obtain ⟨a, ns, rfl, hS, hn, q⟩ := h
  refine useQ (ss_cons (s_set (i := 1) scLaw.nd (e_call dClips hr pass0 (a_cons (e_v 0) (a_cons e_int (a_cons (e_op op_mod (e_op op_add (e_op op_mod (e_call dCell hr pass0 (a_cons (e_v 0) (a_cons e_int a_nil))) e_int) (e_b call_len_seq n_len PySem.boot_len (a_cons (e_sl sl_list (e_v 0) (o_some e_int) (o_some e_int)) a_nil))) e_int) a_nil)))))
    (ss_cons (s_set (i := 2) scLaw.nd (e_call dStrips hr pass0 (a_cons (e_v 1) a_nil)))
    (ss_cons (s_setc (i := 3) scLaw.nd (e_call dShown hr pass0 (a_cons (e_v 1) a_nil)))
    (ss_cons (s_cut (s_asg (e_call dAsked hr pass0 (a_cons (e_v 2) (a_cons e_int a_nil))) (g_tup rfl (gs_cons (g_name (i := 4) scLaw.nd) (gs_cons (g_name (i := 5) scLaw.nd) gs_nil)))))
    (ss_cons (s_setc (i := 6) scLaw.nd (e_call dGaps hr pass0 (a_cons (e_v 2) a_nil)))
    (ss_cons (s_compF (i := 7) scLaw.nd ["_law_gaps_here"] [6] [("_law_gaps_here", s.heap.objs.size + 2)] rfl ⟨rfl, rfl, rfl, rfl, trivial⟩ ⟨rfl, trivial⟩ (i_rng1 n_range (e_b call_len_seq n_len PySem.boot_len (a_cons (e_c 6) a_nil))) (fun _ _ _ _ => (t_cmp op_lt (e_ix (ix_listK (K := K) rfl) (e_n 1) (e_n 0)) e_int)) (fun _ _ _ _ => (e_op op_add (e_n 0) e_int)))
    (ss_cons (s_if (t_cmp (op_neD hr) (e_v 7) (e_lst a_nil))
      (ss_one (s_ret (e_cmp (op_eqD hr) (e_tup (a_cons (e_v 4) (a_cons (e_v 5) a_nil))) (e_tup (a_cons e_str (a_cons (e_ix ix_list (e_v 7) e_int) a_nil))))))
      ss_nil)
    (ss_cons (s_if (t_cmp op_ne (e_v 4) e_str)
      (ss_one (s_ret e_bl))
      ss_nil)
    (ss_cons (s_asg (e_v 5) (g_tup rfl (gs_cons (g_name (i := 8) scLaw.nd) (gs_cons (g_name (i := 9) scLaw.nd) gs_nil))))
    (ss_cons (s_setc (i := 10) scLaw.nd (e_call dShows hr pass0 (a_cons (e_v 2) (a_cons (e_v 8) a_nil))))
    (ss_cons (s_setc (i := 11) scLaw.nd (e_call dShows hr pass0 (a_cons (e_v 2) (a_cons (e_v 9) a_nil))))
    (ss_cons (s_if (t_w (w_or (t_not (t_val (e_b call_isinst n_isinstance PyProof.Rows.boot_isinstance (a_cons (e_c 3) (a_cons (e_bt (v := .ty "list") n_list (by decide +kernel) rfl) a_nil))))) (w_or (t_cmp op_ne (e_b call_len_seq n_len PySem.boot_len (a_cons (e_c 3) a_nil)) (e_call dLen hr pass0 (a_cons (e_v 1) a_nil))) (w_or (t_cmp op_ne (e_b call_len_seq n_len PySem.boot_len (a_cons (e_c 10) a_nil)) (e_b call_len_seq n_len PySem.boot_len (a_cons (e_c 3) a_nil))) (w_or1 (t_cmp op_ne (e_b call_len_seq n_len PySem.boot_len (a_cons (e_c 11) a_nil)) (e_b call_len_seq n_len PySem.boot_len (a_cons (e_c 3) a_nil))))))))
      (ss_one (s_ret e_bl))
      ss_nil)
    (ss_cons (s_set (i := 12) scLaw.nd e_int)
    (ss_cons (s_for PassesOwn.never rfl (i_rng1 n_range (e_b call_len_seq n_len PySem.boot_len (a_cons (e_v 2) a_nil))) (g_name (i := 13) scLaw.nd)
      (ss_cons (s_set (i := 14) scLaw.nd (e_ix ix_list (e_lst (a_cons (e_c 10) (a_cons (e_c 11) a_nil))) (e_op op_mod (e_v 13) e_int)))
      (ss_cons (s_set (i := 12) scLaw.nd (e_op op_sub (e_v 12) (e_ix ix_tup (e_ix ix_list (e_v 2) (e_v 13)) e_int)))
      (ss_cons (s_if (t_cmp (op_neD hr) (e_sl sl_list (e_v 14) (o_some (e_v 12)) (o_some (e_op op_add (e_v 12) e_int))) (e_lst (a_cons (e_sl sl_tupG (e_ix ix_list (e_v 2) (e_v 13)) o_none (o_some e_int)) a_nil)))
        (ss_one (s_ret e_bl))
        ss_nil)
      (ss_one (s_set (i := 12) scLaw.nd (e_op op_add (e_v 12) (e_call dLFr hr pass0 (a_cons (e_ix ix_list (e_v 2) (e_v 13)) a_nil)))))))))
    (ss_one (s_ret (e_b call_all n_all PyProof.Rows.boot_all (a_cons (e_comp ["_law_film", "_law_first", "_law_second"] [3, 10, 11] [("_law_second", s.heap.objs.size + 4), ("_law_first", s.heap.objs.size + 3), ("_law_film", s.heap.objs.size + 1)] rfl ⟨rfl, rfl, rfl, rfl, ⟨rfl, rfl, rfl, rfl, ⟨rfl, rfl, rfl, rfl, trivial⟩⟩⟩ ⟨rfl, ⟨rfl, ⟨rfl, trivial⟩⟩⟩ (i_rng1 n_range (e_b call_len_seq n_len PySem.boot_len (a_cons (e_c 3) a_nil))) (fun _ _ _ _ => (e_call dMom hr pass0 (a_cons (e_ix (ix_listK (K := K) rfl) (e_n 1) (e_n 0)) (a_cons (e_ix (ix_listK (K := K) rfl) (e_n 2) (e_n 0)) (a_cons (e_ix (ix_listK (K := K) rfl) (e_n 3) (e_n 0)) a_nil)))))) a_nil)))))))))))))))))) ?_
  have zl : sizeLine = 16777216 := sizeLine_eq
  refine ⟨_, rfl, _, rfl, a, ns, 0, rfl, hS, _, _, rfl, rfl, (by show (0 : Int) < 7; decide), _, rfl, _, rfl, _, rfl, a, _, rfl, hS, fun p1 hp1 => ?_⟩
  have s1 := Same.new hp1 (.lst (cutV (ns.map V.int) (some 1) (some 32)))
  have mm1 := Int.emod_nonneg (cellOf ns 0 % 7 + ((cutV (ns.map V.int) (some 1) (some 32)).length : Int)) (b := 32) (by decide)
  have mm2 := Int.emod_lt_of_pos (cellOf ns 0 % 7 + ((cutV (ns.map V.int) (some 1) (some 32)).length : Int)) (b := 32) (by decide)
  refine ⟨p1, _, rfl, .inl (SqL.of upd_same), _, _, rfl, rfl, _, _, rfl, rfl, (by show (0 : Int) < 32; decide), a, ns, 1, ((cellOf ns 0 % 7 + ((cutV (ns.map V.int) (some 1) (some 32)).length : Int)) % 32).toNat, vs3' (by omega), s1.seq hS, by omega, fun pc ps H2 s2 hpc0 cl cd2 hl => ?_⟩
  have cd := cd2.cd
  refine ⟨_, rfl, pc, ps, 2000, rfl, cl.mono (by decide) (Nat.le_refl _), by decide, by omega, fun pst rs H3 s3 hst0 sl er => ?_⟩
  have S3 := (s1.trans s2).trans s3
  obtain ⟨qs, eqs⟩ : ∃ qs, qs = rs.reverse := ⟨_, rfl⟩
  have st : ST H3 pst qs := by rw [eqs]; exact sl.st
  have ecs : qs.map (·.2) = strips (ps.map (·.2)) := by
    rw [eqs, List.map_reverse, er]
    rfl
  have em : moments (qs.map (·.2)) = moments (ps.map (·.2)) := by rw [ecs, strips_show fun c hc => (cd.all c hc).1]
  have sn : Sw (qs.map (·.2)) := sw_of cd em
  have mok : ∀ x ∈ moments (ps.map (·.2)), MOk x := fun x hx => by
    obtain ⟨c, hc, hx⟩ := List.mem_flatMap.mp hx
    obtain ⟨y, hy, rfl⟩ := List.mem_map.mp hc
    exact (cl.2 y hy).2.mok (by decide) (by decide) x hx
  have sokA : ∀ c ∈ qs.map (·.2), SOk c := fun c hc => by
    rw [ecs] at hc
    exact sok_fold _ [] (fun s hs => nomatch hs) mok c (List.mem_reverse.mp hc)
  have sok : ∀ c ∈ qs.map (·.2), PyData.strOk c.reel = true := fun c hc => (sokA c hc).rf
  have hmo : (moments (ps.map (·.2))).length ≤ 480 := by
    have h3 := moments_len (m := 12) (ps.map (·.2)) fun c hc => by
      obtain ⟨x, hx, rfl⟩ := List.mem_map.mp hc
      exact (cl.2 x hx).2.d
    rw [List.length_map] at h3
    omega
  have hql : qs.length ≤ 480 := by
    have h1 := congrArg List.length ecs
    rw [List.length_map] at h1
    have h2 := len_fold (moments (ps.map (·.2))) []
    have h4 : (strips (ps.map (·.2))).length = (List.foldl stepR [] (moments (ps.map (·.2)))).length := List.length_reverse ..
    rw [List.length_nil] at h2
    omega
  have hql' : qs.length ≤ 100000 := by omega
  have hq2 : (qs.map (·.2)).length = qs.length := List.length_map ..
  have hp2 : (ps.map (·.2)).length = ps.length := List.length_map ..
  have hend : endA (qs.map (·.2)) (qs.map (·.2)).length ≤ 480 := by
    have h1 := endA_le (S := qs.map (·.2)) sn.pos _ (Nat.le_refl _)
    rw [List.take_length, ← moments_total, em] at h1
    omega
  have fo : FilmOk (ps.map (·.2)) := film_ok _ _ rfl cd2 fun c hc => by
    obtain ⟨x, hx, rfl⟩ := List.mem_map.mp hc
    exact (cl.2 x hx).2.rf
  have eL1 : ((shown (ps.map (·.2))).length : Int) = endA (ps.map (·.2)) (ps.map (·.2)).length := by
    rw [fo.len]
    have := tend_take (ps.map (·.2)) _ (Nat.le_refl _)
    rw [List.take_length] at this
    exact this
  have eL2 : ((shown (ps.map (·.2))).length : Int) = endA (qs.map (·.2)) (qs.map (·.2)).length := by
    rw [fo.len, ← em]
    have := tend_take (qs.map (·.2)) _ (Nat.le_refl _)
    rw [List.take_length] at this
    exact this
  refine ⟨_, rfl, pc, ps, 2000, rfl, (cl.same s3).mono (by decide) (Nat.le_refl _), by decide, by omega, fo.sd, fun pfm H3' s3' hf0 sh => ?_⟩
  have st := st.same s3'
  refine ⟨fun σ' H4 => ∃ wv fv, σ' = [some (.ref a), some (.ref pc), some (.ref pst), some (.ref pfm), some wv, some fv, none, none, none, none, none, none, none, none, none] ∧ Same H3' H4 ∧ Told (qs.map (·.2)) 0 H3' H4 wv fv, ?_, ?_⟩
  · refine ⟨_, rfl, pst, qs, 0, rfl, st, hql', fun hns tt t l0 l1 ts0 ts1 H9 s9 n0 n1 ne htt ht tl0 tl1 e0 e1 => ?_, fun k z H9 tt ez fs s9 htt => ?_⟩
    · exact ⟨tt, _, rfl, SqT.of htt, rfl, _, _, rfl, _, _, rfl, rfl, _, _, rfl, s9, .inl ⟨hns, rfl, t, l0, l1, ts0, ts1, rfl, n0, n1, ne, ht, tl0, tl1, e0, e1⟩⟩
    · subst ez
      exact ⟨tt, _, rfl, SqT.of htt, rfl, _, _, rfl, _, _, rfl, rfl, _, _, rfl, s9, .inr ⟨k, fs, rfl, rfl⟩⟩
  rintro σ H4 ⟨wv, fv, rfl, s4, td⟩
  have st4 := st.same s4
  refine ⟨_, rfl, pst, qs, rfl, st4, hql', fun pg H9 s9 hg0 hg9 => ?_⟩
  have st9 := st4.same s9
  have gl : ((gapsL (qs.map (·.2))).map V.int).length = qs.length - 2 := by rw [List.length_map, gapsL_len, hq2]
  refine ⟨_, rfl, pg, _, rfl, .inl (SqL.of hg9), _, rfl, by rw [gl]; omega, by rw [gl]; omega, ?_⟩
  rw [gl, Int.toNat_natCast]
  refine compF_rng (fun i => decide (gapA (qs.map (·.2)) (i + 1) < 0)) (fun i => V.int ((i : Int) + 1)) (by omega) ?_ ?_ ?_
  · intro i H10 R hi s10 hR
    have gi : ((gapsL (qs.map (·.2))).map V.int)[i]? = some (.int (gapA (qs.map (·.2)) (i + 1))) := by
      rw [List.getElem?_map, gapsL_get (by rw [hq2]; exact hi)]
      rfl
    exact ⟨_, rfl, _, rfl, pg, _, _, _, rfl, rfl, SqL.of (s10 _ _ hg9), atI_int (k := i) (by omega) gi, _, _, rfl, rfl, _, rfl, hR H10 (Same.refl _)⟩
  · intro i H10 R hi s10 hp hR
    refine ⟨_, rfl, _, _, rfl, rfl, ?_⟩
    have := hR H10 (Same.refl _)
    show R (.int ((0 + (i : Int)) + 1)) H10
    rw [show (0 + (i : Int)) + 1 = (i : Int) + 1 by omega]
    exact this
  intro D H10 s10 hD0 hD
  have hD : H10 D = some (.lst ((shortL (qs.map (·.2)) 0).map V.int)) := by
    rw [hD]
    unfold shortL
    rw [List.map_map, hq2]
    rfl
  have td10 := (td.same s9).same s10
  have st10 := st9.same s10
  refine ⟨_, rfl, (by show 0 ≤ sizeLine; decide), fun p11 hp11 => ?_⟩
  have s11 := Same.new hp11 (.lst [])
  have hD11 := s11 _ _ hD
  have td11 := td10.same s11
  have st11 := st10.same s11
  have S11 : Same H3' (upd H10 p11 (.lst [])) := ((s4.trans s9).trans s10).trans s11
  refine ⟨_, _, .lst (SqL.of hD11) (denInts _), .lst (SqL.of upd_same) .nil, layIs _, rfl, Nat.le_trans (Nat.min_le_left _ _) (depIs _), _, rfl, ?_⟩
  rw [eqv_nilB]
  generalize upd H10 p11 (.lst []) = H11 at *
  cases hsl : shortL (qs.map (·.2)) 0 with
  | cons x0 xr =>
    obtain ⟨k0', ex0, fs0⟩ := short_head hsl
    rcases td11 with ⟨hns, _⟩ | ⟨k, fs, rfl, rfl⟩
    · exact absurd fs0.1 (hns k0')
    have ek := fs0.uniq fs
    subst ek
    subst ex0
    rw [hsl] at hD11
    refine iteT ⟨_, rfl, _, rfl, (by show 2 ≤ sizeLine; decide), fun p12 hp12 => ?_⟩
    have s12 := Same.new hp12 (.tup [.str (Str.ofString "short"), .int (k0' : Int)])
    refine ⟨_, rfl, D, _, _, .int (k0' : Int), rfl, rfl, SqL.of (s12 _ _ hD11), atI_nat (j := 0) rfl, (by show 2 ≤ sizeLine; decide), fun p13 hp13 => ?_⟩
    have s13 := Same.new hp13 (.tup [.str (Str.ofString "short"), .int (k0' : Int)])
    have lay : (PyData.tuple [.str (Str.ofString "short"), .int (k0' : Int)]).canLay0 = true := by
      have : PyData.strOk (Str.ofString "short") = true := by decide +kernel
      simp [PyData.canLay0, PyData.canLayAll0, this]
    refine ⟨.tuple [.str (Str.ofString "short"), .int (k0' : Int)], .tuple [.str (Str.ofString "short"), .int (k0' : Int)], .tup (SqT.of (s13 _ _ upd_same)) (.cons (.str _) (.cons (.int _) .nil)), .tup (SqT.of upd_same) (.cons (.str _) (.cons (.int _) .nil)), lay, lay, by simp [PyData.depth, PyData.depthAll], ?_⟩
    rw [PySem.SeqAt.eqv_refl _ lay]
    exact q _
  | nil =>
    have lft : (∀ k, ¬ Short (qs.map (·.2)) 0 k) ∧ wv = .str (Str.ofString "laid") ∧ ∃ t l0 l1 ts0 ts1, fv = .ref t ∧ H3' l0 = none ∧ H3' l1 = none ∧ l0 ≠ l1 ∧ H11 t = some (.tup [.ref l0, .ref l1]) ∧ TL H11 l0 ts0 ∧ TL H11 l1 ts1 ∧ ts0.map (·.2) = fullA (qs.map (·.2)) 0 ∧ ts1.map (·.2) = fullA (qs.map (·.2)) 1 := by
      rcases td11 with h | ⟨k, fs, _⟩
      · exact h
      · exact absurd fs.1 (short_nil hsl k)
    obtain ⟨hns, rfl, t, l0, l1, ts0, ts1, rfl, n0, n1, ne, ht, tl0, tl1, e0, e1⟩ := lft
    have rl : ∀ (ts : List (Addr × Th)) (fi : Nat), fi ≤ 1 → ts.map (·.2) = fullA (qs.map (·.2)) fi → RlOk (qs.map (·.2)) (ts.map (·.2)) := fun ts fi hf e => by
      obtain ⟨h1, h2⟩ := full_showsW sn (Int.le_refl 0) hns fi hf
      have h3 := fullA_len (qs.map (·.2)) fi
      rw [hq2] at h3
      rw [e]
      exact ⟨fun t ht => (h2 t ht).1, fun t ht => (h2 t ht).2, fun c hc => (sokA c hc).sm, by omega, by omega⟩
    have r0 := rl ts0 0 (by decide) e0
    have r1 := rl ts1 1 (by decide) e1
    obtain ⟨ln0, _⟩ := full_showsW sn (Int.le_refl 0) hns 0 (by decide)
    obtain ⟨ln1, _⟩ := full_showsW sn (Int.le_refl 0) hns 1 (by decide)
    refine iteF ⟨_, rfl, rfl, _, rfl, iteN (by rw [decide_eq_true rfl]; rfl) ?_⟩
    refine ⟨_, rfl, t, _, rfl, SqT.of ht, rfl, _, _, rfl, _, _, rfl, rfl, ?_⟩
    refine ⟨_, rfl, _, rfl, pst, l0, qs, ts0, rfl, st11, tl0, hql', r0, fun pf0 H12 s12 hpf00 ml0 => ?_⟩
    refine ⟨_, rfl, _, rfl, pst, l1, qs, ts1, rfl, st11.same s12, tl1.same s12, hql', r1, fun pf1 H13 s13 hpf10 ml1 => ?_⟩
    rw [e0] at ml0
    rw [e1] at ml1
    have V13 := s12.trans s13
    obtain ⟨fvs, hfm, ftd⟩ := sh.same (S11.trans V13)
    obtain ⟨us0, hus0, mus0⟩ := ml0.same s13
    obtain ⟨us1, hus1, mus1⟩ := ml1
    have lfm : fvs.length = (shown (ps.map (·.2))).length := by rw [ftd.len, List.length_map]
    have lu0 := mus0.len
    have lu1 := mus1.len
    have clst := ((cl.same s3).same s3').same (S11.trans V13)
    have st13 := st11.same V13
    refine ⟨_, rfl, _, _, _, true, rfl, TyOf.lst hfm, .inr ⟨_, rfl⟩, kit_self, true, rfl, iteF ?_⟩
    refine ⟨_, rfl, pfm, _, rfl, .inl (SqL.of hfm), _, rfl, pc, ps, rfl, clst.st, by omega, fun H14 s14 => ⟨rfl, _, rfl, iteN ?_ ?_⟩⟩
    · rw [decide_eq_true (congrArg V.int (by rw [lfm, eL1, hp2]))]
      rfl
    have hfm14 := s14 _ _ hfm
    have hus014 := s14 _ _ hus0
    have hus114 := s14 _ _ hus1
    refine ⟨_, rfl, pf0, _, rfl, .inl (SqL.of hus014), _, rfl, pfm, _, rfl, .inl (SqL.of hfm14), rfl, _, rfl, iteN ?_ ?_⟩
    · rw [decide_eq_true (congrArg (fun n : Nat => V.int (n : Int)) (by omega))]
      rfl
    refine ⟨_, rfl, pf1, _, rfl, .inl (SqL.of hus114), _, rfl, pfm, _, rfl, .inl (SqL.of hfm14), rfl, _, rfl, iteN ?_ ?_⟩
    · rw [decide_eq_true (congrArg (fun n : Nat => V.int (n : Int)) (by omega))]
      rfl
    have st14 := st13.same s14
    have mus0' := mus0.same s14
    have mus1' := mus1.same s14
    refine ⟨_, rfl, pst, _, rfl, .inl (SqL.of st14.1), _, rfl, by rw [List.length_map]; omega, by rw [List.length_map]; omega, ?_⟩
    rw [List.length_map, Int.toNat_natCast]
    have ly := ly_of sn hns
    refine for_range (lo := 0) (n := qs.length) (fun i σ H' => ∃ o13 o14 : Option V, σ = [some (.ref a), some (.ref pc), some (.ref pst), some (.ref pfm), some (.str (Str.ofString "laid")), some (.ref t), some (.ref pg), some (.ref D), some (.ref l0), some (.ref l1), some (.ref pf0), some (.ref pf1), some (.int (endA (qs.map (·.2)) i)), o13, o14] ∧ Same H14 H') ⟨none, none, rfl, Same.refl _⟩ ?_ ?_
    · rintro i σ H' hi ⟨o13, o14, rfl, w⟩
      have st' := st14.same w
      obtain ⟨a1, g1, ha1, hg1⟩ := st'.get hi
      refine ⟨_, rfl, _, rfl, (by show 2 ≤ sizeLine; decide), fun p4 hp4 => ?_⟩
      have t4 := Same.new hp4 (.lst [V.ref pf0, .ref pf1])
      -- the moment at which it begins
      have bg0 : 0 ≤ bgA (qs.map (·.2)) i := by
        have h1 := ly.mono (i := 0) i (by rw [hq2]; omega)
        rw [Nat.zero_add] at h1
        have hget0 : (qs.map (·.2))[0]? = some (clA (qs.map (·.2)) 0) := by
          have := List.getElem?_eq_getElem (l := qs.map (·.2)) (i := 0) (by rw [hq2]; omega)
          rw [this, clA_get this]
        have h2 := sn.fst _ hget0
        have h3 : bgA (qs.map (·.2)) 0 = 0 - (clA (qs.map (·.2)) 0).f := rfl
        omega
      obtain ⟨b, hb⟩ : ∃ b : Nat, bgA (qs.map (·.2)) i = (b : Int) := ⟨(bgA (qs.map (·.2)) i).toNat, by omega⟩
      have hlast : bgA (qs.map (·.2)) i < endA (qs.map (·.2)) (qs.map (·.2)).length := by
        have h1 := end_mono sn hns ((qs.map (·.2)).length - (i + 1)) (i + 1) (by rw [hq2]; omega) (by omega)
        rw [show i + 1 + ((qs.map (·.2)).length - (i + 1)) = (qs.map (·.2)).length by rw [hq2]; omega] at h1
        have h2 : endA (qs.map (·.2)) (i + 1) = bgA (qs.map (·.2)) i + (clA (qs.map (·.2)) i).cnt := rfl
        have := cnt_pos (clA (qs.map (·.2)) i)
        omega
      have cov : covers (qs.map (·.2)) b i = true := by
        refine decide_eq_true ⟨by omega, ?_⟩
        have h2 : endA (qs.map (·.2)) (i + 1) = bgA (qs.map (·.2)) i + (clA (qs.map (·.2)) i).cnt := rfl
        have := cnt_pos (clA (qs.map (·.2)) i)
        omega
      have exk : xk (qs.map (·.2)) b i = ((clA (qs.map (·.2)) i).reel, (clA (qs.map (·.2)) i).a) := by
        unfold xk
        rw [hb, Int.sub_self, Int.zero_mul, Int.add_zero]
      have sel : ∃ (pp : Addr) (us : List V) (v : V), atI [V.ref pf0, .ref pf1] ((0 + (i : Int)) % 2) = some (.ref pp) ∧ H' pp = some (.lst us) ∧ us[b]? = some v ∧ MV H' v (some ((clA (qs.map (·.2)) i).reel, (clA (qs.map (·.2)) i).a)) ∧ b + 1 ≤ us.length := by
        by_cases par : i % 2 = 0
        · have h1 := (shows_at sn hns 0 (by decide) b (by omega)).1 i (by rw [hq2]; exact hi) par cov
          rw [exk] at h1
          obtain ⟨v, hv, mv⟩ := MVs.at (mus0'.same w) h1
          exact ⟨pf0, us0, v, by rw [show (0 + (i : Int)) % 2 = ((0 : Nat) : Int) by omega]; rfl, w _ _ hus014, hv, mv, (List.getElem?_eq_some_iff.mp hv).1⟩
        · have h1 := (shows_at sn hns 1 (by decide) b (by omega)).1 i (by rw [hq2]; exact hi) (by omega) cov
          rw [exk] at h1
          obtain ⟨v, hv, mv⟩ := MVs.at (mus1'.same w) h1
          exact ⟨pf1, us1, v, by rw [show (0 + (i : Int)) % 2 = ((1 : Nat) : Int) by omega]; rfl, w _ _ hus114, hv, mv, (List.getElem?_eq_some_iff.mp hv).1⟩
      obtain ⟨pp, us, v, hsel, hpp, hv, mv, hbl⟩ := sel
      refine ⟨_, rfl, _, _, rfl, rfl, (by show (0 : Int) < 2; decide), p4, _, _, .ref pp, rfl, rfl, SqL.of upd_same, hsel, ?_⟩
      have ha4 := t4 _ _ ha1
      refine ⟨_, rfl, _, rfl, _, rfl, pst, _, _, _, rfl, rfl, SqL.of (t4 _ _ st'.1), atI_int (k := i) (by omega) g1, a1, _, _, .int _, rfl, rfl, SqT.of ha4, atI_nat (j := 3) rfl, _, _, rfl, rfl, ?_⟩
      have ecut : cutV us (some (bgA (qs.map (·.2)) i)) (some (bgA (qs.map (·.2)) i + 1)) = [v] := by
        rw [hb]
        have := cut_mid (xs := us) (a := b) (n := 1) hbl
        rw [one_of hv] at this
        exact this
      refine ⟨_, rfl, _, rfl, _, rfl, _, rfl, _, _, rfl, rfl, _, rfl, pp, _, rfl, SqL.of (t4 _ _ hpp), fun p5 hp5 => ?_⟩
      have hee : upd (upd H' p4 (.lst [V.ref pf0, .ref pf1])) p5 (.lst (cutV us (some (bgA (qs.map (·.2)) i)) (some (bgA (qs.map (·.2)) i + 1)))) = upd (upd H' p4 (.lst [V.ref pf0, .ref pf1])) p5 (.lst [v]) := by rw [ecut]
      have t5 := Same.new hp5 (.lst [v])
      have g5 := upd_same (H := upd H' p4 (.lst [V.ref pf0, .ref pf1])) (a := p5) (o := .lst [v])
      show tLst _ _ (upd (upd H' p4 (.lst [V.ref pf0, .ref pf1])) p5 (.lst (cutV us (some (bgA (qs.map (·.2)) i)) (some (bgA (qs.map (·.2)) i + 1))))) _
      rw [hee]
      have T5 := t4.trans t5
      generalize upd (upd H' p4 (.lst [V.ref pf0, .ref pf1])) p5 (.lst [v]) = H5 at T5 g5
      refine ⟨_, rfl, _, rfl, pst, _, _, _, rfl, rfl, SqL.of (T5 _ _ st'.1), atI_int (k := i) (by omega) g1, _, rfl, a1, _, rfl, T5 _ _ ha1, fun p6 H6 s6 hp6 => ?_⟩
      have hp6 : H6 p6 = some (.tup [.str (clA (qs.map (·.2)) i).reel, .int (clA (qs.map (·.2)) i).a]) := hp6
      refine ⟨(by show 1 ≤ sizeLine; decide), fun p7 hp7 => ?_⟩
      have t7 := Same.new hp7 (.lst [V.ref p6])
      have T7 := (T5.trans s6).trans t7
      have okv : ∀ m ∈ [(some ((clA (qs.map (·.2)) i).reel, (clA (qs.map (·.2)) i).a) : Mv)], MvOk m := fun m hm x hx => by
        rw [List.mem_singleton.mp hm] at hx
        cases hx
        exact sok _ (List.mem_of_getElem? hg1)
      have m1 : MVs (upd H6 p7 (.lst [V.ref p6])) [v] [some ((clA (qs.map (·.2)) i).reel, (clA (qs.map (·.2)) i).a)] := .cons (mv.same T7) .nil
      have m2 : MVs (upd H6 p7 (.lst [V.ref p6])) [.ref p6] [some ((clA (qs.map (·.2)) i).reel, (clA (qs.map (·.2)) i).a)] := .cons ⟨p6, rfl, t7 _ _ hp6⟩ .nil
      refine ⟨_, _, .lst (SqL.of (t7 _ _ (s6 _ _ g5))) m1.den, .lst (SqL.of upd_same) m2.den, layM okv, layM okv, Nat.le_trans (Nat.min_le_left _ _) (depM _), _, rfl, iteN (by rw [PySem.SeqAt.eqv_refl _ (layM okv)]; rfl) ?_⟩
      refine ⟨_, rfl, _, rfl, _, rfl, pst, _, _, _, rfl, rfl, SqL.of (T7 _ _ st'.1), atI_int (k := i) (by omega) g1, a1, _, rfl, T7 _ _ ha1, _, _, rfl, rfl, _, _, rfl, w.trans T7⟩
    · rintro σ H15 ⟨o13, o14, rfl, w15⟩
      have hfm15 := w15 _ _ hfm14
      have hus015 := w15 _ _ hus014
      have hus115 := w15 _ _ hus114
      have ftd15 : Tds H15 fvs ((shown (ps.map (·.2))).map momD) := ftd.tk (TK.of (s14.trans w15))
      have mu0 := mus0'.same w15
      have mu1 := mus1'.same w15
      refine ⟨_, rfl, pfm, _, rfl, .inl (SqL.of hfm15), _, rfl, by omega, by omega, ?_⟩
      rw [Int.toNat_natCast]
      refine comp_rng (fun _ => V.bl true) (by omega) ?_ ?_
      · intro i H' R hi s16 hR
        have hmi : (shown (ps.map (·.2)))[i]? = some ((shown (ps.map (·.2)))[i]'(by omega)) := List.getElem?_eq_getElem (by omega)
        have hvf : fvs[i]? = some fvs[i] := List.getElem?_eq_getElem hi
        obtain ⟨d, hd, tdx⟩ := (ftd15.tk (TK.of s16)).get hvf
        rw [List.getElem?_map, hmi] at hd
        cases hd
        obtain ⟨u, v, hu, hv, hcv⟩ := moment_ok sn hns i (by rw [← eL2]; omega)
        obtain ⟨v0, hv0, m0⟩ := MVs.at (mu0.same s16) hu
        obtain ⟨v1, hv1, m1⟩ := MVs.at (mu1.same s16) hv
        have hfr := fo.cv i
        rw [List.getD_eq_getElem?_getD, hmi, ← em] at hfr
        have hfr : ((shown (ps.map (·.2)))[i]'(by omega)).map frm = Cv (moments (qs.map (·.2))) i := hfr
        rw [← hfr] at hcv
        have hm2 := (ms_shown fo.sd _ (Nat.le_refl _)) ((shown (ps.map (·.2)))[i]'(by omega)) (by rw [List.take_length]; exact List.getElem_mem _)
        have oku := shows_ok (cs := qs.map (·.2)) (ts := fullA (qs.map (·.2)) 0) sok u (List.mem_of_getElem? hu)
        have okv := shows_ok (cs := qs.map (·.2)) (ts := fullA (qs.map (·.2)) 1) sok v (List.mem_of_getElem? hv)
        have okth : ∀ x ∈ there u v, PyData.strOk x.1 = true := fun x hx => by
          unfold there at hx
          obtain ⟨y, hy, e⟩ := List.mem_filterMap.mp hx
          simp only [List.mem_cons, List.not_mem_nil, or_false] at hy
          rcases hy with rfl | rfl
          · exact oku x e
          · exact okv x e
        refine ⟨_, rfl, _, rfl, pfm, _, _, _, rfl, rfl, SqL.of (s16 _ _ hfm15), atI_int (k := i) (by omega) hvf, _, rfl, _, rfl, pf0, _, _, _, rfl, rfl, SqL.of (s16 _ _ hus015), atI_int (k := i) (by omega) hv0, _, rfl, _, rfl, pf1, _, _, _, rfl, rfl, SqL.of (s16 _ _ hus115), atI_int (k := i) (by omega) hv1, _, v0, v1, _, u, v, rfl, tdx, m0, m1, hm2.2.2, okth, hcv, fun H'' s'' => hR H'' s''⟩
      · intro D2 H17 s17 hD20 hD2
        have ebs : ((List.range fvs.length).map fun _ => V.bl true) = ((List.range fvs.length).map fun _ => true).map V.bl := by rw [List.map_map]; rfl
        rw [ebs] at hD2
        refine ⟨D2, _, rfl, SqL.of hD2, rfl, ?_⟩
        have e : ((List.range fvs.length).map fun _ => true).all id = true := by
          rw [List.all_map]
          simp
        rw [e]
        exact q _
end
end K32

set_option linter.all false
set_option maxRecDepth 100000
set_option maxHeartbeats 4000000
namespace K32
open PySem L2 G
structure Cs where
  c7 : Addr
structure CAll (K : PySem.W.Frag) (c : Cs) : Prop where
  m7 : PySem.W.nsIn K mainGlobals "TooShort" = some (some (.ref c.c7))
  e7 : ∃ bm id, ExcC K c.c7 bm id ∧ bm.contains (.type "BaseException") = true
  i7 : InitIn K c.c7 "TooShort.__init__" s_TooShort_init
  x7_number : XNo K c.c7 "number"
theorem cs_mk {K : PySem.W.Frag} {c7 : Addr} (m7 : PySem.W.nsIn K mainGlobals "TooShort" = some (some (.ref c7))) 
    {bmQ7 bsQ7 subQ7 : List Value} {idQ7 : String} {NQ7 : Addr} {nmQ7 qnQ7 : Str} {hdQ7 abQ7 : Bool} {snQ7 : List Str} {colQ7 : Option Bool} {ddQ7 : Option Addr} {aQ70 aQ71 aQ72 aQ73 aQ75 : Option Value} 
    (lQ7 : K.lookup c7 = some (excClassObj nmQ7 qnQ7 c7 NQ7 bsQ7 bmQ7 hdQ7 snQ7 subQ7 abQ7 colQ7 ddQ7 aQ70 aQ71 aQ72 aQ73 aQ75 idQ7)) (hbQ7 : bmQ7.contains (.type "BaseException") = true) (I7 : InitIn K c7 "TooShort.__init__" s_TooShort_init) (x7_number : PySem.W.findIn K (.ref c7) "number" = some none) : ∃ c : Cs, CAll K c :=
  ⟨⟨c7⟩, m7, ⟨bmQ7, idQ7, .mk lQ7, hbQ7⟩, I7, x7_number⟩
structure DsIn (K : PySem.W.Frag) : Prop where
  fin : FunIn K "frames_in" s_frames_in
  way : FunIn K "way_of" s_way_of
  nos : FunIn K "numbers_of" s_numbers_of
  len : FunIn K "length" s_length
  can : FunIn K "can_have" s_can_have
  take : FunIn K "take_frame" s_take_frame
  strips : FunIn K "strips_of" s_strips_of
  near : FunIn K "refuse_near" s_refuse_near
  bg : FunIn K "begins_of" s_begins_of
  put : FunIn K "put_leader" s_put_leader
  laid : FunIn K "laid" s_laid
  rolls : FunIn K "rolls" s_rolls
  cell : FunIn K "_law_cell" s__law_cell
  num : FunIn K "_law_numbers" s__law_numbers
  lfr : FunIn K "_law_frames" s__law_frames
  clip : FunIn K "_law_clip" s__law_clip
  clips : FunIn K "_law_clips" s__law_clips
  begs : FunIn K "_law_begins" s__law_begins
  gaps : FunIn K "_law_gaps" s__law_gaps
  fr : FunIn K "frames_of" s_frames_of
  shows : FunIn K "roll_shows" s_roll_shows
  faded : FunIn K "faded" s_faded
  sc : FunIn K "show_clip" s_show_clip
  shown : FunIn K "shown" s_shown
  mom : FunIn K "_law_moment" s__law_moment
  asked : FunIn K "_law_asked" s__law_asked
  law : FunIn K "law" s_law
structure NsIn (K : PySem.W.Frag) (t : Nat → Tok) : Prop where
  zlen : PySem.W.nsIn K mainGlobals "len" = some none
  zint : PySem.W.nsIn K mainGlobals "int" = some none
  zrng : PySem.W.nsIn K mainGlobals "range" = some none
  zabs : PySem.W.nsIn K mainGlobals "abs" = some none
  zmin : PySem.W.nsIn K mainGlobals "min" = some none
  zsum : PySem.W.nsIn K mainGlobals "sum" = some none
  zlist : PySem.W.nsIn K mainGlobals "list" = some none
  zisi : PySem.W.nsIn K mainGlobals "isinstance" = some none
  zenum : PySem.W.nsIn K mainGlobals "enumerate" = some none
  zall : PySem.W.nsIn K mainGlobals "all" = some none
theorem ns_mk {K : PySem.W.Frag}   
    (b0 : PySem.W.nsIn K mainGlobals "len" = some none) (b1 : PySem.W.nsIn K mainGlobals "int" = some none) (b2 : PySem.W.nsIn K mainGlobals "range" = some none) (b3 : PySem.W.nsIn K mainGlobals "abs" = some none) (b4 : PySem.W.nsIn K mainGlobals "min" = some none) (b5 : PySem.W.nsIn K mainGlobals "sum" = some none) (b6 : PySem.W.nsIn K mainGlobals "list" = some none) (b7 : PySem.W.nsIn K mainGlobals "isinstance" = some none) (b8 : PySem.W.nsIn K mainGlobals "enumerate" = some none) (b9 : PySem.W.nsIn K mainGlobals "all" = some none) : ∃ t, NsIn K t := by
  exact ⟨fun i => [].getD i 0, b0, b1, b2, b3, b4, b5, b6, b7, b8, b9⟩
theorem all_mk {l : PySem.W.OpenLaw} {w : World} {K : PySem.W.Frag} {h : Heap} {mg : Str → Option Value} {fa : Addr} (X : K.In h) (G : h.Ns mainGlobals mg) (hfa : mg "law" = some (.ref fa)) {t : Nat → Tok} (D : DsIn K) (Z : NsIn K t) (CC : ∃ c : Cs, CAll K c) :
    ∃ fd : FuncData, (∀ (s : Shared) (v : Value), BindsTo s fd ⟨[v], []⟩ [("_law_script", v)]) ∧ ∀ base : Heap, K.In base → base.Ns mainGlobals mg → FnOk l.prog w K mg base CX0 6 fa fd ["_law_script"] (spLaw K) := by
  obtain ⟨c, m7', ⟨bm7, id7, c7, hB7⟩, I7, x7_number⟩ := CC
  have M7 := PySem.W.mg_of X G m7'
  have nlen := PySem.W.mg_none_of X G Z.zlen
  have nint := PySem.W.mg_none_of X G Z.zint
  have nrng := PySem.W.mg_none_of X G Z.zrng
  have nabs := PySem.W.mg_none_of X G Z.zabs
  have nmin := PySem.W.mg_none_of X G Z.zmin
  have nsum := PySem.W.mg_none_of X G Z.zsum
  have nlist := PySem.W.mg_none_of X G Z.zlist
  have nisi := PySem.W.mg_none_of X G Z.zisi
  have nenum := PySem.W.mg_none_of X G Z.zenum
  have nall := PySem.W.mg_none_of X G Z.zall
  obtain ⟨fl, fdl, al, FL⟩ := D.law
  have e := hfa.symm.trans (PySem.W.mg_of X G al)
  cases e
  refine ⟨fdl, fun s v => ?_, fun base _ _ => ?_⟩
  · obtain ⟨oc, od, kV, doc, pm, an, cdv, ct, osl, rfl, lk, hcd⟩ := FL.ex
    exact .of_eq rfl
  obtain ⟨f7, fd7, R7, F7⟩ := I7.ex
  have b7 := F7.binds (ps := ["self", "number"]) fun _ _ _ _ _ _ us hl => match us, hl with | [_, _], _ => rfl
  have dFin : Def l.prog w K mg base CX0 "frames_in" 1 ["clip"] spFin := Def.of X G D.fin (fun f fd F => ok_fin F nabs) fun _ _ _ _ _ _ us hl => match us, hl with | [_], _ => rfl
  have dWay : Def l.prog w K mg base CX0 "way_of" 1 ["clip"] spWay := Def.of X G D.way (fun f fd F => ok_way F) fun _ _ _ _ _ _ us hl => match us, hl with | [_], _ => rfl
  have dNos : Def l.prog w K mg base CX0 "numbers_of" 2 ["clip"] spFr := Def.of X G D.nos (fun f fd F => ok_nos F dWay nlist nrng) fun _ _ _ _ _ _ us hl => match us, hl with | [_], _ => rfl
  have dLen : Def l.prog w K mg base CX0 "length" 2 ["clips"] spLen := Def.of X G D.len (fun f fd F => ok_len F dFin nsum) fun _ _ _ _ _ _ us hl => match us, hl with | [_], _ => rfl
  have dCan : Def l.prog w K mg base CX0 "can_have" 2 ["strip", "reel", "number"] spCan := Def.of X G D.can (fun f fd F => ok_can F dWay nabs) fun _ _ _ _ _ _ us hl => match us, hl with | [_, _, _], _ => rfl
  have dTake : Def l.prog w K mg base CX0 "take_frame" 3 ["strips", "reel", "number"] spTake := Def.of X G D.take (fun f fd F => ok_take F dCan) fun _ _ _ _ _ _ us hl => match us, hl with | [_, _, _], _ => rfl
  have dStrips : Def l.prog w K mg base CX0 "strips_of" 4 ["clips"] spStrips := Def.of X G D.strips (fun f fd F => ok_strips F dNos dTake) fun _ _ _ _ _ _ us hl => match us, hl with | [_], _ => rfl
  have dNear : Def l.prog w K mg base (CX1 l.prog w) "refuse_near" 3 ["strips", "leader"] (spNear c.c7) := Def.of X G D.near (fun f fd F => ok_near F dFin M7 R7 (ok_init F7 I7.xc x7_number) b7 nrng nlen) fun _ _ _ _ _ _ us hl => match us, hl with | [_, _], _ => rfl
  have dBg : Def l.prog w K mg base CX0 "begins_of" 2 ["strips"] spBg := Def.of X G D.bg (fun f fd F => ok_bg F dFin) fun _ _ _ _ _ _ us hl => match us, hl with | [_], _ => rfl
  have dPut : Def l.prog w K mg base CX0 "put_leader" 1 ["roll", "many"] spPut := Def.of X G D.put (fun f fd F => ok_put F) fun _ _ _ _ _ _ us hl => match us, hl with | [_, _], _ => rfl
  have dLaid : Def l.prog w K mg base CX0 "laid" 3 ["strips", "begins", "first"] spLaid := Def.of X G D.laid (fun f fd F => ok_laid F dFin dLen dPut nrng nlen) fun _ _ _ _ _ _ us hl => match us, hl with | [_, _, _], _ => rfl
  have dRolls : Def l.prog w K mg base (CX1 l.prog w) "rolls" 4 ["strips", "leader"] (spRolls c.c7) := Def.of X G D.rolls (fun f fd F => ok_rolls F dNear dBg dLaid) fun _ _ _ _ _ _ us hl => match us, hl with | [_, _], _ => rfl
  have dCell : Def l.prog w K mg base CX0 "_law_cell" 1 ["_law_script", "_law_k"] (spCell K) := Def.of X G D.cell (fun f fd F => ok_cell F nlen) fun _ _ _ _ _ _ us hl => match us, hl with | [_, _], _ => rfl
  have dNum : Def l.prog w K mg base CX0 "_law_numbers" 1 ["_law_cell_here", "_law_many"] spNum := Def.of X G D.num (fun f fd F => ok_num F nabs nrng nint) fun _ _ _ _ _ _ us hl => match us, hl with | [_, _], _ => rfl
  have dLFr : Def l.prog w K mg base CX0 "_law_frames" 1 ["_law_clip_here"] spFin := Def.of X G D.lfr (fun f fd F => ok_lfr F nabs) fun _ _ _ _ _ _ us hl => match us, hl with | [_], _ => rfl
  have dClip : Def l.prog w K mg base CX0 "_law_clip" 2 ["_law_clips_here", "_law_cell_here", "_law_at"] spClip := Def.of X G D.clip (fun f fd F => ok_clip F dNum dLFr nabs nmin) fun _ _ _ _ _ _ us hl => match us, hl with | [_, _, _], _ => rfl
  have dClips : Def l.prog w K mg base CX0 "_law_clips" 3 ["_law_script", "_law_at", "_law_many"] (spClips K) := Def.of X G D.clips (fun f fd F => ok_clips F dClip dCell nrng) fun _ _ _ _ _ _ us hl => match us, hl with | [_, _, _], _ => rfl
  have dBegs : Def l.prog w K mg base CX0 "_law_begins" 2 ["_law_strips"] spBegs := Def.of X G D.begs (fun f fd F => ok_begs F dLFr) fun _ _ _ _ _ _ us hl => match us, hl with | [_], _ => rfl
  have dGaps : Def l.prog w K mg base CX0 "_law_gaps" 3 ["_law_strips"] spGaps := Def.of X G D.gaps (fun f fd F => ok_gaps F dBegs dLFr nrng nlen) fun _ _ _ _ _ _ us hl => match us, hl with | [_], _ => rfl
  have dFr : Def l.prog w K mg base CX0 "frames_of" 3 ["strip"] spFr := Def.of X G D.fr (fun f fd F => ok_fr F dNos) fun _ _ _ _ _ _ us hl => match us, hl with | [_], _ => rfl
  have dShows : Def l.prog w K mg base CX0 "roll_shows" 4 ["strips", "roll"] spShows := Def.of X G D.shows (fun f fd F => ok_shows F dFr) fun _ _ _ _ _ _ us hl => match us, hl with | [_, _], _ => rfl
  have dFaded : Def l.prog w K mg base CX0 "faded" 1 ["going", "reel", "number", "part", "whole"] spFaded := Def.of X G D.faded (fun f fd F => ok_faded F) fun _ _ _ _ _ _ us hl => match us, hl with | [_, _, _, _, _], _ => rfl
  have dSC : Def l.prog w K mg base CX0 "show_clip" 3 ["moments", "clip"] spSC := Def.of X G D.sc (fun f fd F => ok_sc F dNos dFaded nlen nenum) fun _ _ _ _ _ _ us hl => match us, hl with | [_, _], _ => rfl
  have dShown : Def l.prog w K mg base CX0 "shown" 4 ["clips"] spShown := Def.of X G D.shown (fun f fd F => ok_shown F dSC) fun _ _ _ _ _ _ us hl => match us, hl with | [_], _ => rfl
  have dMom : Def l.prog w K mg base CX0 "_law_moment" 1 ["_law_frames_here", "_law_one", "_law_other"] spMom := Def.of X G D.mom (fun f fd F => ok_mom F nlen) fun _ _ _ _ _ _ us hl => match us, hl with | [_, _, _], _ => rfl
  have dAsked : Def l.prog w K mg base CX0 "_law_asked" 5 ["_law_strips", "_law_leader"] spAsked := Def.of X G D.asked (fun f fd F => ok_asked F dRolls M7 c7 hB7 I7.ek I7.xc x7_number) fun _ _ _ _ _ _ us hl => match us, hl with | [_, _], _ => rfl
  exact ok_law FL dCell dClips dStrips dShown dLen dGaps dAsked dShows dLFr dMom nrng nlen nlist nisi nall
end K32

set_option Elab.async false
set_option linter.all false
open PySem PySem.W PyProof.Rows
local macro_rules | `(tactic| walk_at "own def") => `(tactic| (dsimp only [L2.KOf]; refine' L2.funIn_mk ?a ?l ?c ?k; (case a => k_is); (case l => k_is); (case c => k_is); (case k => k_is)))
set_option maxRecDepth 100000 in
set_option maxHeartbeats 0 in
theorem PySem.Challenge.cw_leadersplice_k32_whole_rolls_show_the_fi_holds : PySem.Challenge.rw_leadersplice_k32_whole_rolls_show_the_fi.Holds := by
  w_on; o_law; k_head; (case hw => w_witness2)
  k_fill
  refine L2.walk_ofK (l := PySem.Challenge.rw_leadersplice_k32_whole_rolls_show_the_fi) (n := 63) (k := 6) (x := "_law_script") (CX := L2.CX0) (sp := K32.spLaw) rfl (by decide) rfl ⟨rfl, by decide, by decide⟩ (fun w h Y => PySem.W.kIn_of Y) ?F (fun K H a ns hl _ hS => ⟨a, ns, rfl, hS, hl, fun _ => rfl⟩) (fun _ _ _ _ z => z)
  case F =>
    intro w mg fa h KX G hmg
    have D : K32.DsIn (L2.KOf KX) := by
      refine ⟨?_, ?_, ?_, ?_, ?_, ?_, ?_, ?_, ?_, ?_, ?_, ?_, ?_, ?_, ?_, ?_, ?_, ?_, ?_, ?_, ?_, ?_, ?_, ?_, ?_, ?_, ?_⟩ <;> walk_at "own def"
    have Z : ∃ t, K32.NsIn (L2.KOf KX) t := by
      dsimp only [L2.KOf]
      refine' K32.ns_mk ?b0 ?b1 ?b2 ?b3 ?b4 ?b5 ?b6 ?b7 ?b8 ?b9
      (case b0 => k_is); (case b1 => k_is); (case b2 => k_is); (case b3 => k_is); (case b4 => k_is); (case b5 => k_is); (case b6 => k_is); (case b7 => k_is); (case b8 => k_is); (case b9 => k_is)
    have CC : ∃ c : K32.Cs, K32.CAll (L2.KOf KX) c := by
      dsimp only [L2.KOf]
      refine' K32.cs_mk ?xm7 ?xlQ7 ?xhbQ7 ?xI7 ?xx7_number
      (case xm7 => k_is); (case xlQ7 => k_is); (case xhbQ7 => kernel_rfl); (case xx7_number => k_is)
      case xI7 =>
        refine' L2.initIn_mk ?yhi ?yht ?yl ?ycc ?ykk ?ylC ?ytl ?yhcd ?yho ?yhdd ?ysa ?yhm ?yhmo ?yhga ?yhgn ?yhc ?yha ?yhn ?yhtk
        (case yhi => k_is); (case yht => k_is); (case yl => k_is); (case ycc => k_is); (case ykk => k_is); (case ylC => k_is); (case ytl => kernel_rfl); (case yhcd => k_is); (case yho => kernel_rfl); (case yhdd => kernel_rfl); (case ysa => k_is); (case yhm => k_is); (case yhmo => k_is); (case yhga => k_is); (case yhgn => k_is); (case yhc => kernel_rfl); (case yha => k_is); (case yhn => k_is); (case yhtk => k_is)
    obtain ⟨t, Z⟩ := Z
    exact K32.all_mk KX G hmg D Z CC
