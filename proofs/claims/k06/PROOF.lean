import PyProof.Rows.All
import Wide.All
import OpenK.AllK
import Wide.FinOn
import Lean
import PyProof.EqAt
import PyProof.EqKinds
import PyProof.TupleCall
import PyProof.StationsW
import OpenK.KCls
import OpenK.KDescr
import OpenK.KWalk
import PyProof.ExcAttrAll.ValueError
import OpenK.KMake
import PyProof.InstStoreFacts
import PyProof.ExcClass3
import PyProof.StrBlockI
import PyProof.StrBlock2
import PyProof.StrLawsIn
import PyProof.StrLawsIdx
import PyProof.Rows.ReprOcc
import KE.IntTextLaws
import PyProof.ListRange
import PyProof.Rows.Range3
import KE.KStateDown
import PyProof.MaxThree
import PyProof.Claim2
import PyProof.CompFree
import PyProof.CompUse
import PyProof.ListNew
import PyProof.WalksMore
import PyProof.ReprLoop
import KE.KRevIter
import PySem.PyData
import PyProof.SumAny
import PyProof.Rows.SumGenD
import KE.KIntText
import KE.KxText
import PyProof.Rows.StrSplitCount
import PyProof.Rows.RegReprOcc
import KE.IntTextText
import PyProof.Rows.StrSliceCases
import PySem.Challenge.RW_leadersplice_k06_no_list
set_option Elab.async false
set_option Elab.async false
set_option linter.all false
set_option maxRecDepth 100000
/-! THE HAND LAYER, for ints, bools, texts, own classes, LISTS and tuples (index, slices, in, append, pop ..), calls, loops. Paste it whole ahead of your own text; what your proof does not reach may be deleted. -/
namespace L2
open PySem PySem.Spec PyProof.Rows

/-- a key: an int or a str -/
abbrev Key := Sum Int Str
def keyIs : Key → Value → Bool
  | .inl k, v => Value.isInt k v
  | .inr x, v => Value.isStrOf x v
def keyH (w : World) : Key → Int
  | .inl k => hashInt k
  | .inr x => hashStr w x
theorem keyIs_shape : ∀ {k : Key} {v : Value}, keyIs k v = true → (∃ i t, k = Sum.inl i ∧ v = Value.int i t) ∨ (∃ x t, k = Sum.inr x ∧ v = Value.str x t)
  | .inl i, v, h => by
    obtain ⟨t, e⟩ := Value.isInt_shape (k := i) (v := v) h
    exact .inl ⟨i, t, rfl, e⟩
  | .inr x, v, h => by
    obtain ⟨t, e⟩ := Value.isStrOf_shape (x := x) (v := v) h
    exact .inr ⟨x, t, rfl, e⟩
theorem key_ll (a b : Int) : decide ((Sum.inl a : Key) = Sum.inl b) = (a == b) := by
  by_cases e : a = b
  · subst e; simp
  · have h : ¬ (Sum.inl a : Key) = Sum.inl b := fun q => e (Sum.inl.inj q)
    rw [decide_eq_false h]
    exact (beq_eq_false_iff_ne.mpr e).symm
theorem key_rr (a b : Str) : decide ((Sum.inr a : Key) = Sum.inr b) = decide (a = b) := by
  by_cases e : a = b
  · subst e; simp
  · have h : ¬ (Sum.inr a : Key) = Sum.inr b := fun q => e (Sum.inr.inj q)
    rw [decide_eq_false h, decide_eq_false e]
theorem key_lr (a : Int) (b : Str) : decide ((Sum.inl a : Key) = Sum.inr b) = false := decide_eq_false (fun q => nomatch q)
theorem key_rl (a : Str) (b : Int) : decide ((Sum.inr a : Key) = Sum.inl b) = false := decide_eq_false (fun q => nomatch q)

def mixKind (prog : Program) (w : World) : PySem.KeyKind prog w Key where
  is := keyIs
  hash := keyH w
  inj := fun v a b ha hb => by
    rcases keyIs_shape ha with ⟨i, t, rfl, rfl⟩ | ⟨x, t, rfl, rfl⟩
    · rcases keyIs_shape hb with ⟨j, u, rfl, e⟩ | ⟨y, u, rfl, e⟩
      · injection e with e1 _; rw [e1]
      · exact nomatch e
    · rcases keyIs_shape hb with ⟨j, u, rfl, e⟩ | ⟨y, u, rfl, e⟩
      · exact nomatch e
      · injection e with e1 _; rw [e1]
  byValue := fun k v h => by
    rcases keyIs_shape h with ⟨i, t, rfl, rfl⟩ | ⟨x, t, rfl, rfl⟩ <;> rfl
  pyHash := fun hv h => by
    rcases keyIs_shape hv with ⟨i, t, rfl, rfl⟩ | ⟨x, t, rfl, rfl⟩
    · exact wpAny_pyHash_int h
    · exact wpAny_pyHash_str h
  eqBool := fun hu hv h => by
    rcases keyIs_shape hu with ⟨i, t, rfl, rfl⟩ | ⟨x, t, rfl, rfl⟩
    · rcases keyIs_shape hv with ⟨j, u, rfl, rfl⟩ | ⟨y, u, rfl, rfl⟩
      · rw [key_ll] at h; exact wpAny_eqBool_int h
      · rw [key_lr] at h; exact SeqAt.EqAt.int_str i t y u _ _ _ _ h
    · rcases keyIs_shape hv with ⟨j, u, rfl, rfl⟩ | ⟨y, u, rfl, rfl⟩
      · rw [key_rl] at h; exact SeqAt.EqAt.str_int x t j u _ _ _ _ h
      · rw [key_rr] at h; exact wpAny_eqBool_str h
  «strs» := fun k x t v h => by
    rcases keyIs_shape h with ⟨i, u, rfl, e⟩ | ⟨y, u, rfl, e⟩
    · exact nomatch e
    · injection e with e1 _
      subst e1
      cases v <;> rfl

end L2

namespace L2
open PySem PySem.Spec PyProof.Rows

/-- a value, without the heap -/
inductive V where
  | non | bl (b : Bool) | int (i : Int) | str (x : Str) | byt (b : Array UInt8) | flt (b : UInt64) | ref (a : Addr) | ty (n : String)
  deriving DecidableEq

def RelV : V → Value → Prop
  | .non, u => u = Value.none
  | .bl b, u => u = Value.bool b
  | .int i, u => ∃ t, u = Value.int i t
  | .str x, u => ∃ t, u = Value.str x t
  | .byt b, u => ∃ t, u = Value.bytes b t
  | .flt b, u => ∃ t, u = Value.float b t
  | .ref a, u => u = Value.ref a
  | .ty n, u => u = Value.type n

abbrev Vals : List V → List Value → Prop := Paired RelV
theorem Vals.length {xs : List V} {us : List Value} (r : Vals xs us) : xs.length = us.length := Paired.length r
theorem Vals.get : ∀ {xs : List V} {us : List Value} {i : Nat} {x : V}, Vals xs us → xs[i]? = some x → ∃ u, us[i]? = some u ∧ RelV x u
  | _, _, _, _, .nil, e => by simp at e
  | _, _, 0, _, .cons r _, e => by simp at e; subst e; exact ⟨_, rfl, r⟩
  | _, _, i + 1, x, .cons _ t, e => by
    obtain ⟨u, h1, h2⟩ := Vals.get (i := i) (x := x) t (by simpa using e)
    exact ⟨u, by simpa using h1, h2⟩
theorem Vals.append : ∀ {xs ys : List V} {us ws : List Value}, Vals xs us → Vals ys ws → Vals (xs ++ ys) (us ++ ws)
  | _, _, _, _, .nil, s => s
  | _, _, _, _, .cons r t, s => .cons r (Vals.append t s)
theorem Vals.take : ∀ {xs : List V} {us : List Value} (n : Nat), Vals xs us → Vals (xs.take n) (us.take n)
  | _, _, 0, _ => .nil
  | _, _, _ + 1, .nil => .nil
  | _, _, n + 1, .cons r t => .cons r (Vals.take n t)
theorem Vals.drop : ∀ {xs : List V} {us : List Value} (n : Nat), Vals xs us → Vals (xs.drop n) (us.drop n)
  | _, _, 0, r => r
  | _, _, _ + 1, .nil => .nil
  | _, _, n + 1, .cons _ t => Vals.drop n t
def RelO : Option V → Option Value → Prop
  | some v, some u => RelV v u
  | none, none => True
  | _, _ => False
def KV {κ : Type} : List (κ × V) → List (κ × Value) → Prop := Paired fun (p : κ × V) (q : κ × Value) => p.1 = q.1 ∧ RelV p.2 q.2

/-- a key of a dict (00_mix): an int or a text -/
def kV : Key → V
  | .inl i => .int i
  | .inr x => .str x

/-- what stands at a tracked address -/
inductive HO where
  /-- a list -/
  | lst (xs : List V)
  /-- a tuple (never changes) -/
  | tup (xs : List V)
  /-- a dict whose keys are ints and texts; one whose keys are tuples of ints and texts (the empty one is both) -/
  | dK (kvs : List (Key × V)) | dT (kvs : List (List Key × V))
  /-- a set of ints: its members, its size -/
  | set (S : Int → Bool) (n : Nat)
  /-- an instance of the class at C, its dict at dx, its attributes -/
  | ins (C dx : Addr) (fs : List (Str × V))
  /-- the dict of the instance at x -/
  | own (x : Addr)
  /-- the dict of an exception -/
  | xd (fs : List (Str × V))
  /-- a bound method, f of x -/
  | met (f x : Addr)
  /-- a range object lo, lo + 1, .. below hi -/
  | rng (lo hi : Int)
  /-- a thing that is known to the object (the script; a dict while a loop walks it): read, never written while it is so -/
  | frz (o : Obj) (u : HO)
  /-- a code object's table -/
  | tbl (ps : Array Value)
  /-- any other thing, by what is true of its one object (a def of one's own: SetO a S n := HO.ext fun h => ..) -/
  | ext (φ : Heap → Prop)

abbrev Hp := Addr → Option HO
def upd (H : Hp) (a : Addr) (o : HO) : Hp := fun b => if b = a then some o else H b
theorem upd_same {H : Hp} {a : Addr} {o : HO} : upd H a o a = some o := by unfold upd; rw [if_pos rfl]
theorem upd_ne {H : Hp} {a b : Addr} {o : HO} (h : b ≠ a) : upd H a o b = H b := by unfold upd; rw [if_neg h]
/-- two objects of different content stand apart -/
theorem ne_of {H : Hp} {a b : Addr} {o u : HO} (h : H a = some o) (h' : H b = some u) (d : o ≠ u) : a ≠ b := by
  intro e; subst e; rw [h] at h'; exact d (Option.some.inj h')
theorem ne_of_none {H : Hp} {a b : Addr} {o : HO} (h : H a = some o) (h' : H b = none) : a ≠ b := by
  intro e; subst e; rw [h] at h'; cases h'

section
variable (P : Program) (w : World)
def ObjOk (H : Hp) (h : Heap) (a : Addr) : HO → Prop
  | .lst xs => xs.length ≤ sizeLine ∧ ∃ (its : List Value) (n : Nat), Vals xs its ∧ h.get? a = some { cls := .type "list", data := .seq its.toArray n }
  | .tup xs => xs.length ≤ sizeLine ∧ ∃ its : List Value, Vals xs its ∧ IsTup h a its.toArray
  | .dK kvs => kvs.length ≤ sizeLine ∧ (a == sysModules) = false ∧ ∃ vs, KV kvs vs ∧ h.DictOf (mixKind P w) a vs
  | .dT kvs => kvs.length ≤ sizeLine ∧ (a == sysModules) = false ∧ ∃ xs : List (List Key × Addr × Value),
      Paired (fun (p : List Key × V) (q : List Key × Addr × Value) => p.1 = q.1 ∧ H q.2.1 = some (.tup (p.1.map kV)) ∧ RelV p.2 q.2.2) kvs xs ∧
      ∃ o es ep, h.get? a = some o ∧ o.ExactDict ∧ o.data = .dict es ep ∧ es.toList = xs.map (entryOfKey (tupleKind (mixKind P w))) ∧ (xs.map (·.1)).Nodup
  | .set S n => h.SetOf (intKind P w) a S n
  | .ins C dx fs => H dx = some (.own a) ∧ fs.length ≤ 1000 ∧ dx ≠ a ∧ h.get? a = some (PySem.W.instObj C dx) ∧
      ∃ mA, h.Ns1 dx mA ∧ (∀ f, RelO (fs.lookup f) (mA f)) ∧ PySem.Within mA (fs.map (·.1))
  | .own _ => ∃ o, h.get? a = some o
  | .xd fs => ∃ mA, h.Ns1 a mA ∧ ∀ f, RelO (fs.lookup f) (mA f)
  | .rng lo hi => ∃ t u v, h.get? a = some { cls := .type "range", data := .fields #[.int lo t, .int hi u, .int 1 v] }
  | .frz o u => h.get? a = some o ∧ ObjOk H h a u
  | .tbl ps => h.get? a = some { cls := .none, data := .fields ps }
  | .met f x => h.get? a = some (PySem.W.methodObj (.ref f) (.ref x))
  | .ext φ => φ h ∧ (∃ o, h.get? a = some o) ∧ ∀ h1 h2 : Heap, φ h1 → (∀ o, h1.get? a = some o → h2.get? a = some o) → φ h2
/-- the abstract heap is held -/
def HOk (H : Hp) (h : Heap) : Prop := ∀ a o, H a = some o → ObjOk P w H h a o
end

section
variable {P : Program} {w : World} {H H' : Hp} {h h' : Heap} {a : Addr} {o : HO}
theorem ObjOk.lt (x : ObjOk P w H h a o) : a < h.objs.size := by
  cases o with
  | lst xs => obtain ⟨_, _, _, _, e⟩ := x; exact Heap.lt_size e
  | tup xs => obtain ⟨_, _, _, p⟩ := x; exact p.lt
  | dK kvs => obtain ⟨_, _, _, _, o, _, _, e, _⟩ := x; exact Heap.lt_size e
  | dT kvs => obtain ⟨_, _, _, _, o, _, _, e, _⟩ := x; exact Heap.lt_size e
  | set S n => obtain ⟨o, _, _, _, e, _⟩ := x; exact Heap.lt_size e
  | ins C dx fs => obtain ⟨_, _, _, e, _⟩ := x; exact Heap.lt_size e
  | own y => obtain ⟨_, e⟩ := x; exact Heap.lt_size e
  | xd fs => obtain ⟨_, ⟨_, _, _, e, _⟩, _⟩ := x; exact Heap.lt_size e
  | rng lo hi => obtain ⟨_, _, _, e⟩ := x; exact Heap.lt_size e
  | frz ob u => obtain ⟨e, _⟩ := x; exact Heap.lt_size e
  | tbl ps => exact Heap.lt_size (show h.get? a = some _ from x)
  | met f y => exact Heap.lt_size (show h.get? a = some _ from x)
  | ext φ => obtain ⟨_, ⟨_, e⟩, _⟩ := x; exact Heap.lt_size e
theorem Paired.mapP {α β : Type} {F G : α → β → Prop} : ∀ {l₁ : List α} {l₂ : List β}, Paired F l₁ l₂ → (∀ a b, F a b → G a b) → Paired G l₁ l₂
  | _, _, .nil, _ => .nil
  | _, _, .cons r t, f => .cons (f _ _ r) (Paired.mapP t f)
/-- what an object's description leans on: its own object, its own dict, the tuples -/
theorem ObjOk.stay (x : ObjOk P w H h a o) (k : ∀ b u, (b = a ∨ H b = some (.own a)) → h.get? b = some u → h'.get? b = some u)
    (ho : ∀ b, H b = some (.own a) → H' b = some (.own a)) (ht : ∀ b xs, H b = some (.tup xs) → H' b = some (.tup xs)) : ObjOk P w H' h' a o := by
  induction o with
  | lst xs => obtain ⟨z, its, n, r, e⟩ := x; exact ⟨z, its, n, r, k _ _ (.inl rfl) e⟩
  | tup xs => obtain ⟨z, its, r, ob, e, c⟩ := x; exact ⟨z, its, r, ob, k _ _ (.inl rfl) e, c⟩
  | dK kvs => obtain ⟨z, y, vs, r, ob, es, ep, e, c⟩ := x; exact ⟨z, y, vs, r, ob, es, ep, k _ _ (.inl rfl) e, c⟩
  | dT kvs =>
    obtain ⟨z, y, xs, r, ob, es, ep, e, c⟩ := x
    exact ⟨z, y, xs, Paired.mapP r fun p q z => ⟨z.1, ht _ _ z.2.1, z.2.2⟩, ob, es, ep, k _ _ (.inl rfl) e, c⟩
  | set S n => obtain ⟨ob, es, ep, t, e, c⟩ := x; exact ⟨ob, es, ep, t, k _ _ (.inl rfl) e, c⟩
  | ins C dx fs =>
    obtain ⟨d, z, ne, e, mA, ⟨od, es, ep, e2, c⟩, r⟩ := x
    exact ⟨ho _ d, z, ne, k _ _ (.inl rfl) e, mA, ⟨od, es, ep, k _ _ (.inr d) e2, c⟩, r⟩
  | own y => obtain ⟨ob, e⟩ := x; exact ⟨ob, k _ _ (.inl rfl) e⟩
  | xd fs => obtain ⟨mA, ⟨od, es, ep, e, c⟩, r⟩ := x; exact ⟨mA, ⟨od, es, ep, k _ _ (.inl rfl) e, c⟩, r⟩
  | rng lo hi => obtain ⟨t, u, v, e⟩ := x; exact ⟨t, u, v, k _ _ (.inl rfl) e⟩
  | frz ob u ih => obtain ⟨e, q⟩ := x; exact ⟨k _ _ (.inl rfl) e, ih q⟩
  | tbl ps =>
    have e : h.get? a = some { cls := .none, data := .fields ps } := x
    show h'.get? a = some { cls := .none, data := .fields ps }
    exact k a _ (.inl rfl) e
  | met f y =>
    have e : h.get? a = some (PySem.W.methodObj (.ref f) (.ref y)) := x
    show h'.get? a = some (PySem.W.methodObj (.ref f) (.ref y))
    exact k a _ (.inl rfl) e
  | ext φ => obtain ⟨p, ⟨o, e⟩, st⟩ := x; exact ⟨st _ _ p fun o q => k _ _ (.inl rfl) q, ⟨o, k _ _ (.inl rfl) e⟩, st⟩
theorem HOk.lt (x : HOk P w H h) (e : H a = some o) : a < h.objs.size := (x a o e).lt
theorem HOk.fresh (x : HOk P w H h) (e : h.objs.size ≤ a) : H a = none := by
  cases q : H a with
  | none => rfl
  | some u => exact absurd (Nat.lt_of_lt_of_le (x.lt q) e) (Nat.lt_irrefl _)
/-- every object of the heap is kept -/
theorem HOk.kept (x : HOk P w H h) (k : ∀ b u, h.get? b = some u → h'.get? b = some u) : HOk P w H h' := fun a o e =>
  (x a o e).stay (fun b u _ q => k b u q) (fun _ q => q) fun _ _ q => q
/-- a new object is laid and tracked -/
theorem HOk.laid (x : HOk P w H h) (k : ∀ b u, h.get? b = some u → h'.get? b = some u) (hp : h.objs.size ≤ a) (new : ObjOk P w (upd H a o) h' a o) : HOk P w (upd H a o) h' := fun b u e => by
  have hn := x.fresh hp
  by_cases hb : b = a
  · subst hb; rw [upd_same] at e; cases e; exact new
  · rw [upd_ne hb] at e
    exact (x b u e).stay (fun c v _ q => k c v q) (fun c q => by rw [upd_ne (ne_of_none q hn)]; exact q) fun c xs q => by rw [upd_ne (ne_of_none q hn)]; exact q
end

/-- what may be read as u: it is u, or a known u -/
def Rd (H : Hp) (a : Addr) (u : HO) : Prop := H a = some u ∨ ∃ o, H a = some (.frz o u)
theorem Rd.ok {P : Program} {w : World} {H : Hp} {h : Heap} {a : Addr} {u : HO} (r : Rd H a u) (x : HOk P w H h) : ObjOk P w H h a u := by
  rcases r with r | ⟨o, r⟩
  · exact x a u r
  · obtain ⟨_, q⟩ := x a _ r
    exact q
/-- what may be written -/
def Mut : Option HO → Prop
  | some (.lst _) => True
  | some (.dK _) => True
  | some (.dT _) => True
  | some (.set _ _) => True
  | some (.ins _ _ _) => True
  | some (.ext _) => True
  | _ => False
section
variable {P : Program} {w : World} {H : Hp} {h h' : Heap} {x e : Addr} {o' : HO}
/-- the object at e is changed: x itself, or the dict of the instance x -/
theorem HOk.write (ok : HOk P w H h) (mu : Mut (H x)) (he : e = x ∨ H e = some (.own x)) (k : ∀ b u, b ≠ e → h.get? b = some u → h'.get? b = some u) (heo : ∃ u, h'.get? e = some u)
    (new : ObjOk P w (upd H x o') h' x o') : HOk P w (upd H x o') h' := fun b u q => by
  have nown : ∀ c y, H c = some (.own y) → c ≠ x := fun c y r z => by subst z; rw [r] at mu; exact mu
  have ntup : ∀ c xs, H c = some (.tup xs) → c ≠ x := fun c xs r z => by subst z; rw [r] at mu; exact mu
  by_cases hb : b = x
  · subst hb; rw [upd_same] at q; cases q; exact new
  · rw [upd_ne hb] at q
    by_cases hbe : b = e
    · have q' : H b = some (.own x) := by
        rcases he with z | z
        · exact absurd (hbe.trans z) hb
        · rw [hbe]; exact z
      rw [q] at q'; cases q'
      obtain ⟨v, hv⟩ := heo
      exact ⟨v, by rw [hbe]; exact hv⟩
    · refine (ok b u q).stay (fun c v hc r => k c v ?_ r) (fun c r => by rw [upd_ne (nown c b r)]; exact r) fun c xs r => by rw [upd_ne (ntup c xs r)]; exact r
      rcases hc with rfl | hc
      · exact hbe
      · rintro rfl
        rcases he with z | z
        · exact nown c b hc z
        · rw [hc] at z; cases z; exact hb rfl
end

/-! ### kept unless tracked; of the frames at fs (the callers') the slots may change (an exception that passes writes there); of the records at ex (iterators) nothing is said -/
structure Un (fs ex : List Addr) (H H' : Hp) (h h' : Heap) : Prop where
  keep : ∀ b o, h.get? b = some o → H b = none → b ∉ fs → b ∉ ex → h'.get? b = some o
  slot : ∀ b o, h.get? b = some o → H b = none → b ∈ fs → b ∉ ex → ∃ sl, h'.get? b = some { o with slots := sl }
  free : ∀ b o, h.get? b = some o → H b = none → b ∉ ex → H' b = none
  there : ∀ b o, h.get? b = some o → b ∉ ex → ∃ o', h'.get? b = some o'
  tups : ∀ b xs, H b = some (.tup xs) → H' b = some (.tup xs)
  frzs : ∀ b o u, H b = some (.frz o u) → H' b = some (.frz o u)
  tbls : ∀ b ps, H b = some (.tbl ps) → ∃ more, H' b = some (.tbl (ps ++ more))
section
variable {fs fs' ex ex' : List Addr} {H H1 H2 : Hp} {h h1 h2 h' : Heap} {a x e : Addr} {o : HO}
theorem Un.any (u : Un fs ex H H1 h h1) {b : Addr} {ob : Obj} (q : h.get? b = some ob) (n : H b = none) (hx : b ∉ ex) : ∃ sl, h1.get? b = some { ob with slots := sl } := by
  by_cases hb : b ∈ fs
  · exact u.slot b ob q n hb hx
  · exact ⟨ob.slots, u.keep b ob q n hb hx⟩
theorem Un.kept (k : ∀ b u, h.get? b = some u → h'.get? b = some u) : Un fs ex H H h h' :=
  ⟨fun b ob q _ _ _ => k b ob q, fun b ob q _ _ _ => ⟨ob.slots, k b ob q⟩, fun _ _ _ n _ => n, fun b ob q _ => ⟨ob, k b ob q⟩, fun _ _ q => q, fun _ _ _ q => q, fun _ ps q => ⟨#[], by rw [q]; simp⟩⟩
theorem Un.refl : Un fs ex H H h h := Un.kept fun _ _ q => q
theorem Un.laid (k : ∀ b u, h.get? b = some u → h'.get? b = some u) (hp : h.objs.size ≤ a) (hn : H a = none) : Un fs ex H (upd H a o) h h' where
  keep := fun b u q _ _ _ => k b u q
  slot := fun b u q _ _ _ => ⟨u.slots, k b u q⟩
  free := fun b u q n _ => by rw [upd_ne (Nat.ne_of_lt (Nat.lt_of_lt_of_le (Heap.lt_size q) hp))]; exact n
  there := fun b u q _ => ⟨u, k b u q⟩
  tups := fun b xs q => by rw [upd_ne (ne_of_none q hn)]; exact q
  frzs := fun b u xs q => by rw [upd_ne (ne_of_none q hn)]; exact q
  tbls := fun b ps q => ⟨#[], by rw [upd_ne (ne_of_none q hn), q]; simp⟩
theorem Un.write (mu : Mut (H x)) (he : e = x ∨ H e = some (.own x)) (k : ∀ b u, b ≠ e → h.get? b = some u → h'.get? b = some u) (heo : ∃ u, h'.get? e = some u) : Un fs ex H (upd H x o) h h' := by
  have hx : ∀ b, H b = none → b ≠ x := fun b n z => by subst z; rw [n] at mu; exact mu
  have hb : ∀ b, H b = none → b ≠ e := fun b n z => by
    subst z
    rcases he with r | r
    · exact hx b n r
    · rw [n] at r; cases r
  have hm : ∀ b u, H b = some u → ¬ Mut (some u) → b ≠ x := fun b u q nm z => by subst z; rw [q] at mu; exact nm mu
  refine ⟨fun b u q n _ _ => k b u (hb b n) q, fun b u q n _ _ => ⟨u.slots, k b u (hb b n) q⟩, fun b u q n _ => by rw [upd_ne (hx b n)]; exact n, fun b u q _ => ?_,
    fun b xs q => by rw [upd_ne (hm b _ q fun z => z)]; exact q, fun b u xs q => by rw [upd_ne (hm b _ q fun z => z)]; exact q, fun b ps q => ⟨#[], by rw [upd_ne (hm b _ q fun z => z), q]; simp⟩⟩
  by_cases hbe : b = e
  · subst hbe; exact heo
  · exact ⟨u, k b u hbe q⟩
end

/-! ### the heap without what is tracked -/
def trk (h : Heap) (H : Hp) : List Addr := (List.range h.objs.size).filter fun a => (H a).isSome
def hidT (h : Heap) (H : Hp) : Heap := PySem.W.hideAll h (trk h H)
theorem hidT_size (h : Heap) (H : Hp) : (hidT h H).objs.size = h.objs.size := PySem.W.hideAll_size _ _
theorem hidT_get {h : Heap} {H : Hp} {b : Addr} {o : Obj} (e : h.get? b = some o) (n : H b = none) : (hidT h H).get? b = some o :=
  PySem.W.hideAll_get _ e fun hm => by
    have q : (H b).isSome = true := (List.mem_filter.mp hm).2
    rw [n] at q; simp at q
theorem of_hidT {h : Heap} {H : Hp} {b : Addr} {o : Obj} (e : (hidT h H).get? b = some o) : h.get? b = some o ∧ H b = none := by
  have e' : h.get? b = some o := PySem.W.of_hideAll (trk h H) e
  refine ⟨e', ?_⟩
  cases q : H b with
  | none => rfl
  | some x =>
    have hm : b ∈ trk h H := List.mem_filter.mpr ⟨List.mem_range.mpr (Heap.lt_size e'), by simp [q]⟩
    have z : (hidT h H).get? b = none := PySem.W.hideAll_none (trk h H) hm
    rw [z] at e; cases e

/-! ### OpenK's ledger, filled with every new object but one -/
def allNews (g h : Heap) (L : Addr) : List (Addr × Obj) := (List.range h.objs.size).filterMap fun a => if a = L ∨ (g.get? a).isSome = true then none else (h.get? a).map fun o => (a, o)
def rest (g h : Heap) (L d : Addr) : List (Addr × Obj) := (allNews g h L).filter fun p => decide (p.1 ≠ d)
end L2

namespace L2
open PySem PySem.Spec PyProof.Rows

/-- the module's facts, over the base: the heap at the law's entry without what is tracked there -/
structure Mod (K : PySem.W.Frag) (mg : Str → Option Value) (base : Heap) : Prop where
  kin : K.In base
  glob : base.Ns mainGlobals mg
  blt : ∃ mb, base.Ns builtinsNs mb ∧ ∀ x : Str, x ≠ "__name__" → mb x = bootBuiltins x
  nolimit : base.NoLimit

/-- the context: a def's body (or a comprehension's block) running. base: fixed through the whole law; s₀, H₀: the entry; outer: the frames whose slots others may change (a def's callers); stack: all frames that run;
   ex: iterators that were made ahead of the entry and are walked here (a comprehension's); fn: the names whose cells were made at the entry (a def: all; a comprehension's block: its own); calm: not within an except suite; pn: pins that every state bears; xe: what is wanted of an exception that leaves the code -/
structure Cx where
  prog : Program
  w : World
  K : PySem.W.Frag
  mg : Str → Option Value
  base : Heap
  A : Around
  N : List Str
  s₀ : Shared
  H₀ : Hp
  env : Env
  outer : List Env
  stack : List Env
  ex : List Addr
  fn : Str → Bool
  calm : Bool
  pn : List (Addr × Obj)
  xe : Value → Shared → Prop
/-- the callers' frames -/
def frs (l : List Env) : List Addr := l.filterMap (·.frame)
abbrev Cx.fs (X : Cx) : List Addr := frs X.outer

def Vis (sc : Scope) (x : Str) : Prop := sc.names.lookup x = some .local ∨ sc.names.lookup x = some .cell ∨ sc.names.lookup x = some .free
def Loc (sc : Scope) (x : Str) : Prop := sc.names.lookup x = some .local ∨ sc.names.lookup x = some .cell
def Look (env : Env) (h : Heap) (m : Str → Option Value) (x : Str) (u : Value) : Prop :=
  (env.kindOf x = some .local ∧ m x = some u) ∨ ((env.kindOf x = some .cell ∨ env.kindOf x = some .free) ∧ ∃ c, env.cells.lookup x = some c ∧ h.IsCell c (some u))

structure Cx.Ok (X : Cx) : Prop where
  mod : Mod X.K X.mg X.base
  kind : X.env.scope.kind = .function
  glob : X.env.globals = mainGlobals
  blt : X.env.builtins = builtinsNs
  above : X.s₀.heap.objs.size ≤ X.env.locals
  inj : ∀ x y c, X.env.cells.lookup x = some c → X.env.cells.lookup y = some c → x = y
  has : ∀ x, (X.env.kindOf x = some .cell ∨ X.env.kindOf x = some .free) → ∃ c, X.env.cells.lookup x = some c
  cab : ∀ x c, X.fn x = true → X.env.cells.lookup x = some c → X.s₀.heap.objs.size ≤ c
  hd : X.calm = true → X.A.handled = none
  frames : X.A.frames = some X.stack
  stk : X.stack = X.outer ∨ (X.stack = X.env :: X.outer ∧ X.env.frame = some X.env.locals)
  exf : ∀ b ∈ X.ex, b ≠ X.env.locals ∧ ∀ x c, X.env.cells.lookup x = some c → c ≠ b
  bs : ∀ b o, X.base.get? b = some o → X.s₀.heap.get? b = some o ∧ X.H₀ b = none
  bsz : X.base.objs.size ≤ X.s₀.heap.objs.size
  noex : ∀ b o, X.base.get? b = some o → b ∉ X.ex
  exfs : ∀ b ∈ X.ex, b ∉ X.fs
  funs : X.s₀.heap.FunFrames X.base X.outer
  frf : ∀ b ∈ X.fs, X.H₀ b = none

structure Inv (X : Cx) (pins : List (Addr × Obj)) (σ : List (Option V)) (H : Hp) (s : Shared) : Prop where
  ok : X.Ok
  os : s.os = X.s₀.os
  bare : AllBare s.gens
  base : Un X.fs X.ex X.H₀ H X.s₀.heap s.heap
  loc : ∃ m, s.heap.Ns X.env.locals m ∧ ∀ (i : Nat) (x : Str) (v : V), X.N[i]? = some x → σ[i]? = some (some v) → Vis X.env.scope x → ∃ u, RelV v u ∧ Look X.env s.heap m x u
  cell : ∀ x c, X.env.cells.lookup x = some c → ∃ v, s.heap.IsCell c v
  free : H X.env.locals = none
  freeC : ∀ x c, X.env.cells.lookup x = some c → H c = none
  pin : ∀ p ∈ X.pn ++ pins, s.heap.get? p.1 = some p.2 ∧ H p.1 = none ∧ p.1 ≠ X.env.locals ∧ p.1 ∉ X.fs ∧ ∀ v, p.2.data ≠ .cell v
  hok : HOk X.prog X.w H s.heap
  len : σ.length = X.N.length

section
variable {X : Cx} {pins : List (Addr × Obj)} {σ : List (Option V)} {H H' : Hp} {s : Shared} {h' : Heap}

theorem Cx.Ok.nofr (ok : X.Ok) {b : Addr} {o : Obj} (e : X.base.get? b = some o) : b ∉ X.fs := fun hb => by
  have := (ok.funs.mem hb).1
  rw [e] at this; cases this
theorem Inv.bs (I : Inv X pins σ H s) : ∀ b o, X.base.get? b = some o → s.heap.get? b = some o ∧ H b = none := fun b o e =>
  ⟨I.base.keep b o (I.ok.bs b o e).1 (I.ok.bs b o e).2 (I.ok.nofr e) (I.ok.noex b o e), I.base.free b o (I.ok.bs b o e).1 (I.ok.bs b o e).2 (I.ok.noex b o e)⟩
theorem Inv.bk (I : Inv X pins σ H s) : ∀ b o, X.base.get? b = some o → s.heap.get? b = some o := fun b o e => (I.bs b o e).1
theorem Inv.mod (I : Inv X pins σ H s) : Mod X.K X.mg X.base := I.ok.mod
theorem Inv.kIn (I : Inv X pins σ H s) : X.K.In s.heap := I.ok.mod.kin.keeps I.bk
theorem Inv.lt (I : Inv X pins σ H s) : X.env.locals < s.heap.objs.size := let ⟨_, hn, _⟩ := I.loc; hn.lt
theorem Inv.sz (I : Inv X pins σ H s) : X.s₀.heap.objs.size ≤ s.heap.objs.size := Nat.le_trans I.ok.above (Nat.le_of_lt I.lt)
theorem Inv.nofs (I : Inv X pins σ H s) {a : Addr} (h : s.heap.objs.size ≤ a) : a ∉ X.fs := fun hb => by
  obtain ⟨_, o, ho, _⟩ := I.ok.funs.mem hb
  exact absurd (Nat.lt_of_lt_of_le (Heap.lt_size ho) (Nat.le_trans I.sz h)) (Nat.lt_irrefl _)
theorem Inv.cne (I : Inv X pins σ H s) : ∀ x c, X.env.cells.lookup x = some c → c ≠ X.env.locals := fun x c e z => by
  obtain ⟨v, o, ho, hd⟩ := I.cell x c e
  obtain ⟨m, ⟨o', es, ep, ho', hd', _⟩, _⟩ := I.loc
  rw [z, ho'] at ho; cases ho; rw [hd'] at hd; cases hd
theorem Inv.funs (I : Inv X pins σ H s) : s.heap.FunFrames X.base X.outer := by
  have all : ∀ (l : List Env), (∀ b ∈ frs l, b ∈ X.fs) → X.s₀.heap.FunFrames X.base l → s.heap.FunFrames X.base l := by
    intro l
    induction l with
    | nil => intro _ _; trivial
    | cons env r ih =>
      intro hs hl
      obtain ⟨hk, ⟨L, o, hf, hn, ho, hd⟩, hr⟩ := hl
      have hL : L ∈ X.fs := hs L (by unfold frs; rw [List.filterMap_cons, hf]; exact List.mem_cons_self)
      obtain ⟨sl, e⟩ := I.base.slot L o ho (I.ok.frf L hL) hL fun z => I.ok.exfs L z hL
      exact ⟨hk, ⟨L, _, hf, hn, e, hd⟩, ih (fun b hb => hs b (by unfold frs; rw [List.filterMap_cons, hf]; exact List.mem_cons_of_mem _ hb)) hr⟩
  exact all X.outer (fun _ hb => hb) I.ok.funs

/-- the frames that run, for a call -/
theorem Inv.stack (I : Inv X pins σ H s) : s.heap.FunFrames X.base X.stack := by
  rcases I.ok.stk with e | ⟨e, hf⟩
  · rw [e]; exact I.funs
  · rw [e]
    obtain ⟨m, hn, _⟩ := I.loc
    refine .cons (by rw [I.ok.kind]; decide) hf hn ?_ I.funs
    exact Heap.get?_none_of_le (Nat.le_trans I.ok.bsz I.ok.above)
theorem Inv.stkSub (I : Inv X pins σ H s) : ∀ b ∈ frs X.stack, b ∈ X.env.locals :: X.fs := fun b hb => by
  rcases I.ok.stk with e | ⟨e, hf⟩
  · rw [e] at hb; exact List.mem_cons_of_mem _ hb
  · rw [e] at hb
    unfold frs at hb
    rw [List.filterMap_cons, hf] at hb
    exact hb
theorem Inv.stkFree (I : Inv X pins σ H s) : ∀ b ∈ frs X.stack, H b = none := fun b hb => by
  rcases List.mem_cons.mp (I.stkSub b hb) with e | hb
  · rw [e]; exact I.free
  · obtain ⟨_, o, ho, _⟩ := I.ok.funs.mem hb
    exact I.base.free b o ho (I.ok.frf b hb) fun z => I.ok.exfs b z hb

/-- THE STEP: the untracked objects but the frame and the records at ch are kept (the callers' frames up to slots), the frame's map is kept, the new abstract heap is held -/
theorem Inv.step {g' : Array GenState} {t' : Nat} {d' : Drawn} {ch : List Addr} (I : Inv X pins σ H s)
    (hch : ∀ b ∈ ch, (b ∈ X.ex ∨ X.s₀.heap.objs.size ≤ b) ∧ b ≠ X.env.locals ∧ (∀ x c, X.env.cells.lookup x = some c → c ≠ b) ∧ ∀ p ∈ X.pn ++ pins, p.1 ≠ b)
    (keep : ∀ b o, b ≠ X.env.locals → b ∉ X.fs → b ∉ ch → s.heap.get? b = some o → H b = none → h'.get? b = some o)
    (slot : ∀ b o, b ≠ X.env.locals → b ∈ X.fs → b ∉ ch → s.heap.get? b = some o → H b = none → ∃ sl, h'.get? b = some { o with slots := sl }) (free : ∀ b o, b ∉ ch → s.heap.get? b = some o → H b = none → H' b = none)
    (there : ∀ b o, b ∉ ch → s.heap.get? b = some o → ∃ o', h'.get? b = some o')
    (tups : ∀ b xs, H b = some (.tup xs) → H' b = some (.tup xs)) (frzs : ∀ b o u, H b = some (.frz o u) → H' b = some (.frz o u)) (tbls : ∀ b ps, H b = some (.tbl ps) → ∃ more, H' b = some (.tbl (ps ++ more)))
    (ns : ∀ m, s.heap.Ns X.env.locals m → h'.Ns X.env.locals m) (hok : HOk X.prog X.w H' h') (hg : AllBare g') :
    Inv X pins σ H' { s with heap := h', gens := g', drawn := d', toks := t' } := by
  have neL : ∀ b o, X.s₀.heap.get? b = some o → b ≠ X.env.locals := fun b o e => Nat.ne_of_lt (Nat.lt_of_lt_of_le (Heap.lt_size e) I.ok.above)
  have neC : ∀ b o, X.s₀.heap.get? b = some o → b ∉ X.ex → b ∉ ch := fun b o e hx hb => by
    rcases (hch b hb).1 with z | z
    · exact hx z
    · exact absurd (Nat.lt_of_lt_of_le (Heap.lt_size e) z) (Nat.lt_irrefl _)
  have cellK : ∀ x c, X.env.cells.lookup x = some c → ∀ v, s.heap.IsCell c v → h'.IsCell c v := fun x c e v ⟨o, ho, hd⟩ => by
    have nch : c ∉ ch := fun z => (hch c z).2.2.1 x c e rfl
    by_cases hc : c ∈ X.fs
    · obtain ⟨sl, q⟩ := slot c o (I.cne x c e) hc nch ho (I.freeC x c e)
      exact ⟨_, q, hd⟩
    · exact ⟨o, keep c o (I.cne x c e) hc nch ho (I.freeC x c e), hd⟩
  refine ⟨I.ok, I.os, hg, ⟨fun b o e n hb hx => ?_, fun b o e n hb hx => ?_, fun b o e n hx => ?_, fun b o e hx => ?_, fun b xs e => tups b xs (I.base.tups b xs e), fun b o xs e => frzs b o xs (I.base.frzs b o xs e), fun b ps e => ?_⟩, ?_, fun x c e => ?_, ?_, fun x c e => ?_, fun p hp => ?_, hok, I.len⟩
  · exact keep b o (neL b o e) hb (neC b o e hx) (I.base.keep b o e n hb hx) (I.base.free b o e n hx)
  · obtain ⟨sl, e1⟩ := I.base.slot b o e n hb hx
    obtain ⟨sl', e2⟩ := slot b _ (neL b o e) hb (neC b o e hx) e1 (I.base.free b o e n hx)
    exact ⟨sl', e2⟩
  · obtain ⟨o', e1⟩ := I.base.there b o e hx
    exact free b o' (neC b o e hx) e1 (I.base.free b o e n hx)
  · obtain ⟨o', e1⟩ := I.base.there b o e hx
    exact there b o' (neC b o e hx) e1
  · obtain ⟨m1, e1⟩ := I.base.tbls b ps e
    obtain ⟨m2, e2⟩ := tbls b _ e1
    exact ⟨m1 ++ m2, by rw [e2, Array.append_assoc]⟩
  · obtain ⟨m, hn, hl⟩ := I.loc
    refine ⟨m, ns m hn, fun i x v e1 e2 e3 => ?_⟩
    obtain ⟨u, r, l⟩ := hl i x v e1 e2 e3
    refine ⟨u, r, ?_⟩
    rcases l with l | ⟨k, c, e, z⟩
    · exact .inl l
    · exact .inr ⟨k, c, e, cellK x c e _ z⟩
  · obtain ⟨v, z⟩ := I.cell x c e
    exact ⟨v, cellK x c e v z⟩
  · obtain ⟨m, ⟨o, _, _, ho, _⟩, _⟩ := I.loc
    exact free _ o (fun z => (hch _ z).2.1 rfl) ho I.free
  · obtain ⟨v, o, ho, hd⟩ := I.cell x c e
    exact free c o (fun z => (hch c z).2.2.1 x c e rfl) ho (I.freeC x c e)
  · obtain ⟨e, n, ne, nf, d⟩ := I.pin p hp
    have nch : p.1 ∉ ch := fun z => (hch p.1 z).2.2.2 p hp rfl
    exact ⟨keep p.1 p.2 ne nf nch e n, free p.1 p.2 nch e n, ne, nf, d⟩
/-- .. where the frame's own object is kept too -/
theorem Inv.un {t' : Nat} (I : Inv X pins σ H s) (u : Un X.fs [] H H' s.heap h') (hok : HOk X.prog X.w H' h') : Inv X pins σ H' { s with heap := h', toks := t' } := by
  obtain ⟨m, ⟨o, es, ep, ho, r⟩, _⟩ := id I.loc
  obtain ⟨sl, hL⟩ := u.any ho I.free (by simp)
  exact I.step (g' := s.gens) (d' := s.drawn) (ch := []) (fun _ z => nomatch z) (fun b o _ hb _ e n => u.keep b o e n hb (by simp)) (fun b o _ hb _ e n => u.slot b o e n hb (by simp)) (fun b o _ e n => u.free b o e n (by simp)) (fun b o _ e => u.there b o e (by simp)) u.tups u.frzs u.tbls (fun m' hm => by
    obtain ⟨o', es', ep', ho', r'⟩ := hm
    rw [ho] at ho'; cases ho'
    exact ⟨_, es', ep', hL, r'⟩) hok I.bare
/-- behind a call (or a comprehension's block): the slots of this frame may have changed too, the records at ch may have turned -/
theorem Inv.call {g' : Array GenState} {t' : Nat} {d' : Drawn} {ch : List Addr} (I : Inv X pins σ H s) (u : Un (frs X.stack) ch H H' s.heap h') (hok : HOk X.prog X.w H' h') (hg : AllBare g')
    (hch : ∀ b ∈ ch, (b ∈ X.ex ∨ X.s₀.heap.objs.size ≤ b) ∧ b ≠ X.env.locals ∧ (∀ x c, X.env.cells.lookup x = some c → c ≠ b) ∧ ∀ p ∈ X.pn ++ pins, p.1 ≠ b) :
    Inv X pins σ H' { s with heap := h', gens := g', drawn := d', toks := t' } := by
  obtain ⟨m, ⟨o, es, ep, ho, r⟩, _⟩ := id I.loc
  obtain ⟨sl, hL⟩ := u.any ho I.free fun z => (hch _ z).2.1 rfl
  exact I.step (ch := ch) hch (fun b o hL hb hc e n => u.keep b o e n (fun z => (List.mem_cons.mp (I.stkSub b z)).elim hL hb) hc) (fun b o _ _ hc e n => u.any e n hc) (fun b o hc e n => u.free b o e n hc) (fun b o hc e => u.there b o e hc) u.tups u.frzs u.tbls (fun m' hm => by
    obtain ⟨o', es', ep', ho', r'⟩ := hm
    rw [ho] at ho'; cases ho'
    exact ⟨_, es', ep', hL, r'⟩) hok hg
/-- an untracked record of ours (an iterator) has turned -/
theorem Inv.turned {t' : Nat} {it : Addr} (I : Inv X pins σ H s) (k : ∀ b o, b ≠ it → s.heap.get? b = some o → h'.get? b = some o) (hn : H it = none) (hL : it ≠ X.env.locals)
    (h1 : it ∈ X.ex ∨ X.s₀.heap.objs.size ≤ it) (h2 : ∀ x c, X.env.cells.lookup x = some c → c ≠ it) (h3 : ∀ p ∈ X.pn ++ pins, p.1 ≠ it) : Inv X pins σ H { s with heap := h', toks := t' } := by
  have nit : ∀ b u, H b = some u → b ≠ it := fun b u e z => by rw [z, hn] at e; cases e
  refine I.step (g' := s.gens) (d' := s.drawn) (ch := [it]) (fun b hb => ?_) (fun b o _ _ hc e _ => k b o (fun z => hc (by simp [z])) e) (fun b o _ _ hc e _ => ⟨o.slots, k b o (fun z => hc (by simp [z])) e⟩) (fun _ _ _ _ n => n)
    (fun b o hc e => ⟨o, k b o (fun z => hc (by simp [z])) e⟩) (fun _ _ e => e) (fun _ _ _ e => e) (fun b ps e => ⟨#[], by rw [e]; simp⟩) (fun m hm => ?_) (fun b u e => ?_) I.bare
  · have e : b = it := by simpa using hb
    subst e
    exact ⟨h1, hL, h2, h3⟩
  · obtain ⟨o, es, ep, ho, r⟩ := hm
    exact ⟨o, es, ep, k _ o (Ne.symm hL) ho, r⟩
  · refine (I.hok b u e).stay (fun c v hc q => k c v ?_ q) (fun _ q => q) fun _ _ q => q
    rcases hc with z | z
    · rw [z]; exact nit b u e
    · exact nit c _ z
theorem Inv.tok (I : Inv X pins σ H s) (t : Nat) : Inv X pins σ H { s with toks := t } := I.un (h' := s.heap) (t' := t) Un.refl I.hok
/-- all objects kept -/
theorem Inv.kept {t' : Nat} (I : Inv X pins σ H s) (k : ∀ b u, s.heap.get? b = some u → h'.get? b = some u) : Inv X pins σ H { s with heap := h', toks := t' } := I.un (Un.kept k) (I.hok.kept k)
/-- a new object laid and tracked -/
theorem Inv.laid {a : Addr} {o : HO} {t' : Nat} (I : Inv X pins σ H s) (k : ∀ b u, s.heap.get? b = some u → h'.get? b = some u) (hp : s.heap.objs.size ≤ a) (new : ObjOk X.prog X.w (upd H a o) h' a o) :
    Inv X pins σ (upd H a o) { s with heap := h', toks := t' } := I.un (Un.laid k hp (I.hok.fresh hp)) (I.hok.laid k hp new)
/-- an object written -/
theorem Inv.write {x e : Addr} {o : HO} {t' : Nat} (I : Inv X pins σ H s) (mu : Mut (H x)) (he : e = x ∨ H e = some (.own x)) (k : ∀ b u, b ≠ e → s.heap.get? b = some u → h'.get? b = some u) (heo : ∃ u, h'.get? e = some u)
    (new : ObjOk X.prog X.w (upd H x o) h' x o) : Inv X pins σ (upd H x o) { s with heap := h', toks := t' } := I.un (Un.write mu he k heo) (I.hok.write mu he k heo new)
theorem Inv.pins_of {pins' : List (Addr × Obj)} (I : Inv X pins σ H s) (h : ∀ p ∈ pins', s.heap.get? p.1 = some p.2 ∧ H p.1 = none ∧ p.1 ≠ X.env.locals ∧ p.1 ∉ X.fs ∧ ∀ v, p.2.data ≠ .cell v) : Inv X pins' σ H s :=
  ⟨I.ok, I.os, I.bare, I.base, I.loc, I.cell, I.free, I.freeC, fun p hp => (List.mem_append.mp hp).elim (fun z => I.pin p (List.mem_append_left _ z)) (h p), I.hok, I.len⟩

theorem nodup_ix {N : List Str} (hN : N.Nodup) {i j : Nat} {x : Str} (a : N[i]? = some x) (b : N[j]? = some x) : i = j := by
  obtain ⟨h1, e1⟩ := List.getElem?_eq_some_iff.mp a
  obtain ⟨h2, e2⟩ := List.getElem?_eq_some_iff.mp b
  exact (List.getElem_inj hN).mp (e1.trans e2.symm)

/-- a name is stored; what changed -/
theorem store_ok2 {M : Model} {A : Around} {E : Value → Shared → Prop} {i : Nat} {x : Str} {v : V} {u : Value} {Q : Unit → Shared → Prop} (I : Inv X pins σ H s) (hN : X.N.Nodup) (hi : X.N[i]? = some x) (hx : Loc X.env.scope x) (r : RelV v u)
    (h : ∀ s', Inv X pins (σ.set i (some v)) H s' → (∃ a, Heap.SameBut a s.heap s'.heap ∧ (a = X.env.locals ∨ X.env.cells.lookup x = some a)) → Q () s') (hf : X.fn x = true ∨ X.env.scope.names.lookup x = some .local := by first | exact .inl rfl | exact .inr rfl | assumption) : wpAny M A (storeName X.env x u) Q E s := by
  obtain ⟨m, hn, hl⟩ := id I.loc
  have hcls : (X.env.scope.kind == .class || (X.env.scope.kind == .module && X.env.locals != X.env.globals)) = false := by rw [I.ok.kind]; rfl
  have hiσ : i < σ.length := by rw [I.len]; exact (List.getElem?_eq_some_iff.mp hi).1
  have cne := I.cne
  have tracked : ∀ {a : Addr} {h' : Heap}, (∃ o, s.heap.get? a = some o ∧ H a = none) → Heap.SameBut a s.heap h' → HOk X.prog X.w H h' := fun {a h'} ha hs b ob e => by
    obtain ⟨_, _, hfree⟩ := ha
    refine (I.hok b ob e).stay (fun c w' hc q => (hs.2 c ?_).trans q) (fun _ q => q) fun _ _ q => q
    rintro rfl
    rcases hc with rfl | hc
    · rw [hfree] at e; cases e
    · rw [hfree] at hc; cases hc
  rcases hx with hk | hk
  · refine wpAny_storeName_local hk hn (fun h' hn' hs => ?_) hcls
    obtain ⟨oL, _, _, hoL, _⟩ := id hn
    refine h _ ⟨I.ok, I.os, I.bare, ⟨fun b o e n hb hx => ?_, fun b o e n hb hx => ?_, I.base.free, fun b o e hx => ?_, I.base.tups, I.base.frzs, I.base.tbls⟩, ⟨_, hn', fun j y v' e1 e2 e3 => ?_⟩, fun y c e => ?_, I.free, I.freeC, fun p hp => ?_, tracked ⟨oL, hoL, I.free⟩ hs, by simpa using I.len⟩ ⟨_, hs, .inl rfl⟩
    · exact (hs.2 b (Nat.ne_of_lt (Nat.lt_of_lt_of_le (Heap.lt_size e) I.ok.above))).trans (I.base.keep b o e n hb hx)
    · obtain ⟨sl, e1⟩ := I.base.slot b o e n hb hx
      exact ⟨sl, (hs.2 b (Nat.ne_of_lt (Nat.lt_of_lt_of_le (Heap.lt_size e) I.ok.above))).trans e1⟩
    · obtain ⟨o', e1⟩ := I.base.there b o e hx
      exact ⟨o', (hs.2 b (Nat.ne_of_lt (Nat.lt_of_lt_of_le (Heap.lt_size e) I.ok.above))).trans e1⟩
    · by_cases hj : j = i
      · subst hj
        rw [hi] at e1; cases e1
        rw [List.getElem?_set_self hiσ] at e2
        cases e2
        exact ⟨u, r, .inl ⟨hk, by simp⟩⟩
      · rw [List.getElem?_set_ne (Ne.symm hj)] at e2
        obtain ⟨u', r', q⟩ := hl j y v' e1 e2 e3
        refine ⟨u', r', ?_⟩
        rcases q with ⟨k, e⟩ | ⟨k, c, e, z⟩
        · refine .inl ⟨k, ?_⟩
          have : y ≠ x := fun e => hj (nodup_ix hN e1 (e ▸ hi))
          simp [this, e]
        · exact .inr ⟨k, c, e, z.sameBut hs (cne y c e)⟩
    · obtain ⟨w', z⟩ := I.cell y c e
      exact ⟨w', z.sameBut hs (cne y c e)⟩
    · obtain ⟨e, n, ne, nf, d⟩ := I.pin p hp
      exact ⟨(hs.2 p.1 ne).trans e, n, ne, nf, d⟩
  · have hfn : X.fn x = true := by
      rcases hf with z | z
      · exact z
      · rw [z] at hk; cases hk
    obtain ⟨c, hc⟩ := I.ok.has x (.inl hk)
    obtain ⟨w', z⟩ := I.cell x c hc
    refine wpAny_storeName_cell I.ok.kind hk hc z (fun h' hc' hs => ?_)
    obtain ⟨oc, hoc, hocd⟩ := id z
    refine h { s with heap := h' } ⟨I.ok, I.os, I.bare, ⟨fun b o e n hb hx => ?_, fun b o e n hb hx => ?_, I.base.free, fun b o e hx => ?_, I.base.tups, I.base.frzs, I.base.tbls⟩, ⟨m, hn.sameBut hs (Ne.symm (cne x c hc)), fun j y v' e1 e2 e3 => ?_⟩, fun y c' e => ?_, I.free, I.freeC, fun p hp => ?_, tracked ⟨oc, hoc, I.freeC x c hc⟩ hs, by simpa using I.len⟩ ⟨c, hs, .inr hc⟩
    · exact (hs.2 b (Nat.ne_of_lt (Nat.lt_of_lt_of_le (Heap.lt_size e) (I.ok.cab x c hfn hc)))).trans (I.base.keep b o e n hb hx)
    · obtain ⟨sl, e1⟩ := I.base.slot b o e n hb hx
      exact ⟨sl, (hs.2 b (Nat.ne_of_lt (Nat.lt_of_lt_of_le (Heap.lt_size e) (I.ok.cab x c hfn hc)))).trans e1⟩
    · obtain ⟨o', e1⟩ := I.base.there b o e hx
      exact ⟨o', (hs.2 b (Nat.ne_of_lt (Nat.lt_of_lt_of_le (Heap.lt_size e) (I.ok.cab x c hfn hc)))).trans e1⟩
    · by_cases hj : j = i
      · subst hj
        rw [hi] at e1; cases e1
        rw [List.getElem?_set_self hiσ] at e2
        cases e2
        exact ⟨u, r, .inr ⟨.inl hk, c, hc, hc'⟩⟩
      · rw [List.getElem?_set_ne (Ne.symm hj)] at e2
        obtain ⟨u', r', q⟩ := hl j y v' e1 e2 e3
        refine ⟨u', r', ?_⟩
        rcases q with q | ⟨k, c', e, z'⟩
        · exact .inl q
        · refine .inr ⟨k, c', e, z'.sameBut hs ?_⟩
          rintro rfl
          exact hj (nodup_ix hN e1 (I.ok.inj _ _ _ e hc ▸ hi))
    · by_cases hcc : c' = c
      · subst hcc; exact ⟨_, hc'⟩
      · obtain ⟨w2, z2⟩ := I.cell y c' e
        exact ⟨w2, z2.sameBut hs hcc⟩
    · obtain ⟨e, n, ne, nf, d⟩ := I.pin p hp
      refine ⟨(hs.2 p.1 ?_).trans e, n, ne, nf, d⟩
      intro q
      rw [q, hoc] at e
      have q' : oc = p.2 := Option.some.inj e
      exact d w' (by rw [← q']; exact hocd)
theorem store_ok {M : Model} {A : Around} {E : Value → Shared → Prop} {i : Nat} {x : Str} {v : V} {u : Value} {Q : Unit → Shared → Prop} (I : Inv X pins σ H s) (hN : X.N.Nodup) (hi : X.N[i]? = some x) (hx : Loc X.env.scope x) (r : RelV v u)
    (h : ∀ s', Inv X pins (σ.set i (some v)) H s' → Q () s') (hf : X.fn x = true ∨ X.env.scope.names.lookup x = some .local := by first | exact .inl rfl | exact .inr rfl | assumption) : wpAny M A (storeName X.env x u) Q E s :=
  store_ok2 I hN hi hx r (fun s' I' _ => h s' I') hf
/-- behind a call or a block, the state as it is -/
theorem Inv.call' {s' : Shared} {ch : List Addr} (I : Inv X pins σ H s) (ho : s'.os = s.os) (u : Un (frs X.stack) ch H H' s.heap s'.heap) (hok : HOk X.prog X.w H' s'.heap) (hg : AllBare s'.gens)
    (hch : ∀ b ∈ ch, (b ∈ X.ex ∨ X.s₀.heap.objs.size ≤ b) ∧ b ≠ X.env.locals ∧ (∀ x c, X.env.cells.lookup x = some c → c ≠ b) ∧ ∀ p ∈ X.pn ++ pins, p.1 ≠ b) : Inv X pins σ H' s' := by
  obtain ⟨h', g', d', t', o'⟩ := s'
  have e : o' = s.os := ho
  subst e
  exact I.call (g' := g') (t' := t') (d' := d') u hok hg hch
end

/-! ### the judgements -/
/-- an exception: its class, its own dict's address (where it has one), the abstract heap behind it -/
abbrev XK := Value → Option Addr → Hp → Prop
abbrev St := List (Option V)
abbrev VK := V → Hp → Prop
/-- an expression's reading; a test's; an argument list's -/
abbrev TE := St → Hp → VK → Prop
abbrev TT := St → Hp → (Bool → Hp → Prop) → Prop
abbrev TA := St → Hp → (List V → Hp → Prop) → Prop
/-- what is wanted behind a statement -/
structure Ends where
  nx : St → Hp → Prop
  rt : VK
  bk : St → Hp → Prop := fun _ _ => False
  ct : St → Hp → Prop := fun _ _ => False
abbrev TS := Ends → St → Hp → Prop

def EP (X : Cx) (pins : List (Addr × Obj)) (σ : St) (Q : VK) (u : Value) (s' : Shared) : Prop := ∃ v H', Inv X pins σ H' s' ∧ RelV v u ∧ Q v H'
def TP (X : Cx) (pins : List (Addr × Obj)) (σ : St) (Q : Bool → Hp → Prop) (b : Bool) (s' : Shared) : Prop := ∃ H', Inv X pins σ H' s' ∧ Q b H'
def AP (X : Cx) (pins : List (Addr × Obj)) (σ : St) (Q : List V → Hp → Prop) (us : List Value) (s' : Shared) : Prop := ∃ vs H', Inv X pins σ H' s' ∧ Vals vs us ∧ Q vs H'
def SP (X : Cx) (pins : List (Addr × Obj)) (D : Ends) (f : Flow) (s' : Shared) : Prop :=
  match f with
  | .next => ∃ σ' H', Inv X pins σ' H' s' ∧ D.nx σ' H'
  | .brk => ∃ σ' H', Inv X pins σ' H' s' ∧ D.bk σ' H'
  | .cont => ∃ σ' H', Inv X pins σ' H' s' ∧ D.ct σ' H'
  | .ret u => ∃ v σ' H', Inv X pins σ' H' s' ∧ RelV v u ∧ D.rt v H'

def PE (X : Cx) (e : Expr) (t : TE) : Prop :=
  ∀ (pins : List (Addr × Obj)) (s : Shared) (σ : St) (H : Hp) (Q : VK), Inv X pins σ H s → t σ H Q → wpAny (model X.prog X.w) X.A (eval e X.env) (EP X pins σ Q) X.xe s
def PT (X : Cx) (e : Expr) (t : TT) : Prop :=
  ∀ (pins : List (Addr × Obj)) (s : Shared) (σ : St) (H : Hp) (Q : Bool → Hp → Prop), Inv X pins σ H s → t σ H Q → wpAny (model X.prog X.w) X.A (isTrue e X.env (eval e X.env)) (TP X pins σ Q) X.xe s
/-- a test whatever its 'whole' is (and, or) -/
def PW (X : Cx) (e : Expr) (t : TT) : Prop :=
  ∀ (whole : Sem Value) (pins : List (Addr × Obj)) (s : Shared) (σ : St) (H : Hp) (Q : Bool → Hp → Prop), Inv X pins σ H s → t σ H Q → wpAny (model X.prog X.w) X.A (isTrue e X.env whole) (TP X pins σ Q) X.xe s
theorem PW.pt {X : Cx} {e : Expr} {t : TT} (h : PW X e t) : PT X e t := h _
/-- an argument list (no star), from the left -/
def PA (X : Cx) (es : List Expr) (t : TA) : Prop :=
  ∀ (pos : Pos) (pins : List (Addr × Obj)) (s : Shared) (σ : St) (H : Hp) (Q : List V → Hp → Prop), Inv X pins σ H s → t σ H Q → wpAny (model X.prog X.w) X.A (spliced (backTo pos (starEach es X.env))) (AP X pins σ Q) X.xe s
def PS (X : Cx) (st : Stmt) (t : TS) : Prop :=
  ∀ (pins : List (Addr × Obj)) (s : Shared) (σ : St) (H : Hp) (D : Ends), Inv X pins σ H s → t D σ H → wpAny (model X.prog X.w) X.A (exec st X.env) (SP X pins D) X.xe s
def PSs (X : Cx) (st : List Stmt) (t : TS) : Prop :=
  ∀ (pins : List (Addr × Obj)) (s : Shared) (σ : St) (H : Hp) (D : Ends), Inv X pins σ H s → t D σ H → wpAny (model X.prog X.w) X.A (execs st X.env) (SP X pins D) X.xe s
/-- weaken the end -/
theorem thn {α : Type} {t : Sem α} {Q Q' : α → Shared → Prop} {M : Model} {A : Around} {E : Value → Shared → Prop} {s : Shared} (h : wpAny M A t Q E s) (hQ : ∀ a s, Q a s → Q' a s) : wpAny M A t Q' E s := wpAny_mono h hQ fun _ _ x => x
end L2

namespace L2
open PySem PySem.Spec PyProof.Rows
section
variable {X : Cx}

/-! ### names and constants -/
def tVar (i : Nat) : TE := fun σ H Q => ∃ v, σ[i]? = some (some v) ∧ Q v H
def tC (v : V) : TE := fun _ H Q => Q v H
theorem pe_var {i : Nat} {x : Str} {pos : Pos} (hN : X.N[i]? = some x) (hv : Vis X.env.scope x) (hd : (x == ("__debug__" : Str)) = false := by decide) (hcd : (x == ("__classdict__" : Str)) = false := by decide) : PE X (.Name x pos) (tVar i) := by
  intro pins s σ H Q I h
  obtain ⟨v, e, h⟩ := h
  obtain ⟨m, hn, hl⟩ := I.loc
  obtain ⟨u, r, l⟩ := hl i x v hN e hv
  have fin : EP X pins σ Q u s := ⟨v, H, I, r, h⟩
  rcases l with ⟨hk, hm⟩ | ⟨hk, c, hc, hcell⟩
  · exact wpAny_Name (wpAny_loadName_local I.ok.kind hk hn hm fin) hd
  · rcases hk with hk | hk
    · exact wpAny_Name (wpAny_loadName_cell I.ok.kind hk hc hcell fin) hd
    · exact wpAny_Name (wpAny_loadName_free I.ok.kind hk hc hcell fin hcd) hd
theorem pe_int {i j pos} : PE X (.Constant (.int i) j pos) (tC (.int i)) := fun _ _ _ H _ I h => wpAny_Constant_int ⟨.int i, H, I.tok _, ⟨_, rfl⟩, h⟩
theorem pe_bl {b j pos} : PE X (.Constant (.bool b) j pos) (tC (.bl b)) := fun _ _ _ H _ I h => Constant_bool ⟨.bl b, H, I, rfl, h⟩
theorem pe_non {j pos} : PE X (.Constant .none j pos) (tC .non) := fun _ _ _ H _ I h => Constant_none ⟨.non, H, I, rfl, h⟩
theorem pe_str {x j pos} : PE X (.Constant (.str x) j pos) (tC (.str x)) := fun _ _ _ H _ I h => Calls.Constant_str ⟨.str x, H, I.tok _, ⟨_, rfl⟩, h⟩

/-- a global name of the def -/
def Gl (X : Cx) (x : Str) : Prop := X.env.kindOf x = some .globalImplicit
theorem ld_glob {E : Value → Shared → Prop} {pins : List (Addr × Obj)} {s : Shared} {σ : St} {H : Hp} {x : Str} {u : Value} {pos : Pos} {Q : Value → Shared → Prop} (I : Inv X pins σ H s) (hg : Gl X x) (hm : X.mg x = some u) (h : Q u s)
    (hd : (x == ("__debug__" : Str)) = false := by decide) : wpAny (model X.prog X.w) X.A (eval (.Name x pos) X.env) Q E s :=
  Calls.Name_function_global I.ok.kind hg (Calls.loadGlobal_global (by rw [I.ok.glob]; exact I.mod.glob.keeps I.bk) hm h) hd
theorem ld_blt {E : Value → Shared → Prop} {pins : List (Addr × Obj)} {s : Shared} {σ : St} {H : Hp} {x : Str} {u : Value} {pos : Pos} {Q : Value → Shared → Prop} (I : Inv X pins σ H s) (hg : Gl X x) (hm : X.mg x = none) (hv : bootBuiltins x = some u) (h : Q u s)
    (hn : x ≠ "__name__" := by decide) (hd : (x == ("__debug__" : Str)) = false := by decide) : wpAny (model X.prog X.w) X.A (eval (.Name x pos) X.env) Q E s := by
  obtain ⟨mb, h1, h2⟩ := I.mod.blt
  exact Calls.Name_function_global I.ok.kind hg (Calls.loadGlobal_builtin (by rw [I.ok.glob]; exact I.mod.glob.keeps I.bk) hm (by rw [I.ok.blt]; exact h1.keeps I.bk) ((h2 x hn).trans hv) h) hd
/-- a module's constant, a class, a function, as a value -/
theorem pe_glob {x : Str} {v : V} {u : Value} {pos : Pos} (hg : Gl X x) (hm : X.mg x = some u) (r : RelV v u) (hd : (x == ("__debug__" : Str)) = false := by decide) : PE X (.Name x pos) (tC v) :=
  fun _ _ _ H _ I h => ld_glob I hg hm ⟨v, H, I, r, h⟩ hd
theorem pe_bltn {x : Str} {v : V} {u : Value} {pos : Pos} (hg : Gl X x) (hm : X.mg x = none) (hv : bootBuiltins x = some u) (r : RelV v u) (hn : x ≠ "__name__" := by decide) (hd : (x == ("__debug__" : Str)) = false := by decide) : PE X (.Name x pos) (tC v) :=
  fun _ _ _ H _ I h => ld_blt I hg hm hv ⟨v, H, I, r, h⟩ hn hd

/-! ### arithmetic -/
/-- two ints -/
def t2I (ta tb : TE) (k : Int → Int → Hp → Prop) : St → Hp → Prop := fun σ H => ta σ H fun x H1 => tb σ H1 fun y H2 => ∃ i j, x = .int i ∧ y = .int j ∧ k i j H2
def tAdd (ta tb : TE) : TE := fun σ H Q => t2I ta tb (fun i j H2 => Q (.int (i + j)) H2) σ H
def tSub (ta tb : TE) : TE := fun σ H Q => t2I ta tb (fun i j H2 => Q (.int (i - j)) H2) σ H
/-- the left factor below 2^64 -/
def tMul (ta tb : TE) : TE := fun σ H Q => t2I ta tb (fun i j H2 => (-(2 ^ 64) < i ∧ i < 2 ^ 64) ∧ Q (.int (i * j)) H2) σ H
variable {a b : Expr} {ta tb : TE} {pos : Pos}
/-! ### comparisons -/
def PC (X : Cx) (op : CmpOp) (a b : Expr) (t : TE) : Prop :=
  ∀ (pins : List (Addr × Obj)) (s : Shared) (σ : St) (H : Hp) (Q : VK), Inv X pins σ H s → t σ H Q →
    wpAny (model X.prog X.w) X.A (eval a X.env) (fun v s₁ => wpAny (model X.prog X.w) X.A (eval b X.env) (fun u s₂ => wpAny (model X.prog X.w) X.A (compareOp op v u) (EP X pins σ Q) X.xe s₂) X.xe s₁) X.xe s
theorem nobehind (b : Expr) {op : CmpOp} (h : op ≠ .In) (h2 : op ≠ .NotIn) : behindInMarks op b = false := by
  have e1 : (op == CmpOp.In) = false := by cases op <;> first | rfl | exact absurd rfl h
  have e2 : (op == CmpOp.NotIn) = false := by cases op <;> first | rfl | exact absurd rfl h2
  cases b <;> simp [behindInMarks, e1, e2]
def tCmp (p : Int → Int → Bool) (ta tb : TE) : TE := fun σ H Q => t2I ta tb (fun i j H2 => Q (.bl (p i j)) H2) σ H
abbrev tLt : TE → TE → TE := tCmp fun i j => decide (i < j)
abbrev tLe : TE → TE → TE := tCmp fun i j => decide (i ≤ j)
abbrev tGt : TE → TE → TE := tCmp fun i j => decide (j < i)
abbrev tGe : TE → TE → TE := tCmp fun i j => decide (j ≤ i)
abbrev tEqI : TE → TE → TE := tCmp fun i j => decide (i = j)
abbrev tNeI : TE → TE → TE := tCmp fun i j => !decide (i = j)
/-- is None -/
def tIsN (ta : TE) : TE := fun σ H Q => ta σ H fun x H1 => Q (.bl (decide (x = .non))) H1
def tNotN (ta : TE) : TE := fun σ H Q => ta σ H fun x H1 => Q (.bl (!decide (x = .non))) H1
theorem RelV.none_iff {x : V} {v : Value} (r : RelV x v) : (v == Value.none) = decide (x = .non) := by
  cases x with
  | non => cases r; rfl
  | bl _ => cases r; rfl
  | int _ => obtain ⟨t, rfl⟩ := r; rfl
  | str _ => obtain ⟨t, rfl⟩ := r; rfl
  | byt _ => obtain ⟨t, rfl⟩ := r; rfl
  | flt _ => obtain ⟨t, rfl⟩ := r; rfl
  | ref _ => cases r; rfl
  | ty _ => cases r; rfl
theorem pc_isN {j pos'} (ha : PE X a ta) : PC X .Is a (.Constant .none j pos') (tIsN ta) := by
  intro pins s σ H Q I h
  refine thn (ha pins s σ H _ I h) fun v s1 ⟨x, H1, I1, r1, q1⟩ => ?_
  exact Constant_none (is_none_gen ⟨.bl _, H1, I1, by rw [r1.none_iff]; rfl, q1⟩)
theorem pc_notN {j pos'} (ha : PE X a ta) : PC X .IsNot a (.Constant .none j pos') (tNotN ta) := by
  intro pins s σ H Q I h
  refine thn (ha pins s σ H _ I h) fun v s1 ⟨x, H1, I1, r1, q1⟩ => ?_
  exact Constant_none (isnot_none_gen ⟨.bl _, H1, I1, by rw [r1.none_iff]; rfl, q1⟩)
/-- a comparison as a value, as a test -/
def tB (t : TE) : TT := fun σ H Q => t σ H fun x H1 => ∃ c, x = .bl c ∧ Q c H1
theorem pe_cmp {op : CmpOp} {t : TE} (h : PC X op a b t) (h1 : behindInMarks op b = false := by first | exact nobehind _ (by decide) (by decide) | rfl) : PE X (.Compare a [op] [b] pos) t := fun pins s σ H Q I hw => wpAny_Compare1 (h pins s σ H Q I hw) h1
theorem pt_cmp {op : CmpOp} {t : TE} (h : PC X op a b t) (h1 : behindInMarks op b = false := by first | exact nobehind _ (by decide) (by decide) | rfl) : PT X (.Compare a [op] [b] pos) (tB t) := by
  intro pins s σ H Q I hw
  refine wpAny_isTrue_Compare1 (thn (h pins s σ H _ I hw) fun v s1 h1 => thn h1 fun u s2 h2 => thn h2 fun c s3 ⟨x, H1, I1, r1, q1⟩ => ?_) h1
  obtain ⟨d, rfl, q⟩ := q1
  cases r1
  exact wpAny_truthy_bool ⟨H1, I1, q⟩
/-- an expression whose value is a bool, as a test -/
theorem pt_val {e : Expr} {t : TE} (h : PE X e t) (he : ∀ whole, isTrue e X.env whole = (do let v ← whole; standAt e.pos; holding [v] (truthy v)) := by intro _; rfl) : PT X e (tB t) := by
  intro pins s σ H Q I hw
  refine isTrue_plain (thn (h pins s σ H _ I hw) fun v s1 ⟨x, H1, I1, r1, q1⟩ => ?_) (he _)
  obtain ⟨d, rfl, q⟩ := q1
  cases r1
  exact wpAny_truthy_bool ⟨H1, I1, q⟩

/-! ### and, or, not -/
variable {tA tB' : TT} {rest : List Expr}
def tAnd (t u : TT) : TT := fun σ H Q => t σ H fun c H1 => if c = true then u σ H1 Q else Q false H1
def tOr (t u : TT) : TT := fun σ H Q => t σ H fun c H1 => if c = true then Q true H1 else u σ H1 Q
def tNot (t : TT) : TT := fun σ H Q => t σ H fun c H1 => Q (!c) H1
theorem pw_and1 (ha : PT X a tA) : PW X (.BoolOp .And [a] pos) tA := by
  intro wh pins s σ H Q I h
  refine isTrue_and (thn (ha pins s σ H Q I h) fun c s1 e => ?_)
  cases c with
  | true => exact isTrue_and_nil e
  | false => exact e
theorem pw_or1 (ha : PT X a tA) : PW X (.BoolOp .Or [a] pos) tA := by
  intro wh pins s σ H Q I h
  refine isTrue_or (thn (ha pins s σ H Q I h) fun c s1 e => ?_)
  cases c with
  | false => exact isTrue_or_nil e
  | true => exact e
theorem pw_and (ha : PT X a tA) (hb : PW X (.BoolOp .And (b :: rest) pos) tB') : PW X (.BoolOp .And (a :: b :: rest) pos) (tAnd tA tB') := by
  intro wh pins s σ H Q I h
  refine isTrue_and (thn (ha pins s σ H _ I h) fun c s1 ⟨H1, I1, q1⟩ => ?_)
  cases c with
  | true => exact hb wh pins s1 σ H1 Q I1 q1
  | false => exact ⟨H1, I1, q1⟩
theorem pw_or (ha : PT X a tA) (hb : PW X (.BoolOp .Or (b :: rest) pos) tB') : PW X (.BoolOp .Or (a :: b :: rest) pos) (tOr tA tB') := by
  intro wh pins s σ H Q I h
  refine isTrue_or (thn (ha pins s σ H _ I h) fun c s1 ⟨H1, I1, q1⟩ => ?_)
  cases c with
  | true => exact ⟨H1, I1, q1⟩
  | false => exact hb wh pins s1 σ H1 Q I1 q1
theorem pt_not (ha : PT X a tA) : PT X (.UnaryOp .Not a pos) (tNot tA) := by
  intro pins s σ H Q I h
  exact isTrue_not (ha pins s σ H (fun c H1 => Q (!c) H1) I h)
/-- .. as values (bools) -/
def tAndV (ta tb : TE) : TE := fun σ H Q => ta σ H fun x H1 => ∃ c, x = .bl c ∧ if c = true then tb σ H1 Q else Q (.bl false) H1
def tOrV (ta tb : TE) : TE := fun σ H Q => ta σ H fun x H1 => ∃ c, x = .bl c ∧ if c = true then Q (.bl true) H1 else tb σ H1 Q
def tNotV (ta : TE) : TE := fun σ H Q => ta σ H fun x H1 => ∃ c, x = .bl c ∧ Q (.bl (!c)) H1
theorem pe_one {op} {t : TE} (h : PE X a t) : PE X (.BoolOp op [a] pos) t := fun pins s σ H Q I hw => BoolOp_one (h pins s σ H Q I hw)
theorem pe_and (ha : PE X a ta) (hb : PE X (.BoolOp .And (b :: rest) pos) tb) : PE X (.BoolOp .And (a :: b :: rest) pos) (tAndV ta tb) := by
  intro pins s σ H Q I h
  refine BoolOp_and (thn (ha pins s σ H _ I h) fun v s1 ⟨x, H1, I1, r1, q1⟩ => ?_)
  obtain ⟨c, rfl, q1⟩ := q1
  cases r1
  refine wpAny_truthy_bool ?_
  cases c with
  | true => exact hb pins s1 σ H1 Q I1 q1
  | false => exact ⟨.bl false, H1, I1, rfl, q1⟩
theorem pe_or (ha : PE X a ta) (hb : PE X (.BoolOp .Or (b :: rest) pos) tb) : PE X (.BoolOp .Or (a :: b :: rest) pos) (tOrV ta tb) := by
  intro pins s σ H Q I h
  refine BoolOp_or (thn (ha pins s σ H _ I h) fun v s1 ⟨x, H1, I1, r1, q1⟩ => ?_)
  obtain ⟨c, rfl, q1⟩ := q1
  cases r1
  refine wpAny_truthy_bool ?_
  cases c with
  | false => exact hb pins s1 σ H1 Q I1 q1
  | true => exact ⟨.bl true, H1, I1, rfl, q1⟩
/-- a if t else b -/
def tIf (t : TT) (ta tb : TE) : TE := fun σ H Q => t σ H fun c H1 => if c = true then ta σ H1 Q else tb σ H1 Q
end
end L2

namespace L2
open PySem PySem.Spec PyProof.Rows

/-! ### a list, a tuple that is read: tracked, frozen, or an object of the module -/
def SqL (K : PySem.W.Frag) (H : Hp) (a : Addr) (xs : List V) : Prop :=
  Rd H a (.lst xs) ∨
    ∃ (o : Obj) (its : Array Value) (n : Nat), K.lookup a = some o ∧ o.cls = .type "list" ∧ o.dict = none ∧ o.data = .seq its n ∧ its.size ≤ sizeLine ∧ Vals xs its.toList
def SqT (K : PySem.W.Frag) (H : Hp) (a : Addr) (xs : List V) : Prop :=
  Rd H a (.tup xs) ∨
    ∃ (o : Obj) (its : Array Value) (n : Nat), K.lookup a = some o ∧ o.cls = .type "tuple" ∧ o.data = .seq its n ∧ its.size ≤ sizeLine ∧ Vals xs its.toList
def absV : Value → Option V
  | .none => some .non
  | .bool b => some (.bl b)
  | .int i _ => some (.int i)
  | .str x _ => some (.str x)
  | .bytes b _ => some (.byt b)
  | .float b _ => some (.flt b)
  | .ref a => some (.ref a)
  | .type n => some (.ty n)
  | _ => none
theorem RelV.abs {x : V} {u : Value} (r : RelV x u) : absV u = some x := by
  cases x with
  | non => cases r; rfl
  | bl _ => cases r; rfl
  | int _ => obtain ⟨t, rfl⟩ := r; rfl
  | str _ => obtain ⟨t, rfl⟩ := r; rfl
  | byt _ => obtain ⟨t, rfl⟩ := r; rfl
  | flt _ => obtain ⟨t, rfl⟩ := r; rfl
  | ref _ => cases r; rfl
  | ty _ => cases r; rfl
theorem RelV.inj {x y : V} {u : Value} (r : RelV x u) (q : RelV y u) : x = y := Option.some.inj (r.abs.symm.trans q.abs)
theorem Vals.inj : ∀ {xs ys : List V} {us : List Value}, Vals xs us → Vals ys us → xs = ys
  | _, _, _, .nil, .nil => rfl
  | _, _, _, .cons r t, .cons r' t' => by rw [r.inj r', Vals.inj t t']
section
variable {X : Cx} {pins : List (Addr × Obj)} {σ : St} {H : Hp} {s : Shared} {a : Addr} {xs ys : List V}
theorem SqL.of {K : PySem.W.Frag} (h : H a = some (.lst xs)) : SqL K H a xs := .inl (.inl h)
theorem SqT.of {K : PySem.W.Frag} (h : H a = some (.tup xs)) : SqT K H a xs := .inl (.inl h)
theorem Inv.list (I : Inv X pins σ H s) (h : SqL X.K H a xs) : ∃ its : List Value, Vals xs its ∧ PlainL s.heap a its.toArray ∧ xs.length ≤ sizeLine := by
  rcases h with h | ⟨o, its, n, hk, hc, hd, hs, hz, r⟩
  · obtain ⟨z, its, n, r, e⟩ := h.ok I.hok
    exact ⟨its, r, ⟨_, n, e, rfl, rfl, rfl⟩, z⟩
  · refine ⟨its.toList, r, ⟨o, n, I.kIn a o hk, hc, hd, by simpa using hs⟩, ?_⟩
    have e := r.length
    simp only [Array.length_toList] at e
    omega
theorem Inv.tuple (I : Inv X pins σ H s) (h : SqT X.K H a xs) : ∃ its : List Value, Vals xs its ∧ IsTup s.heap a its.toArray ∧ xs.length ≤ sizeLine := by
  rcases h with h | ⟨o, its, n, hk, hc, hs, hz, r⟩
  · obtain ⟨z, its, r, p⟩ := h.ok I.hok
    exact ⟨its, r, p, z⟩
  · refine ⟨its.toList, r, ⟨o, I.kIn a o hk, hc, n, by simpa using hs⟩, ?_⟩
    have e := r.length
    simp only [Array.length_toList] at e
    omega
theorem Inv.list_inj (I : Inv X pins σ H s) (h : SqL X.K H a xs) (h' : SqL X.K H a ys) : xs = ys := by
  obtain ⟨its, r, ⟨o, n, e, _, _, d⟩, _⟩ := I.list h
  obtain ⟨its', r', ⟨o', n', e', _, _, d'⟩, _⟩ := I.list h'
  rw [e] at e'; cases e'
  rw [d] at d'
  injection d' with d1 _
  have : its = its' := by simpa using congrArg Array.toList d1
  subst this
  exact r.inj r'
theorem Inv.tuple_inj (I : Inv X pins σ H s) (h : SqT X.K H a xs) (h' : SqT X.K H a ys) : xs = ys := by
  obtain ⟨its, r, ⟨o, e, _, n, d⟩, _⟩ := I.tuple h
  obtain ⟨its', r', ⟨o', e', _, n', d'⟩, _⟩ := I.tuple h'
  rw [e] at e'; cases e'
  rw [d] at d'
  injection d' with d1 _
  have : its = its' := by simpa using congrArg Array.toList d1
  subst this
  exact r.inj r'
end

/-! ### another wish about exceptions -/
abbrev Cx.wish (X : Cx) (E : Value → Shared → Prop) : Cx := { X with xe := E }
/-- no exception leaves -/
abbrev Cx.nox (X : Cx) : Cx := X.wish fun _ _ => False
theorem Cx.Ok.wish {X : Cx} (ok : X.Ok) (E : Value → Shared → Prop) : (X.wish E).Ok :=
  ⟨ok.mod, ok.kind, ok.glob, ok.blt, ok.above, ok.inj, ok.has, ok.cab, ok.hd, ok.frames, ok.stk, ok.exf, ok.bs, ok.bsz, ok.noex, ok.exfs, ok.funs, ok.frf⟩
theorem Cx.Ok.unwish {X : Cx} {E : Value → Shared → Prop} (ok : (X.wish E).Ok) : X.Ok :=
  ⟨ok.mod, ok.kind, ok.glob, ok.blt, ok.above, ok.inj, ok.has, ok.cab, ok.hd, ok.frames, ok.stk, ok.exf, ok.bs, ok.bsz, ok.noex, ok.exfs, ok.funs, ok.frf⟩
section
variable {X : Cx} {pins : List (Addr × Obj)} {σ : St} {H : Hp} {s : Shared} {E : Value → Shared → Prop}
theorem Inv.wish (I : Inv X pins σ H s) (E : Value → Shared → Prop) : Inv (X.wish E) pins σ H s := ⟨I.ok.wish E, I.os, I.bare, I.base, I.loc, I.cell, I.free, I.freeC, I.pin, I.hok, I.len⟩
theorem Inv.unwish (I : Inv (X.wish E) pins σ H s) : Inv X pins σ H s := ⟨I.ok.unwish, I.os, I.bare, I.base, I.loc, I.cell, I.free, I.freeC, I.pin, I.hok, I.len⟩
theorem SP.unwish {D : Ends} {f : Flow} {s' : Shared} (h : SP (X.wish E) pins D f s') : SP X pins D f s' := by
  cases f with
  | next => obtain ⟨σ', H', I, q⟩ := h; exact ⟨σ', H', I.unwish, q⟩
  | brk => obtain ⟨σ', H', I, q⟩ := h; exact ⟨σ', H', I.unwish, q⟩
  | cont => obtain ⟨σ', H', I, q⟩ := h; exact ⟨σ', H', I.unwish, q⟩
  | ret u => obtain ⟨v, σ', H', I, r, q⟩ := h; exact ⟨v, σ', H', I.unwish, r, q⟩
theorem PSs.nox {st : List Stmt} {t : TS} (h : PSs X.nox st t) : PSs X st t := fun pins s σ H D I hw =>
  wpAny_mono (h pins s σ H D (I.wish _) hw) (fun _ _ q => q.unwish) fun _ _ z => False.elim z
end

/-! ### blocks and small statements -/
section
variable {X : Cx} {st : Stmt} {rest : List Stmt} {t u : TS} {e : Expr} {te : TE} {pos : Pos}
def tNext : TS := fun D σ H => D.nx σ H
def tSeq (t u : TS) : TS := fun D σ H => t { D with nx := u D } σ H
theorem pss_nil : PSs X [] tNext := fun _ _ σ H _ I h => wpAny_execs_nil ⟨σ, H, I, h⟩
theorem pss_cons (h1 : PS X st t) (h2 : PSs X rest u) : PSs X (st :: rest) (tSeq t u) := by
  intro pins s σ H D I h
  refine wpAny_execs_cons (thn (h1 pins s σ H { D with nx := u D } I h) fun f s1 q => ?_)
  cases f with
  | next =>
    obtain ⟨σ', H', I', q⟩ := q
    exact h2 pins s1 σ' H' D I' q
  | ret v => exact q
  | brk => exact q
  | cont => exact q
theorem pss_one (h1 : PS X st t) : PSs X [st] t := by
  intro pins s σ H D I h
  refine wpAny_execs_cons (thn (h1 pins s σ H D I h) fun f s1 q => ?_)
  cases f with
  | next => exact wpAny_execs_nil q
  | ret v => exact q
  | brk => exact q
  | cont => exact q
def tBreak : TS := fun D σ H => D.bk σ H
def tCont : TS := fun D σ H => D.ct σ H
/-- in a def's body nothing is shown -/
theorem Inv.quiet {pins : List (Addr × Obj)} {σ : St} {H : Hp} {s : Shared} (I : Inv X pins σ H s) : interactive X.env = false := by simp [interactive, I.ok.kind]
/-- an expression whose value is dropped -/
def tDrop (te : TE) : TS := fun D σ H => te σ H fun _ H1 => D.nx σ H1
theorem ps_expr (he : PE X e te) (hs : swapsWith e none pos.line X.env = pure false := by rfl) : PS X (.Expr e pos) (tDrop te) := by
  intro pins s σ H D I h
  exact wpAny_Expr_any (thn (he pins s σ H _ I h) fun v s1 ⟨x, H1, I1, r1, q1⟩ => ⟨σ, H1, I1, q1⟩) I.quiet hs
def tRet (te : TE) : TS := fun D σ H => te σ H D.rt
theorem ps_ret (he : PE X e te) : PS X (.Return (some e) pos) (tRet te) := by
  intro pins s σ H D I h
  exact wpAny_Return_some (thn (he pins s σ H _ I h) fun v s1 ⟨x, H1, I1, r1, q1⟩ => ⟨x, σ, H1, I1, r1, q1⟩)
def tRetN : TS := fun D _ H => D.rt .non H
def tIfS (c : TT) (t u : TS) : TS := fun D σ H => c σ H fun b H1 => if b = true then t D σ H1 else u D σ H1
theorem ps_if {c : Expr} {a b : List Stmt} {tc : TT} (hc : PT X c tc) (ha : PSs X a t) (hb : PSs X b u) : PS X (.If c a b pos) (tIfS tc t u) := by
  intro pins s σ H D I h
  refine wpAny_If (thn (hc pins s σ H _ I h) fun d s1 ⟨H1, I1, q1⟩ => ?_)
  cases d with
  | true => exact ha pins s1 σ H1 D I1 q1
  | false => exact hb pins s1 σ H1 D I1 q1
/-- code that the proof never comes to -/
def tNever : TS := fun _ _ _ => False
end

/-! ### targets -/
abbrev TG := V → St → Hp → (St → Hp → Prop) → Prop
abbrev TGs := List V → St → Hp → (St → Hp → Prop) → Prop
def PG (X : Cx) (target : Expr) (t : TG) : Prop :=
  ∀ (pins : List (Addr × Obj)) (s : Shared) (σ : St) (H : Hp) (v : V) (u : Value) (Q : St → Hp → Prop), Inv X pins σ H s → RelV v u → t v σ H Q →
    wpAny (model X.prog X.w) X.A (assign target X.env u) (fun _ s' => ∃ σ' H', Inv X pins σ' H' s' ∧ Q σ' H') X.xe s
/-- several targets, one after another -/
def PGs (X : Cx) (ts : List Expr) (t : TGs) : Prop :=
  ∀ (pins : List (Addr × Obj)) (s : Shared) (σ : St) (H : Hp) (vs : List V) (us : List Value) (Q : St → Hp → Prop), Inv X pins σ H s → Vals vs us → t vs σ H Q →
    wpAny (model X.prog X.w) X.A (assignInOrder ((assignEach ts X.env).map (·.2)) us) (fun _ s' => ∃ σ' H', Inv X pins σ' H' s' ∧ Q σ' H') X.xe s
/-- o[i] = v, by values -/
abbrev TSet := V → V → V → Hp → (Hp → Prop) → Prop
def PSet (X : Cx) (t : TSet) : Prop :=
  ∀ (pins : List (Addr × Obj)) (s : Shared) (σ : St) (H : Hp) (o i v : V) (ov iv u : Value) (Q : Hp → Prop), Inv X pins σ H s → RelV o ov → RelV i iv → RelV v u → t o i v H Q →
    wpAny (model X.prog X.w) X.A (setItem ov iv u) (fun _ s' => ∃ H', Inv X pins σ H' s' ∧ Q H') X.xe s
/-- a op= b, by values -/
abbrev TIp := V → V → Hp → VK → Prop
def PIp (X : Cx) (op : Operator) (t : TIp) : Prop :=
  ∀ (pins : List (Addr × Obj)) (s : Shared) (σ : St) (H : Hp) (x y : V) (v u : Value) (Q : VK), Inv X pins σ H s → RelV x v → RelV y u → t x y H Q →
    wpAny (model X.prog X.w) X.A (inplaceOp op v u) (EP X pins σ Q) X.xe s
section
variable {X : Cx} {pos : Pos}
def gName (i : Nat) : TG := fun v σ H Q => Q (σ.set i (some v)) H
theorem pg_name {i : Nat} {x : Str} (hN : X.N.Nodup) (hi : X.N[i]? = some x) (hx : Loc X.env.scope x) (hf : X.fn x = true ∨ X.env.scope.names.lookup x = some .local := by first | exact .inl rfl | exact .inr rfl | assumption) : PG X (.Name x pos) (gName i) := by
  intro pins s σ H v u Q I r h
  exact wpAny_assign_Name (store_ok I hN hi hx r (fun s' I' => ⟨_, H, I', h⟩) hf)
def gNil : TGs := fun vs σ H Q => vs = [] ∧ Q σ H
def gCons (t : TG) (u : TGs) : TGs := fun vs σ H Q => ∃ v r, vs = v :: r ∧ t v σ H fun σ' H' => u r σ' H' Q
theorem pgs_nil : PGs X [] gNil := by
  intro pins s σ H vs us Q I r h
  obtain ⟨e, h⟩ := h
  subst e
  cases r
  exact assignInOrder_nil ⟨σ, H, I, h⟩
theorem pgs_cons {e : Expr} {es : List Expr} {t : TG} {u : TGs} (h1 : PG X e t) (h2 : PGs X es u)
    (hs : (assignEach (e :: es) X.env).map (·.2) = assign e X.env :: (assignEach es X.env).map (·.2) := by rfl) : PGs X (e :: es) (gCons t u) := by
  intro pins s σ H vs us Q I r h
  obtain ⟨v, vr, e1, h⟩ := h
  subst e1
  cases r with
  | cons r rr =>
    rw [hs]
    refine assignInOrder_cons (thn (h1 pins s σ H _ _ _ I r h) fun _ s1 ⟨σ1, H1, I1, q1⟩ => ?_)
    exact h2 pins s1 σ1 H1 _ _ Q I1 rr q1
/-- (a, b, ..) = a tuple of that length -/
def gTup (K : PySem.W.Frag) (n : Nat) (t : TGs) : TG := fun v σ H Q => ∃ a xs, v = .ref a ∧ SqT K H a xs ∧ xs.length = n ∧ t xs σ H Q
theorem pg_tup {es : List Expr} {k : Nat} {t : TGs} {n : Nat} (hc : X.calm = true) (h : PGs X es t)
    (hn : (assignEach es X.env).length = n := by rfl) (hst : (assignEach es X.env).findIdx? (·.1) = none := by rfl) : PG X (.Tuple es k pos) (gTup X.K n t) := by
  intro pins s σ H v u Q I r hw
  obtain ⟨a, xs, e1, hq, hl, hw⟩ := hw
  subst e1
  cases r
  obtain ⟨its, rv, ht, hz⟩ := I.tuple hq
  refine assign_Tuple_tuple (I.ok.hd hc) ht (by simp [hn, ← hl, rv.length]) hst fun h' hx => ?_
  have I1 : Inv X pins σ H { s with heap := h' } := I.kept (t' := s.toks) fun b o e => hx b o (Nat.ne_of_lt (Heap.lt_size e)) e
  exact h pins _ σ H xs _ Q I1 (by simpa using rv) hw
/-- o[i] = .. -/
def gSub (to ti : TE) (t : TSet) : TG := fun v σ H Q => to σ H fun o H1 => ti σ H1 fun i H2 => t o i v H2 fun H3 => Q σ H3
/-- target = value -/
def tAsg (te : TE) (g : TG) : TS := fun D σ H => te σ H fun x H1 => g x σ H1 D.nx
theorem ps_asg {tg e : Expr} {te : TE} {g : TG} (he : PE X e te) (hg : PG X tg g) (hs : swapsWithSole [tg] e pos.line X.env = pure false := by rfl) (hw : swappedStores [tg] e X.env = pure none := by rfl)
    (h1 : (assignEach [tg] X.env).map (·.2) = [assign tg X.env] := by rfl) : PS X (.Assign [tg] e pos) (tAsg te g) := by
  intro pins s σ H D I h
  refine wpAny_Assign_stores (thn (he pins s σ H _ I h) fun v s1 ⟨x, H1, I1, r1, q1⟩ => ?_) hs hw
  rw [h1]
  exact thn (hg pins s1 σ H1 x v _ I1 r1 q1) fun _ s2 q => q
/-- name = value -/
theorem ps_set {i : Nat} {x : Str} {e : Expr} {te : TE} {pos' : Pos} (hN : X.N.Nodup) (hi : X.N[i]? = some x) (hx : Loc X.env.scope x) (he : PE X e te) (hs : swapsWith e (some (.Name x pos')) pos.line X.env = pure false := by rfl) (hf : X.fn x = true ∨ X.env.scope.names.lookup x = some .local := by first | exact .inl rfl | exact .inr rfl | assumption) :
    PS X (.Assign [.Name x pos'] e pos) (tAsg te (gName i)) := by
  intro pins s σ H D I h
  refine wpAny_Assign_Name (thn (he pins s σ H _ I h) fun v s1 ⟨y, H1, I1, r1, q1⟩ => ?_) hs
  exact store_ok I1 hN hi hx r1 (fun s2 I2 => ⟨_, H1, I2, q1⟩) hf
/-- a, b = x, y with plain local names: stored from the right; the pair itself is not tracked (the opening rows as in PyProof/Rows/TupAssign.lean:23) -/
def tPar (i j : Nat) (ta : TA) : TS := fun D σ H => ta σ H fun vs H1 => ∃ v w, vs = [v, w] ∧ D.nx ((σ.set i (some v)).set j (some w)) H1
/-- name op= e -/
def tAug (i : Nat) (te : TE) (ti : TIp) : TS := fun D σ H => ∃ x, σ[i]? = some (some x) ∧ te σ H fun y H1 => ti x y H1 fun z H2 => D.nx (σ.set i (some z)) H2
/-- o[i] op= e -/
def tAugS (to ti te : TE) (tget : V → V → Hp → VK → Prop) (tip : TIp) (tset : TSet) : TS := fun D σ H => to σ H fun o H1 => ti σ H1 fun i H2 => tget o i H2 fun x H3 => te σ H3 fun y H4 => tip x y H4 fun z H5 => tset o i z H5 fun H6 => D.nx σ H6
/-- o[i], by values -/
def PGet (X : Cx) (t : V → V → Hp → VK → Prop) : Prop :=
  ∀ (pins : List (Addr × Obj)) (s : Shared) (σ : St) (H : Hp) (o i : V) (ov iv : Value) (Q : VK), Inv X pins σ H s → RelV o ov → RelV i iv → t o i H Q →
    wpAny (model X.prog X.w) X.A (getItem ov iv) (EP X pins σ Q) X.xe s
/-- ints -/
def ipI (f : Int → Int → Int) : TIp := fun x y H Q => ∃ i j, x = .int i ∧ y = .int j ∧ Q (.int (f i j)) H
end

/-! ### while -/
section
variable {X : Cx} {pos : Pos}
/-- the invariant W with its measure -/
def tWhile (c : TT) (tb : TS) : TS := fun D σ H => ∃ W : Nat → St → Hp → Prop, (∃ m, W m σ H) ∧ ∀ m σ H, W m σ H →
  c σ H fun b H1 => if b = true then ∃ N : St → Hp → Prop, (∀ σ' H', N σ' H' → ∃ m', m' < m ∧ W m' σ' H') ∧ tb { D with nx := N, ct := N, bk := D.nx } σ H1 else D.nx σ H1
end

/-! ### what a loop or a comprehension walks -/
/-- at turn i: it yields x (the heap may grow), or it stops -/
structure It where
  go : Nat → Hp → Prop
  yld : Nat → Hp → V → Hp → Prop
  stop : Nat → Hp → Prop
/-- the iterator's own objects may turn: they are not the frame's, not pinned, younger than the entry (or a comprehension's own) -/
def FpOk (X : Cx) (pins : List (Addr × Obj)) (H : Hp) (b : Addr) : Prop :=
  H b = none ∧ b ≠ X.env.locals ∧ b ∉ X.fs ∧ (b ∈ X.ex ∨ X.s₀.heap.objs.size ≤ b) ∧ (∀ x c, X.env.cells.lookup x = some c → c ≠ b) ∧ ∀ p ∈ X.pn ++ pins, p.1 ≠ b
theorem Inv.fpOk {X : Cx} {pins : List (Addr × Obj)} {σ : St} {H H' : Hp} {s : Shared} {b : Addr} (I : Inv X pins σ H s) (hb : s.heap.objs.size ≤ b) (hn : H' b = none) : FpOk X pins H' b := by
  refine ⟨hn, Nat.ne_of_gt (Nat.lt_of_lt_of_le I.lt hb), I.nofs hb, .inr (Nat.le_trans I.sz hb), fun x c e z => ?_, fun p hp z => ?_⟩
  · obtain ⟨v, q⟩ := I.cell x c e
    exact absurd (Nat.lt_of_lt_of_le q.lt (by rw [z]; exact hb)) (Nat.lt_irrefl _)
  · exact absurd (Nat.lt_of_lt_of_le (Heap.lt_size (I.pin p hp).1) (by rw [z]; exact hb)) (Nat.lt_irrefl _)
structure Turn (P : Program) (w : World) (K : PySem.W.Frag) (tg : Expr) (J : It) (fp : List Addr) (it : Addr) (tn : Nat → Heap → Prop) : Prop where
  mem : it ∈ fp
  obj : ∀ i h, tn i h → ∀ b ∈ fp, ∃ o, h.get? b = some o ∧ ∀ v, o.data ≠ .cell v
  keep : ∀ i h h', tn i h → (∀ b ∈ fp, ∀ o, h.get? b = some o → h'.get? b = some o) → tn i h'
  item : ∀ (X : Cx), X.prog = P → X.w = w → X.K = K → X.calm = true → ∀ (i : Nat) (pins : List (Addr × Obj)) (s : Shared) (σ : St) (H : Hp) (E : Value → Shared → Prop), Inv X pins σ H s → (∀ b ∈ fp, FpOk X pins H b) → tn i s.heap → J.go i H →
    wpAny (model P w) X.A (pyNext (.ref it)) (fun r s1 => ∃ u, r = some u ∧
      wpAny (model P w) X.A (letOwnedTupleGo tg (.ref it) u) (fun _ s2 => ∃ x H', Inv X pins σ H' s2 ∧ RelV x u ∧ J.yld i H x H' ∧ tn (i + 1) s2.heap ∧ ∀ b ∈ fp, H' b = none) E s1) E s
  done : ∀ (X : Cx), X.prog = P → X.w = w → X.K = K → X.calm = true → ∀ (i : Nat) (pins : List (Addr × Obj)) (s : Shared) (σ : St) (H : Hp) (E : Value → Shared → Prop), Inv X pins σ H s → (∀ b ∈ fp, FpOk X pins H b) → tn i s.heap → J.stop i H →
    wpAny (model P w) X.A (pyNext (.ref it)) (fun r s1 => r = none ∧ Inv X pins σ H s1) E s
  self : ∀ (A : Around) (i : Nat) (s : Shared) (Q : Value → Shared → Prop) (E : Value → Shared → Prop), tn i s.heap → Q (.ref it) s → wpAny (model P w) A (pyIter (.ref it)) Q E s
abbrev TI := St → Hp → (It → Hp → Prop) → Prop
/-- an iterator has come -/
def PIE (X : Cx) (pins : List (Addr × Obj)) (σ : St) (tg : Expr) (R : It → Hp → Prop) (itv : Value) (s2 : Shared) : Prop :=
  ∃ (it : Addr) (fp : List Addr) (tn : Nat → Heap → Prop) (J : It) (H' : Hp), itv = .ref it ∧ Inv X pins σ H' s2 ∧ Turn X.prog X.w X.K tg J fp it tn ∧ tn 0 s2.heap ∧ (∀ b ∈ fp, FpOk X pins H' b) ∧ R J H'
def PI (X : Cx) (tg iter : Expr) (wi : TI) : Prop :=
  ∀ (pins : List (Addr × Obj)) (s : Shared) (σ : St) (H : Hp) (R : It → Hp → Prop), Inv X pins σ H s → wi σ H R →
    wpAny (model X.prog X.w) X.A (eval iter X.env) (fun v s1 => wpAny (model X.prog X.w) X.A (pyIter v) (PIE X pins σ tg R) X.xe s1) X.xe s

/-- the step ahead of the store is nothing for an iterator that keeps no tuple -/
theorem go_of {M : Model} {A : Around} {E : Value → Shared → Prop} {s : Shared} {tg : Expr} {it : Addr} {u : Value} {o : Obj} {n : String} {vs : Array Value} {Q : Unit → Shared → Prop} (ho : s.heap.get? it = some o) (hc : o.cls = .type n) (hd : o.data = .fields vs)
    (hn : ["enumerate", "zip", "dict_itemiterator", "dict_reverseitemiterator", "odict_iterator", "itertools.zip_longest", "itertools.pairwise"].contains n = false) (hQ : Q () s) : wpAny M A (letOwnedTupleGo tg (.ref it) u) Q E s := by
  unfold letOwnedTupleGo
  cases tg <;> first
    | exact wpAny_pure hQ
    | (cases u <;> first
        | exact wpAny_pure hQ
        | (refine wpAny_bind (wpAny_load ho ?_)
           rw [hc, hd]
           show wpAny M A (if (["enumerate", "zip", "dict_itemiterator", "dict_reverseitemiterator", "odict_iterator", "itertools.zip_longest", "itertools.pairwise"].contains n && vs[0]? == some (rawInt _)) = true then _ else _) Q E s
           rw [if_neg (by intro h; rw [hn, Bool.false_and] at h; cases h)]
           exact wpAny_pure hQ))

/-- the list at a, as it stands at each turn (a loop may append to it) -/
def Itl (K : PySem.W.Frag) (a : Addr) : It :=
  ⟨fun i H => ∃ xs x, SqL K H a xs ∧ xs[i]? = some x, fun i H x H' => H' = H ∧ ∀ xs, SqL K H a xs → xs[i]? = some x, fun i H => ∃ xs, SqL K H a xs ∧ xs.length ≤ i⟩
def Itt (K : PySem.W.Frag) (a : Addr) : It :=
  ⟨fun i H => ∃ xs x, SqT K H a xs ∧ xs[i]? = some x, fun i H x H' => H' = H ∧ ∀ xs, SqT K H a xs → xs[i]? = some x, fun i H => ∃ xs, SqT K H a xs ∧ xs.length ≤ i⟩
/-- lo, lo + 1, .. (n of them) -/
def Itr (lo : Int) (n : Nat) : It := ⟨fun i _ => i < n, fun i H x H' => H' = H ∧ x = .int (lo + i), fun i _ => n ≤ i⟩
theorem turn_list {P : Program} {w : World} {K : PySem.W.Frag} {tg : Expr} (a it : Addr) : Turn P w K tg (Itl K a) [it] it (fun i h => h.IsListIter it a i) where
  mem := by simp
  obj := fun i h st b hb => by
    have e : b = it := by simpa using hb
    subst e
    obtain ⟨o, e, c, d⟩ := st
    exact ⟨o, e, fun v z => by rw [d] at z; cases z⟩
  keep := fun i h h' st k => st.at fun o e => k it (by simp) o e
  item := by
    intro X hP hw hK hc i pins s σ H E I hf st hg
    subst hP hw hK
    obtain ⟨xs, x, hq, hx⟩ := hg
    obtain ⟨its, rv, p, hz⟩ := I.list hq
    obtain ⟨u, hu, ru⟩ := rv.get hx
    obtain ⟨f0, f1, f2, f3, f4, f5⟩ := hf it (by simp)
    refine wpAny_pyNext_list_item st p.isList (x := u) (by simpa using hu) fun h' st' sb => ?_
    have I1 : Inv X pins σ H { s with heap := h' } := I.turned (t' := s.toks) (fun b o hb e => (sb.2 b hb).trans e) f0 f1 f3 f4 f5
    obtain ⟨o, e, c, d⟩ := id st'
    exact ⟨u, rfl, go_of (s := { s with heap := h' }) e c d (by decide) ⟨x, H, I1, ru, ⟨rfl, fun ys hy => by rw [I.list_inj hy hq]; exact hx⟩, st', fun b hb => (hf b hb).1⟩⟩
  done := by
    intro X hP hw hK hc i pins s σ H E I hf st hg
    subst hP hw hK
    obtain ⟨xs, hq, hx⟩ := hg
    obtain ⟨its, rv, p, hz⟩ := I.list hq
    obtain ⟨f0, f1, f2, f3, f4, f5⟩ := hf it (by simp)
    have hl := rv.length
    exact wpAny_pyNext_list_end (I.ok.hd hc) st p.isList (by simp; omega) fun h' eb => ⟨rfl, I.turned (t' := s.toks) (fun b o hb e => eb b o hb e) f0 f1 f3 f4 f5⟩
  self := fun _ _ _ _ _ st h => wpAny_pyIter_listiter st h
theorem turn_tuple {P : Program} {w : World} {K : PySem.W.Frag} {tg : Expr} (a it : Addr) : Turn P w K tg (Itt K a) [it] it (fun i h => h.IsTupleIter it a i) where
  mem := by simp
  obj := fun i h st b hb => by
    have e : b = it := by simpa using hb
    subst e
    obtain ⟨o, e, c, d⟩ := st
    exact ⟨o, e, fun v z => by rw [d] at z; cases z⟩
  keep := fun i h h' st k => st.at fun o e => k it (by simp) o e
  item := by
    intro X hP hw hK hc i pins s σ H E I hf st hg
    subst hP hw hK
    obtain ⟨xs, x, hq, hx⟩ := hg
    obtain ⟨its, rv, p, hz⟩ := I.tuple hq
    obtain ⟨u, hu, ru⟩ := rv.get hx
    obtain ⟨f0, f1, f2, f3, f4, f5⟩ := hf it (by simp)
    refine wpAny_pyNext_tuple_item st (show s.heap.IsTuple a its.toArray from p) (x := u) (by simpa using hu) fun h' st' sb => ?_
    have I1 : Inv X pins σ H { s with heap := h' } := I.turned (t' := s.toks) (fun b o hb e => (sb.2 b hb).trans e) f0 f1 f3 f4 f5
    obtain ⟨o, e, c, d⟩ := id st'
    exact ⟨u, rfl, go_of (s := { s with heap := h' }) e c d (by decide) ⟨x, H, I1, ru, ⟨rfl, fun ys hy => by rw [I.tuple_inj hy hq]; exact hx⟩, st', fun b hb => (hf b hb).1⟩⟩
  done := by
    intro X hP hw hK hc i pins s σ H E I hf st hg
    subst hP hw hK
    obtain ⟨xs, hq, hx⟩ := hg
    obtain ⟨its, rv, p, hz⟩ := I.tuple hq
    obtain ⟨f0, f1, f2, f3, f4, f5⟩ := hf it (by simp)
    have hl := rv.length
    exact wpAny_pyNext_tuple_end (I.ok.hd hc) st (show s.heap.IsTuple a its.toArray from p) (by simp; omega) fun h' eb => ⟨rfl, I.turned (t' := s.toks) (fun b o hb e => eb b o hb e) f0 f1 f3 f4 f5⟩
  self := fun _ _ _ _ _ st h => wpAny_pyIter_tupleiter st h
theorem turn_range {P : Program} {w : World} {K : PySem.W.Frag} {tg : Expr} (it : Addr) (lo : Int) (n : Nat) : Turn P w K tg (Itr lo n) [it] it (fun i h => IsRangeIter h it (lo + (i : Nat) * 1) ((n : Int) - (i : Nat)) 1) where
  mem := by simp
  obj := fun i h st b hb => by
    have e : b = it := by simpa using hb
    subst e
    exact ⟨_, st, fun v z => by
      have z' : Data.fields _ = Data.cell v := z
      cases z'⟩
  keep := fun i h h' st k => k it (by simp) _ st
  item := by
    intro X hP hw hK hc i pins s σ H E I hf st hg
    subst hP hw hK
    obtain ⟨f0, f1, f2, f3, f4, f5⟩ := hf it (by simp)
    have W := Walks.range (prog := X.prog) (w := X.w) (I.ok.hd hc) it lo 1 n
    refine W.item i s _ _ hg st fun v h' tk hv st' kk => ?_
    obtain ⟨t, rfl⟩ := hv
    have I1 : Inv X pins σ H { s with heap := h', toks := tk } := I.turned (fun b o hb e => kk b o (by simpa using hb) e) f0 f1 f3 f4 f5
    refine ⟨_, rfl, go_of (s := { s with heap := h', toks := tk }) (n := "range_iterator") st' rfl rfl (by decide) ⟨.int (lo + i), H, I1, ⟨t, ?_⟩, ⟨rfl, rfl⟩, st', fun b hb => (hf b hb).1⟩⟩
    rw [Int.mul_one]
  done := by
    intro X hP hw hK hc i pins s σ H E I hf st hg
    subst hP hw hK
    obtain ⟨f0, f1, f2, f3, f4, f5⟩ := hf it (by simp)
    exact wpAny_pyNext_range_end (I.ok.hd hc) st (by have : n ≤ i := hg; omega) fun h' eb => ⟨rfl, I.turned (t' := s.toks) (fun b o hb e => eb b o hb e) f0 f1 f3 f4 f5⟩
  self := fun _ _ _ _ _ st h => wpAny_pyIter_rangeiter st h
end L2

namespace L2
open PySem PySem.Spec PyProof.Rows
section
variable {X : Cx} {tg : Expr}
def iList (K : PySem.W.Frag) (tl : TE) : TI := fun σ H R => tl σ H fun x H1 => ∃ a, x = .ref a ∧ (∃ xs, SqL K H1 a xs) ∧ R (Itl K a) H1
def iTup (K : PySem.W.Frag) (tl : TE) : TI := fun σ H R => tl σ H fun x H1 => ∃ a, x = .ref a ∧ (∃ xs, SqT K H1 a xs) ∧ R (Itt K a) H1
theorem pi_list {l : Expr} {tl : TE} (hl : PE X l tl) : PI X tg l (iList X.K tl) := by
  intro pins s σ H R I h
  refine thn (hl pins s σ H _ I h) fun v s1 ⟨x, H1, I1, r1, q1⟩ => ?_
  obtain ⟨a, e, ⟨xs, hq⟩, q⟩ := q1
  subst e
  cases r1
  obtain ⟨its, rv, p, hz⟩ := I1.list hq
  refine wpAny_pyIter_list p.isList ?_
  refine ⟨s1.heap.objs.size, [s1.heap.objs.size], _, _, H1, rfl, I1.kept (t' := s1.toks) fun b o e => Heap.get?_push_of_some _ e, turn_list a _, ⟨_, Heap.get?_push_size _ rfl, rfl, rfl⟩, fun b hb => ?_, q⟩
  have e : b = s1.heap.objs.size := by simpa using hb
  subst e
  exact I1.fpOk (Nat.le_refl _) (I1.hok.fresh (Nat.le_refl _))
theorem pi_tup {l : Expr} {tl : TE} (hl : PE X l tl) : PI X tg l (iTup X.K tl) := by
  intro pins s σ H R I h
  refine thn (hl pins s σ H _ I h) fun v s1 ⟨x, H1, I1, r1, q1⟩ => ?_
  obtain ⟨a, e, ⟨xs, hq⟩, q⟩ := q1
  subst e
  cases r1
  obtain ⟨its, rv, p, hz⟩ := I1.tuple hq
  refine wpAny_pyIter_tuple (show s1.heap.IsTuple a its.toArray from p) ?_
  refine ⟨s1.heap.objs.size, [s1.heap.objs.size], _, _, H1, rfl, I1.kept (t' := s1.toks) fun b o e => Heap.get?_push_of_some _ e, turn_tuple a _, ⟨_, Heap.get?_push_size _ rfl, rfl, rfl⟩, fun b hb => ?_, q⟩
  have e : b = s1.heap.objs.size := by simpa using hb
  subst e
  exact I1.fpOk (Nat.le_refl _) (I1.hok.fresh (Nat.le_refl _))
/-- a range object just made, walked -/
theorem range_it {pins : List (Addr × Obj)} {σ : St} {H : Hp} {s : Shared} {R : It → Hp → Prop} {E : Value → Shared → Prop} {lo hi : Int} {t u v : Tok} {tk : Nat} (I : Inv X pins σ H s) (h1 : -(2 ^ 62) ≤ lo) (h2 : lo < 2 ^ 62) (h3 : -(2 ^ 62) ≤ hi) (h4 : hi < 2 ^ 62)
    (q : R (Itr lo (hi - lo).toNat) H) : wpAny (model X.prog X.w) X.A (pyIter (.ref s.heap.objs.size)) (PIE X pins σ tg R) E { s with heap := s.heap.push { cls := .type "range", data := .fields #[.int lo t, .int hi u, .int 1 v] }, toks := tk } := by
  refine wpAny_pyIter_range (IsRange.new ..) (small_one h1 h2 h3 h4) ?_
  have I1 : Inv X pins σ H { s with heap := s.heap.push { cls := .type "range", data := .fields #[.int lo t, .int hi u, .int 1 v] }, toks := tk } := I.kept fun b o e => Heap.get?_push_of_some _ e
  refine ⟨(s.heap.push { cls := .type "range", data := .fields #[.int lo t, .int hi u, .int 1 v] }).objs.size, [(s.heap.push { cls := .type "range", data := .fields #[.int lo t, .int hi u, .int 1 v] }).objs.size], _, _, H, rfl,
    I1.kept (t' := tk) fun b o e => Heap.get?_push_of_some _ e, turn_range _ lo (hi - lo).toNat, ?_, fun b hb => ?_, q⟩
  · have e1 : lo + ((0 : Nat) : Int) * 1 = lo := by simp
    have e2 : (((hi - lo).toNat : Nat) : Int) - ((0 : Nat) : Int) = Builtin.Range.rangeSize lo hi 1 := by rw [rangeSize_one]; split <;> omega
    show IsRangeIter _ _ (lo + ((0 : Nat) : Int) * 1) ((((hi - lo).toNat : Nat) : Int) - ((0 : Nat) : Int)) 1
    rw [e1, e2]
    exact Heap.get?_push_size _ rfl
  · have e : b = (s.heap.push { cls := .type "range", data := .fields #[.int lo t, .int hi u, .int 1 v] }).objs.size := by simpa using hb
    subst e
    exact I1.fpOk (Nat.le_refl _) (I1.hok.fresh (Nat.le_refl _))
def iRng1 (ta : TA) : TI := fun σ H R => ta σ H fun vs H1 => ∃ j : Int, vs = [.int j] ∧ -(2 ^ 62) ≤ j ∧ j < 2 ^ 62 ∧ R (Itr 0 j.toNat) H1
def iRng2 (ta : TA) : TI := fun σ H R => ta σ H fun vs H1 => ∃ i j : Int, vs = [.int i, .int j] ∧ (-(2 ^ 62) ≤ i ∧ i < 2 ^ 62 ∧ -(2 ^ 62) ≤ j ∧ j < 2 ^ 62) ∧ R (Itr i (j - i).toNat) H1
theorem pi_range1 {a : Expr} {ta : TA} {p pos : Pos} (hg : Gl X "range") (hm : X.mg "range" = none) (ha : PA X [a] ta) (hs : starEach [a] X.env = [(false, eval a X.env)] := by rfl) : PI X tg (.Call (.Name "range" p) [a] [] pos) (iRng1 ta) := by
  intro pins s σ H R I h
  refine Call_ (ld_blt I hg hm boot_range (PyProof.Rows.callWith_type1 (thn (ha pos pins s σ H _ I h) fun us s1 ⟨vs, H1, I1, r1, q1⟩ => ?_) hs rfl))
  obtain ⟨j, e, q1, q2, q⟩ := q1
  subst e
  cases r1 with
  | cons r rr =>
    cases rr
    obtain ⟨t, rfl⟩ := r
    exact call_range_1 (range_it I1 (by omega) (by omega) q1 q2 (by simpa using q))
/-! ### for -/
/-- W: the invariant by the turn and a measure; N: what the body is to reach -/
def tFor (wi : TI) (g : TG) (tb : TS) : TS := fun D σ H => wi σ H fun J H1 => ∃ W : Nat → Nat → St → Hp → Prop, (∃ m, W 0 m σ H1) ∧ ∀ i m σ H, W i m σ H →
  (J.stop i H ∧ D.nx σ H) ∨ (J.go i H ∧ ∃ N : St → Hp → Prop, (∀ σ' H', N σ' H' → ∃ m', m' < m ∧ W (i + 1) m' σ' H') ∧ ∀ x H', J.yld i H x H' → g x σ H' fun σ2 H2 => tb { D with nx := N, ct := N, bk := D.nx } σ2 H2)
/-- the records at fp as they stand -/
def pinsAt (fp : List Addr) (h : Heap) : List (Addr × Obj) := fp.filterMap fun b => (h.get? b).map fun o => (b, o)
theorem mem_pinsAt {fp : List Addr} {h : Heap} {b : Addr} {o : Obj} (hb : b ∈ fp) (e : h.get? b = some o) : (b, o) ∈ pinsAt fp h := List.mem_filterMap.mpr ⟨b, hb, by rw [e]; rfl⟩
theorem of_pinsAt {fp : List Addr} {h : Heap} {p : Addr × Obj} (hp : p ∈ pinsAt fp h) : p.1 ∈ fp ∧ h.get? p.1 = some p.2 := by
  obtain ⟨b, hb, e⟩ := List.mem_filterMap.mp hp
  cases q : h.get? b with
  | none => rw [q] at e; cases e
  | some o =>
    rw [q] at e
    have e' : (b, o) = p := Option.some.inj e
    subst e'
    exact ⟨hb, q⟩
theorem Inv.pinned {pins : List (Addr × Obj)} {σ : St} {H : Hp} {s : Shared} {fp : List Addr} (I : Inv X pins σ H s) (hf : ∀ b ∈ fp, FpOk X pins H b) (ho : ∀ b ∈ fp, ∃ o, s.heap.get? b = some o ∧ ∀ v, o.data ≠ .cell v) : Inv X (pins ++ pinsAt fp s.heap) σ H s :=
  I.pins_of fun p hp => (List.mem_append.mp hp).elim (fun z => I.pin p (List.mem_append_right _ z)) fun z => by
    obtain ⟨hb, e⟩ := of_pinsAt z
    obtain ⟨f0, f1, f2, _⟩ := hf p.1 hb
    obtain ⟨o, e', d⟩ := ho p.1 hb
    rw [e] at e'; cases e'
    exact ⟨e, f0, f1, f2, d⟩
theorem Inv.unpinned {pins pl : List (Addr × Obj)} {σ : St} {H : Hp} {s : Shared} (I : Inv X (pins ++ pl) σ H s) : Inv X pins σ H s := I.pins_of fun p hp => I.pin p (List.mem_append_right _ (List.mem_append_left _ hp))
theorem ps_for {iter : Expr} {body : List Stmt} {wi : TI} {g : TG} {tb : TS} {pos : Pos} (hp : PassesOwn (model X.prog X.w) X.A X.env X.xe) (hc : X.calm = true) (hi : PI X tg iter wi) (hg : PG X tg g) (hb : PSs X body tb)
    (hs : ∀ x, foldedSetIterable iter X.env x = pure x := by intro _; rfl) : PS X (.For tg iter body [] pos) (tFor wi g tb) := by
  intro pins s σ H D I h
  refine wpAny_For (thn (hi pins s σ H _ I h) fun v s1 h1 => thn h1 fun itv s2 h2 => ?_) hs
  obtain ⟨it, fp, tn, J, H2, e, I2, T, st2, f2, W, ⟨m0, w0⟩, turn⟩ := h2
  subst e
  -- what stays true of the iterator's objects through the loop
  have stat : ∀ {H' : Hp}, (∀ b ∈ fp, H' b = none) → ∀ b ∈ fp, FpOk X pins H' b := fun hn b hb => ⟨hn b hb, (f2 b hb).2⟩
  refine codeAny_forLoop_any (fun n s' => ∃ i σ' H', Inv X pins σ' H' s' ∧ tn i s'.heap ∧ (∀ b ∈ fp, H' b = none) ∧ W i n σ' H') ?_ m0 ⟨0, σ, H2, I2, st2, fun b hb => (f2 b hb).1, w0⟩
  rintro n s3 ⟨i, σ3, H3, I3, st3, fr3, w3⟩
  rcases turn i n σ3 H3 w3 with ⟨stop, qn⟩ | ⟨go, N, hN, step⟩
  · refine wpAny_passesOwn hp (thn (T.done X rfl rfl rfl hc i pins s3 σ3 H3 X.xe I3 (stat fr3) st3 stop) fun r s4 ⟨hr, I4⟩ => ?_)
    subst hr
    exact wpAny_execs_nil ⟨σ3, H3, I4, qn⟩
  · refine wpAny_passesOwn hp (thn (T.item X rfl rfl rfl hc i pins s3 σ3 H3 X.xe I3 (stat fr3) st3 go) fun r s4 ⟨u, hr, h4⟩ => ?_)
    subst hr
    refine wpAny_passesOwn hp (thn h4 fun _ s5 ⟨x, H5, I5, r5, y5, st5, fr5⟩ => ?_)
    have I5' := I5.pinned (stat fr5) (T.obj _ _ st5)
    refine wpAny_passesOwn hp (thn (hg _ s5 σ3 H5 x u _ I5' r5 (step x H5 y5)) fun _ s6 ⟨σ6, H6, I6, q6⟩ => ?_)
    refine wpAny_passesOwn hp (thn (hb _ s6 σ6 H6 _ I6 q6) fun f s7 q7 => ?_)
    have again : ∀ {σ7 : St} {H7 : Hp}, Inv X (pins ++ pinsAt fp s5.heap) σ7 H7 s7 → N σ7 H7 → ∃ m, m < n ∧ ∃ i σ' H', Inv X pins σ' H' s7 ∧ tn i s7.heap ∧ (∀ b ∈ fp, H' b = none) ∧ W i m σ' H' := fun {σ7 H7} I7 n7 => by
      obtain ⟨m', hm, w7⟩ := hN σ7 H7 n7
      refine ⟨m', hm, i + 1, σ7, H7, I7.unpinned, T.keep _ _ _ st5 fun b hb o e => (I7.pin (b, o) (List.mem_append_right _ (List.mem_append_right _ (mem_pinsAt hb e)))).1, fun b hb => ?_, w7⟩
      obtain ⟨o, e, d⟩ := T.obj _ _ st5 b hb
      exact (I7.pin (b, o) (List.mem_append_right _ (List.mem_append_right _ (mem_pinsAt hb e)))).2.1
    cases f with
    | next => obtain ⟨σ7, H7, I7, n7⟩ := q7; exact again I7 n7
    | cont => obtain ⟨σ7, H7, I7, n7⟩ := q7; exact again I7 n7
    | brk => obtain ⟨σ7, H7, I7, q7⟩ := q7; exact ⟨σ7, H7, I7.unpinned, q7⟩
    | ret v => obtain ⟨x7, σ7, H7, I7, r7, q7⟩ := q7; exact ⟨x7, σ7, H7, I7.unpinned, r7, q7⟩
end

/-! ### the forms one uses -/
theorem for_tup {K : PySem.W.Frag} {a : Addr} {xs : List V} {g : TG} {tb : TS} {D : Ends} {σ : St} {H : Hp} (Pv : Nat → St → Hp → Prop) (h0 : Pv 0 σ H) (hl : ∀ i σ H, i ≤ xs.length → Pv i σ H → SqT K H a xs)
    (hs : ∀ i x σ H, xs[i]? = some x → Pv i σ H → g x σ H fun σ2 H2 => tb { D with nx := Pv (i + 1), ct := Pv (i + 1), bk := D.nx } σ2 H2) (hd : ∀ σ H, Pv xs.length σ H → D.nx σ H) :
    ∃ W : Nat → Nat → St → Hp → Prop, (∃ m, W 0 m σ H) ∧ ∀ i m σ H, W i m σ H →
      ((Itt K a).stop i H ∧ D.nx σ H) ∨ ((Itt K a).go i H ∧ ∃ N : St → Hp → Prop, (∀ σ' H', N σ' H' → ∃ m', m' < m ∧ W (i + 1) m' σ' H') ∧ ∀ x H', (Itt K a).yld i H x H' → g x σ H' fun σ2 H2 => tb { D with nx := N, ct := N, bk := D.nx } σ2 H2) := by
  refine ⟨fun i m σ H => m = xs.length - i ∧ i ≤ xs.length ∧ Pv i σ H, ⟨xs.length, by simp, Nat.zero_le _, h0⟩, ?_⟩
  rintro i m σ H ⟨rfl, hi, p⟩
  have q := hl i σ H hi p
  by_cases hlt : i < xs.length
  · refine .inr ⟨⟨xs, xs[i], q, by simp [hlt]⟩, Pv (i + 1), fun σ' H' p' => ⟨xs.length - (i + 1), by omega, rfl, hlt, p'⟩, fun x H' y => ?_⟩
    obtain ⟨e, y⟩ := y
    subst e
    exact hs i x σ _ (y xs q) p
  · have e : i = xs.length := by omega
    subst e
    exact .inl ⟨⟨xs, q, Nat.le_refl _⟩, hd σ H p⟩
theorem for_range {lo : Int} {n : Nat} {g : TG} {tb : TS} {D : Ends} {σ : St} {H : Hp} (Pv : Nat → St → Hp → Prop) (h0 : Pv 0 σ H)
    (hs : ∀ i σ H, i < n → Pv i σ H → g (.int (lo + i)) σ H fun σ2 H2 => tb { D with nx := Pv (i + 1), ct := Pv (i + 1), bk := D.nx } σ2 H2) (hd : ∀ σ H, Pv n σ H → D.nx σ H) :
    ∃ W : Nat → Nat → St → Hp → Prop, (∃ m, W 0 m σ H) ∧ ∀ i m σ H, W i m σ H →
      ((Itr lo n).stop i H ∧ D.nx σ H) ∨ ((Itr lo n).go i H ∧ ∃ N : St → Hp → Prop, (∀ σ' H', N σ' H' → ∃ m', m' < m ∧ W (i + 1) m' σ' H') ∧ ∀ x H', (Itr lo n).yld i H x H' → g x σ H' fun σ2 H2 => tb { D with nx := N, ct := N, bk := D.nx } σ2 H2) := by
  refine ⟨fun i m σ H => m = n - i ∧ i ≤ n ∧ Pv i σ H, ⟨n, by simp, Nat.zero_le _, h0⟩, ?_⟩
  rintro i m σ H ⟨rfl, hi, p⟩
  by_cases hlt : i < n
  · refine .inr ⟨hlt, Pv (i + 1), fun σ' H' p' => ⟨n - (i + 1), by omega, rfl, hlt, p'⟩, fun x H' y => ?_⟩
    obtain ⟨e, y⟩ := y
    subst e y
    exact hs i σ _ hlt p
  · have e : i = n := by omega
    subst e
    exact .inl ⟨Nat.le_refl _, hd σ H p⟩
end L2

namespace L2
open PySem PySem.Spec PyProof.Rows

abbrev R2 := V → V → Hp → VK → Prop
/-- a two-place operation on values: f is binaryOp op, inplaceOp op or compareOp op -/
def OpR (X : Cx) (f : Value → Value → Sem Value) (r : R2) : Prop :=
  ∀ (pins : List (Addr × Obj)) (s : Shared) (σ : St) (H : Hp) (x y : V) (v u : Value) (Q : VK), Inv X pins σ H s → RelV x v → RelV y u → r x y H Q →
    wpAny (model X.prog X.w) X.A (f v u) (EP X pins σ Q) X.xe s
/-- a one-place operation -/
def UnR (X : Cx) (f : Value → Sem Value) (r : V → Hp → VK → Prop) : Prop :=
  ∀ (pins : List (Addr × Obj)) (s : Shared) (σ : St) (H : Hp) (x : V) (v : Value) (Q : VK), Inv X pins σ H s → RelV x v → r x H Q →
    wpAny (model X.prog X.w) X.A (f v) (EP X pins σ Q) X.xe s
/-- a call of a value that is known (a builtin, a type) with values -/
def CallR (X : Cx) (f : Value) (r : List V → Hp → VK → Prop) : Prop :=
  ∀ (pins : List (Addr × Obj)) (s : Shared) (σ : St) (H : Hp) (xs : List V) (us : List Value) (Q : VK), Inv X pins σ H s → Vals xs us → r xs H Q →
    wpAny (model X.prog X.w) X.A (call f us) (EP X pins σ Q) X.xe s
/-- a value's truth -/
def TruR (X : Cx) (r : V → Hp → (Bool → Hp → Prop) → Prop) : Prop :=
  ∀ (pins : List (Addr × Obj)) (s : Shared) (σ : St) (H : Hp) (x : V) (v : Value) (Q : Bool → Hp → Prop), Inv X pins σ H s → RelV x v → r x H Q →
    wpAny (model X.prog X.w) X.A (truthy v) (TP X pins σ Q) X.xe s

def tOp (r : R2) (ta tb : TE) : TE := fun σ H Q => ta σ H fun x H1 => tb σ H1 fun y H2 => r x y H2 Q
def tUn (r : V → Hp → VK → Prop) (ta : TE) : TE := fun σ H Q => ta σ H fun x H1 => r x H1 Q
/-- ints in, under C, and a value out -/
def rI (C : Int → Int → Prop) (g : Int → Int → V) : R2 := fun x y H Q => ∃ i j, x = .int i ∧ y = .int j ∧ C i j ∧ Q (g i j) H
def rI0 (g : Int → Int → V) : R2 := fun x y H Q => ∃ i j, x = .int i ∧ y = .int j ∧ Q (g i j) H
def rU (g : Int → V) : V → Hp → VK → Prop := fun x H Q => ∃ i, x = .int i ∧ Q (g i) H

section
variable {X : Cx} {a b c : Expr} {ta tb tc : TE} {pos : Pos}

theorem binT (ha : PE X a ta) (hb : PE X b tb) {pins : List (Addr × Obj)} {s : Shared} {σ : St} {H : Hp} {R : V → V → Hp → Prop} (I : Inv X pins σ H s)
    (h : ta σ H fun x H1 => tb σ H1 fun y H2 => R x y H2) {Q : Value → Shared → Prop} {f : Value → Value → Sem Value}
    (hf : ∀ v u s2 x y H2, Inv X pins σ H2 s2 → RelV x v → RelV y u → R x y H2 → wpAny (model X.prog X.w) X.A (f v u) Q X.xe s2) :
    wpAny (model X.prog X.w) X.A (eval a X.env) (fun v s₁ => wpAny (model X.prog X.w) X.A (eval b X.env) (fun u s₂ => wpAny (model X.prog X.w) X.A (f v u) Q X.xe s₂) X.xe s₁) X.xe s := by
  refine thn (ha pins s σ H _ I h) fun v s1 ⟨x, H1, I1, r1, q1⟩ => ?_
  refine thn (hb pins s1 σ H1 _ I1 q1) fun u s2 ⟨y, H2, I2, r2, q2⟩ => ?_
  exact hf v u s2 x y H2 I2 r1 r2 q2

theorem pe_op {op : Operator} {r : R2} (ho : OpR X (binaryOp op) r) (ha : PE X a ta) (hb : PE X b tb) : PE X (.BinOp a op b pos) (tOp r ta tb) := by
  intro pins s σ H Q I h
  exact wpAny_BinOp (binT ha hb I h fun v u s2 x y H2 I2 rx ry q => ho pins s2 σ H2 x y v u Q I2 rx ry q)
theorem pe_un {op : UnaryOp} {r : V → Hp → VK → Prop} (ho : UnR X (unaryOp op) r) (ha : PE X a ta) : PE X (.UnaryOp op a pos) (tUn r ta) := by
  intro pins s σ H Q I h
  exact UnaryOp_ (thn (ha pins s σ H _ I h) fun v s1 ⟨x, H1, I1, r1, q1⟩ => ho pins s1 σ H1 x v Q I1 r1 q1)
/-! ### ints -/
theorem opI {f : Value → Value → Sem Value} {C : Int → Int → Prop} {g : Int → Int → Int}
    (rule : ∀ (i j : Int) (t u : Tok) (s : Shared) (Q : Value → Shared → Prop) (E : Value → Shared → Prop), C i j → Q (.int (g i j) s.toks) { s with toks := s.toks + 1 } → wpAny (model X.prog X.w) X.A (f (.int i t) (.int j u)) Q E s) :
    OpR X f (rI C fun i j => .int (g i j)) := by
  intro pins s σ H x y v u Q I rx ry h
  obtain ⟨i, j, rfl, rfl, hc, q⟩ := h
  obtain ⟨t, rfl⟩ := rx
  obtain ⟨t', rfl⟩ := ry
  exact rule i j t t' s _ _ hc ⟨.int (g i j), H, I.tok _, ⟨_, rfl⟩, q⟩
theorem opI0 {f : Value → Value → Sem Value} {g : Int → Int → Int}
    (rule : ∀ (i j : Int) (t u : Tok) (s : Shared) (Q : Value → Shared → Prop) (E : Value → Shared → Prop), Q (.int (g i j) s.toks) { s with toks := s.toks + 1 } → wpAny (model X.prog X.w) X.A (f (.int i t) (.int j u)) Q E s) :
    OpR X f (rI0 fun i j => .int (g i j)) := by
  intro pins s σ H x y v u Q I rx ry h
  obtain ⟨i, j, rfl, rfl, q⟩ := h
  obtain ⟨t, rfl⟩ := rx
  obtain ⟨t', rfl⟩ := ry
  exact rule i j t t' s _ _ ⟨.int (g i j), H, I.tok _, ⟨_, rfl⟩, q⟩
theorem opB0 {f : Value → Value → Sem Value} {g : Int → Int → Bool}
    (rule : ∀ (i j : Int) (t u : Tok) (s : Shared) (Q : Value → Shared → Prop) (E : Value → Shared → Prop), Q (.bool (g i j)) s → wpAny (model X.prog X.w) X.A (f (.int i t) (.int j u)) Q E s) :
    OpR X f (rI0 fun i j => .bl (g i j)) := by
  intro pins s σ H x y v u Q I rx ry h
  obtain ⟨i, j, rfl, rfl, q⟩ := h
  obtain ⟨t, rfl⟩ := rx
  obtain ⟨t', rfl⟩ := ry
  exact rule i j t t' s _ _ ⟨.bl (g i j), H, I, rfl, q⟩

def CDiv (i j : Int) : Prop := 0 < j ∧ j < 1073741824
def CDivN (i j : Int) : Prop := j ≠ 0 ∧ j.natAbs < 1073741824
def CPow (i j : Int) : Prop := 0 ≤ j ∧ j ≤ 1000000 ∧ i.natAbs < 2 ^ 64
def CMul (i j : Int) : Prop := (-(2 ^ 64) < i ∧ i < 2 ^ 64) ∨ (-(2 ^ 64) < j ∧ j < 2 ^ 64)
theorem CMul.ok {i j : Int} (h : CMul i j) : IntMulOk i j := by
  rcases h with ⟨h1, h2⟩ | ⟨h1, h2⟩
  · exact .of_left (intBits_le_64 h1 h2)
  · exact .of_right (intBits_le_64 h1 h2)
theorem op_add : OpR X (binaryOp .Add) (rI0 fun i j => .int (i + j)) := opI0 fun _ _ _ _ _ _ _ q => add_int q
theorem op_sub : OpR X (binaryOp .Sub) (rI0 fun i j => .int (i - j)) := opI0 fun _ _ _ _ _ _ _ q => sub_int q
theorem op_mul : OpR X (binaryOp .Mult) (rI CMul fun i j => .int (i * j)) := opI fun _ _ _ _ _ _ _ hc q => mul_int q hc.ok
/-- // by a positive divisor -/
theorem op_fdiv : OpR X (binaryOp .FloorDiv) (rI CDiv fun i j => .int (i / j)) := opI fun i j _ _ _ _ _ hc q => by
  have h1 : (0 : Int) < j := hc.1
  have h2 : j < 1073741824 := hc.2
  exact floordiv_int (by omega) (by rw [Int.fdiv_eq_ediv_of_nonneg i (by omega)]; exact q) (.inl (PyProof.noPylong_small (by omega)))
/-- % by a positive divisor of any size -/
theorem op_mod : OpR X (binaryOp .Mod) (rI (fun _ j => 0 < j) fun i j => .int (i % j)) := opI fun i j _ _ _ _ _ hc q => by
  have h1 : (0 : Int) < j := hc
  exact mod_int' (by omega) (by rw [Int.fmod_eq_emod_of_nonneg i (by omega)]; exact q)
theorem op_pow : OpR X (binaryOp .Pow) (rI CPow fun i j => .int (i ^ j.toNat)) := opI fun _ _ _ _ _ _ _ hc q => pow_int_small hc.1 hc.2.1 hc.2.2 q
theorem unI {f : Value → Sem Value} {g : Int → Int}
    (rule : ∀ (i : Int) (t : Tok) (s : Shared) (Q : Value → Shared → Prop) (E : Value → Shared → Prop), Q (.int (g i) s.toks) { s with toks := s.toks + 1 } → wpAny (model X.prog X.w) X.A (f (.int i t)) Q E s) :
    UnR X f (rU fun i => .int (g i)) := by
  intro pins s σ H x v Q I rx h
  obtain ⟨i, rfl, q⟩ := h
  obtain ⟨t, rfl⟩ := rx
  exact rule i t s _ _ ⟨.int (g i), H, I.tok _, ⟨_, rfl⟩, q⟩
theorem un_neg : UnR X (unaryOp .USub) (rU fun i => .int (-i)) := unI fun _ _ _ _ _ q => neg_int q
/-! ### bools among ints: n += (a < b) -/
end

/-! ### comparisons -/
/-- the scalars that == tells apart as data does -/
def scal : V → V → Bool
  | .non, .non => true | .non, .int _ => true | .int _, .non => true | .non, .bl _ => true | .bl _, .non => true | .non, .str _ => true | .str _, .non => true
  | .int _, .int _ => true | .bl _, .bl _ => true | .str _, .str _ => true | .byt _, .byt _ => true
  | .int _, .str _ => true | .str _, .int _ => true | .bl _, .str _ => true | .str _, .bl _ => true
  | _, _ => false
def rEq : R2 := fun x y H Q => scal x y = true ∧ Q (.bl (decide (x = y))) H
def rNe : R2 := fun x y H Q => scal x y = true ∧ Q (.bl (!decide (x = y))) H

theorem dec_int {i j : Int} : decide (V.int i = V.int j) = (i == j) := by
  rw [Bool.eq_iff_iff]
  simp
theorem dec_bl {i j : Bool} : decide (V.bl i = V.bl j) = (i == j) := by
  rw [Bool.eq_iff_iff]
  simp
theorem dec_str {i j : Str} : decide (V.str i = V.str j) = (i == j) := by
  rw [Bool.eq_iff_iff]
  simp
theorem dec_byt {i j : Array UInt8} : decide (V.byt i = V.byt j) = (i.toList == j.toList) := by
  rw [Bool.eq_iff_iff]
  cases i
  cases j
  simp

section
variable {X : Cx} {a b c : Expr} {ta tb tc : TE} {pos : Pos}
theorem fin_bl {pins : List (Addr × Obj)} {σ : St} {H : Hp} {s : Shared} {Q : VK} {k k' : Bool} (I : Inv X pins σ H s) (q : Q (.bl k) H) (e : k = k') : EP X pins σ Q (.bool k') s := by
  subst e
  exact ⟨.bl k, H, I, rfl, q⟩
theorem op_eq : OpR X (compareOp .Eq) rEq := by
  intro pins s σ H x y v u Q I rx ry h
  obtain ⟨hs, q⟩ := h
  cases x with
  | non =>
    cases rx
    cases y with
    | non => cases ry; exact PySem.EqNone.eq_none_none (fin_bl I q (by simp))
    | bl j => cases ry; exact PySem.EqNone.eq_none_bool (fin_bl I q (by simp))
    | int j => obtain ⟨t', rfl⟩ := ry; exact PySem.EqNone.eq_none_int (fin_bl I q (by simp))
    | str j => obtain ⟨t', rfl⟩ := ry; exact PySem.EqNone.eq_none_str (fin_bl I q (by simp))
    | _ => exact absurd (show false = true from hs) Bool.false_ne_true
  | bl i =>
    cases rx
    cases y with
    | non => cases ry; exact PySem.EqNone.eq_bool_none (fin_bl I q (by simp))
    | bl j => cases ry; exact eq_bool (fin_bl I q dec_bl)
    | str j => obtain ⟨t', rfl⟩ := ry; exact PySem.EqMixed.eq_bool_str (fin_bl I q (by simp))
    | _ => exact absurd (show false = true from hs) Bool.false_ne_true
  | int i =>
    obtain ⟨t, rfl⟩ := rx
    cases y with
    | non => cases ry; exact PySem.EqNone.eq_int_none (fin_bl I q (by simp))
    | int j => obtain ⟨t', rfl⟩ := ry; exact eq_int (fin_bl I q dec_int)
    | str j => obtain ⟨t', rfl⟩ := ry; exact PySem.EqMixed.eq_int_str (fin_bl I q (by simp))
    | _ => exact absurd (show false = true from hs) Bool.false_ne_true
  | str i =>
    obtain ⟨t, rfl⟩ := rx
    cases y with
    | non => cases ry; exact PySem.EqNone.eq_str_none (fin_bl I q (by simp))
    | bl j => cases ry; exact PySem.EqMixed.eq_str_bool (fin_bl I q (by simp))
    | int j => obtain ⟨t', rfl⟩ := ry; exact PySem.EqMixed.eq_str_int (fin_bl I q (by simp))
    | str j => obtain ⟨t', rfl⟩ := ry; exact eq_str (fin_bl I q dec_str)
    | _ => exact absurd (show false = true from hs) Bool.false_ne_true
  | byt i =>
    obtain ⟨t, rfl⟩ := rx
    cases y with
    | byt j => obtain ⟨t', rfl⟩ := ry; exact PySem.W.eq_bytes (fin_bl I q dec_byt)
    | _ => exact absurd (show false = true from hs) Bool.false_ne_true
  | _ => cases y <;> exact absurd (show false = true from hs) Bool.false_ne_true
theorem op_ne : OpR X (compareOp .NotEq) rNe := by
  intro pins s σ H x y v u Q I rx ry h
  obtain ⟨hs, q⟩ := h
  cases x with
  | non =>
    cases rx
    cases y with
    | non => cases ry; exact PySem.EqNone.ne_none_none (fin_bl I q (by simp))
    | bl j => cases ry; exact PySem.EqNone.ne_none_bool (fin_bl I q (by simp))
    | int j => obtain ⟨t', rfl⟩ := ry; exact PySem.EqNone.ne_none_int (fin_bl I q (by simp))
    | str j => obtain ⟨t', rfl⟩ := ry; exact PySem.EqNone.ne_none_str (fin_bl I q (by simp))
    | _ => exact absurd (show false = true from hs) Bool.false_ne_true
  | bl i =>
    cases rx
    cases y with
    | non => cases ry; exact PySem.EqNone.ne_bool_none (fin_bl I q (by simp))
    | bl j => cases ry; exact ne_bool (fin_bl I q (congrArg not dec_bl))
    | str j => obtain ⟨t', rfl⟩ := ry; exact PySem.EqMixed.ne_bool_str (fin_bl I q (by simp))
    | _ => exact absurd (show false = true from hs) Bool.false_ne_true
  | int i =>
    obtain ⟨t, rfl⟩ := rx
    cases y with
    | non => cases ry; exact PySem.EqNone.ne_int_none (fin_bl I q (by simp))
    | int j => obtain ⟨t', rfl⟩ := ry; exact ne_int (fin_bl I q (congrArg not dec_int))
    | str j => obtain ⟨t', rfl⟩ := ry; exact PySem.EqMixed.ne_int_str (fin_bl I q (by simp))
    | _ => exact absurd (show false = true from hs) Bool.false_ne_true
  | str i =>
    obtain ⟨t, rfl⟩ := rx
    cases y with
    | non => cases ry; exact PySem.EqNone.ne_str_none (fin_bl I q (by simp))
    | bl j => cases ry; exact PySem.EqMixed.ne_str_bool (fin_bl I q (by simp))
    | int j => obtain ⟨t', rfl⟩ := ry; exact PySem.EqMixed.ne_str_int (fin_bl I q (by simp))
    | str j => obtain ⟨t', rfl⟩ := ry; exact ne_str (fin_bl I q (congrArg not dec_str))
    | _ => exact absurd (show false = true from hs) Bool.false_ne_true
  | byt i =>
    obtain ⟨t, rfl⟩ := rx
    cases y with
    | byt j => obtain ⟨t', rfl⟩ := ry; exact PySem.W.ne_bytes (fin_bl I q (congrArg not dec_byt))
    | _ => exact absurd (show false = true from hs) Bool.false_ne_true
  | _ => cases y <;> exact absurd (show false = true from hs) Bool.false_ne_true

theorem op_lt : OpR X (compareOp .Lt) (rI0 fun i j => .bl (decide (i < j))) := opB0 fun _ _ _ _ _ _ _ q => lt_int q
theorem op_le : OpR X (compareOp .LtE) (rI0 fun i j => .bl (decide (i ≤ j))) := opB0 fun _ _ _ _ _ _ _ q => le_int q
theorem op_gt : OpR X (compareOp .Gt) (rI0 fun i j => .bl (decide (j < i))) := opB0 fun _ _ _ _ _ _ _ q => gt_int q
theorem op_ge : OpR X (compareOp .GtE) (rI0 fun i j => .bl (decide (j ≤ i))) := opB0 fun _ _ _ _ _ _ _ q => ge_int q
/-- the one string within the other -/
theorem op_in_str : OpR X (compareOp .In) (fun x y H Q => ∃ i j, x = .str i ∧ y = .str j ∧ Q (.bl (!(Builtin.Str.occurrences j i 0 j.length 1).isEmpty)) H) := by
  intro pins s σ H x y v u Q I rx ry h
  obtain ⟨i, j, rfl, rfl, q⟩ := h
  obtain ⟨t, rfl⟩ := rx
  obtain ⟨t', rfl⟩ := ry
  exact in_str (fin_bl I q rfl)

/-- is, is not of two objects that are tracked lists or instances -/
def isObj : HO → Bool
  | .lst _ => true
  | .ins _ _ _ => true
  | _ => false
theorem nomark (b : Expr) {op : CmpOp} (h : op ≠ .In := by decide) (h2 : op ≠ .NotIn := by decide) : behindInMarks op b = false := by
  have e1 : (op == CmpOp.In) = false := by cases op <;> first | rfl | exact absurd rfl h
  have e2 : (op == CmpOp.NotIn) = false := by cases op <;> first | rfl | exact absurd rfl h2
  cases b <;> simp [behindInMarks, e1, e2]
/-- a comparison as a value; hm: nomark b, or (for in, not in) by with_unfolding_all rfl -/
theorem pe_cmpR {op : CmpOp} {r : R2} (ho : OpR X (compareOp op) r) (ha : PE X a ta) (hb : PE X b tb) (hm : behindInMarks op b = false) : PE X (.Compare a [op] [b] pos) (tOp r ta tb) := by
  intro pins s σ H Q I h
  exact wpAny_Compare1 (binT ha hb I h fun v u s2 x y H2 I2 rx ry q => ho pins s2 σ H2 x y v u Q I2 rx ry q) hm
/-- a reading of a value as a test -/
def tTest (t : TE) : TT := fun σ H Q => t σ H fun x H' => ∃ k, x = .bl k ∧ Q k H'
theorem pt_cmpR {op : CmpOp} {r : R2} (ho : OpR X (compareOp op) r) (ha : PE X a ta) (hb : PE X b tb) (hm : behindInMarks op b = false) : PT X (.Compare a [op] [b] pos) (tTest (tOp r ta tb)) := by
  intro pins s σ H Q I h
  refine wpAny_isTrue_Compare1 (thn (ha pins s σ H _ I h) fun v s1 ⟨x, H1, I1, r1, q1⟩ => thn (hb pins s1 σ H1 _ I1 q1) fun u s2 ⟨y, H2, I2, r2, q2⟩ =>
    thn (ho pins s2 σ H2 x y v u _ I2 r1 r2 q2) fun c s3 ⟨z, H3, I3, r3, k, e, q3⟩ => ?_) hm
  subst e
  cases r3
  exact wpAny_truthy_bool ⟨H3, I3, q3⟩
/-- a op1 b op2 c -/
def tChain (r r' : R2) (ta tb tc : TE) : TE := fun σ H Q => ta σ H fun x H1 => tb σ H1 fun y H2 => r x y H2 fun z H3 => ∃ k, z = .bl k ∧
  (if k = true then tc σ H3 fun w' H4 => r' y w' H4 Q else Q (.bl false) H3)
theorem pe_chain {op op' : CmpOp} {r r' : R2} (ho : OpR X (compareOp op) r) (ho' : OpR X (compareOp op') r') (ha : PE X a ta) (hb : PE X b tb) (hc : PE X c tc)
    (hm : lastMarks [op, op'] [b, c] = false := by with_unfolding_all rfl) : PE X (.Compare a [op, op'] [b, c] pos) (tChain r r' ta tb tc) := by
  intro pins s σ H Q I h
  refine Compare_chain (thn (ha pins s σ H _ I h) fun v s1 ⟨x, H1, I1, r1, q1⟩ => chain_link (thn (hb pins s1 σ H1 _ I1 q1) fun u s2 ⟨y, H2, I2, r2, q2⟩ =>
    thn (ho pins s2 σ H2 x y v u _ I2 r1 r2 q2) fun d s3 ⟨z, H3, I3, r3, k, e, q3⟩ => ?_)) hm
  subst e
  cases r3
  refine wpAny_truthy_bool ?_
  cases k with
  | false => exact ite_ff ⟨.bl false, H3, I3, rfl, q3⟩
  | true => exact ite_tt (chain_last (thn (hc pins s3 σ H3 _ I3 q3) fun w' s4 ⟨z', H4, I4, r4, q4⟩ => ho' pins s4 σ H4 y z' u w' Q I4 r2 r4 q4))
theorem pt_chain {op op' : CmpOp} {r r' : R2} (ho : OpR X (compareOp op) r) (ho' : OpR X (compareOp op') r') (ha : PE X a ta) (hb : PE X b tb) (hc : PE X c tc)
    (hm : lastMarks [op, op'] [b, c] = false := by with_unfolding_all rfl) : PT X (.Compare a [op, op'] [b, c] pos) (tTest (tChain r r' ta tb tc)) := by
  intro pins s σ H Q I h
  refine isTrue_chain (thn (ha pins s σ H _ I h) fun v s1 ⟨x, H1, I1, r1, q1⟩ => test_link (thn (hb pins s1 σ H1 _ I1 q1) fun u s2 ⟨y, H2, I2, r2, q2⟩ =>
    thn (ho pins s2 σ H2 x y v u _ I2 r1 r2 q2) fun d s3 ⟨z, H3, I3, r3, k, e, q3⟩ => ?_)) hm
  subst e
  cases r3
  refine wpAny_truthy_bool ?_
  cases k with
  | false =>
    obtain ⟨k', e', q'⟩ := q3
    cases e'
    exact ite_ff ⟨H3, I3, q'⟩
  | true =>
    refine ite_tt (test_last (thn (hc pins s3 σ H3 _ I3 q3) fun w' s4 ⟨z', H4, I4, r4, q4⟩ => thn (ho' pins s4 σ H4 y z' u w' _ I4 r2 r4 q4) fun d' s5 ⟨z2, H5, I5, r5, k2, e2, q5⟩ => ?_))
    subst e2
    cases r5
    exact wpAny_truthy_bool ⟨H5, I5, q5⟩

/-! ### truth -/
/-- a value's truth by the abstract heap -/
def TruV (K : PySem.W.Frag) (x : V) (H : Hp) (k : Bool) : Prop :=
  match x with
  | .non => k = false
  | .bl b => k = b
  | .int i => k = (i != 0)
  | .str y => y.length ≤ sizeLine ∧ k = ((y.length : Int) != 0)
  | .byt y => y.size ≤ sizeLine ∧ k = ((y.size : Int) != 0)
  | .ref p => (∃ xs, SqL K H p xs ∧ k = !xs.isEmpty) ∨ (∃ xs, SqT K H p xs ∧ k = !xs.isEmpty) ∨ ∃ kvs, H p = some (.dK kvs) ∧ k = !kvs.isEmpty
  | _ => False
theorem isEmpty_kv {κ : Type} {kvs : List (κ × V)} {vs : List (κ × Value)} (r : KV kvs vs) : (!vs.isEmpty) = !kvs.isEmpty := by
  cases r <;> rfl
theorem isEmpty_of {xs : List V} {its : List Value} (r : Vals xs its) : (!its.toArray.isEmpty) = !xs.isEmpty := by
  cases r <;> simp
theorem line63 : (sizeLine : Nat) < 2 ^ 63 := by rw [sizeLine_eq]; decide
theorem tru_ok : TruR X (fun x H Q => ∃ k, TruV X.K x H k ∧ Q k H) := by
  intro pins s σ H x v Q I rx h
  obtain ⟨k, e, q⟩ := h
  have hl := line63
  have hs : sizeLine = 16777216 := sizeLine_eq
  cases x with
  | non =>
    cases rx
    have e' : k = false := e
    subst e'
    exact truthy_none ⟨H, I, q⟩
  | bl b =>
    cases rx
    have e' : k = b := e
    subst e'
    exact wpAny_truthy_bool ⟨H, I, q⟩
  | int i =>
    obtain ⟨t, rfl⟩ := rx
    have e' : k = (i != 0) := e
    subst e'
    exact PySem.P.truthy_int ⟨H, I, q⟩
  | str y =>
    obtain ⟨t, rfl⟩ := rx
    obtain ⟨hy, e'⟩ : y.length ≤ sizeLine ∧ k = ((y.length : Int) != 0) := e
    subst e'
    exact PySem.P.truthy_str (by omega) ⟨H, I.tok _, q⟩
  | byt y =>
    obtain ⟨t, rfl⟩ := rx
    obtain ⟨hy, e'⟩ : y.size ≤ sizeLine ∧ k = ((y.size : Int) != 0) := e
    subst e'
    exact PySem.W.truthy_bytes (by omega) ⟨H, I.tok _, q⟩
  | ref p =>
    cases rx
    have e' : (∃ xs, SqL X.K H p xs ∧ k = !xs.isEmpty) ∨ (∃ xs, SqT X.K H p xs ∧ k = !xs.isEmpty) ∨ ∃ kvs, H p = some (.dK kvs) ∧ k = !kvs.isEmpty := e
    rcases e' with ⟨xs, hx, e'⟩ | ⟨xs, hx, e'⟩ | ⟨kvs, hx, e'⟩
    · subst e'
      obtain ⟨its, r, pl, hz⟩ := I.list hx
      have hlen := r.length
      exact wpAny_truthy_list pl.isList (by simp only [List.size_toArray]; omega) ⟨H, I.tok _, by rw [isEmpty_of r]; exact q⟩
    · subst e'
      obtain ⟨its, r, pl, hz⟩ := I.tuple hx
      have hlen := r.length
      exact truthy_tuple pl (by simp only [List.size_toArray]; omega) ⟨H, I.tok _, by rw [isEmpty_of r]; exact q⟩
    · subst e'
      obtain ⟨hz, hS, vs, r, m⟩ : kvs.length ≤ sizeLine ∧ (p == sysModules) = false ∧ ∃ vs, KV kvs vs ∧ s.heap.DictOf (mixKind X.prog X.w) p vs := I.hok p _ hx
      have hlen : kvs.length = vs.length := Paired.length r
      exact wpAny_truthy_dict hS m (by omega) ⟨H, I.tok _, by rw [isEmpty_kv r]; exact q⟩
  | _ => exact (show False from e).elim
/-- any expression whose test is its value's truth (a name, a call, a subscript, a field ..: he by fun _ => rfl) -/
theorem pt_truth (ha : PE X a ta) (he : ∀ whole, isTrue a X.env whole = (do let v ← whole; standAt a.pos; holding [v] (truthy v))) :
    PT X a (fun σ H Q => ta σ H fun x H' => ∃ k, TruV X.K x H' k ∧ Q k H') := by
  intro pins s σ H Q I h
  exact isTrue_plain (thn (ha pins s σ H _ I h) fun v s1 ⟨x, H1, I1, r1, q1⟩ => tru_ok pins s1 σ H1 x v Q I1 r1 q1) (he _)

/-! ### strs and bytes -/
theorem op_add_str : OpR X (binaryOp .Add) (fun x y H Q => ∃ i j, x = .str i ∧ y = .str j ∧ i.length + j.length ≤ sizeLine ∧ Q (.str (i ++ j)) H) := by
  intro pins s σ H x y v u Q I rx ry h
  obtain ⟨i, j, rfl, rfl, hz, q⟩ := h
  obtain ⟨t, rfl⟩ := rx
  obtain ⟨t', rfl⟩ := ry
  exact add_str (fun t' tk => ⟨.str (i ++ j), H, I.tok _, ⟨_, rfl⟩, q⟩) hz
def PlainIxT (b : Expr) : Prop := ∀ o i, subscripted b false o i = operate [o, i] (getItem o i)
/-! ### scalar builtins, by CallR -/
theorem vals1 {x : V} {us : List Value} (r : Vals [x] us) : ∃ u, us = [u] ∧ RelV x u := by
  cases r with
  | cons r1 r2 => cases r2; exact ⟨_, rfl, r1⟩
theorem vals2 {x y : V} {us : List Value} (r : Vals [x, y] us) : ∃ u w', us = [u, w'] ∧ RelV x u ∧ RelV y w' := by
  cases r with
  | cons r1 r2 =>
    cases r2 with
    | cons r3 r4 => cases r4; exact ⟨_, _, rfl, r1, r3⟩
theorem call_abs : CallR X (.builtin "abs") (fun xs H Q => ∃ i, xs = [.int i] ∧ Q (.int (if i < 0 then -i else i)) H) := by
  intro pins s σ H xs us Q I r h
  obtain ⟨i, rfl, q⟩ := h
  obtain ⟨u, rfl, t, rfl⟩ := vals1 r
  exact call_abs_int fun u tk => ⟨.int (if i < 0 then -i else i), H, I.tok _, ⟨_, rfl⟩, q⟩
theorem call_max2 (hc : X.calm = true) : CallR X (.builtin "max") (fun xs H Q => ∃ i j, xs = [.int i, .int j] ∧ Q (.int (if j > i then j else i)) H) := by
  intro pins s σ H xs us Q I r h
  obtain ⟨i, j, rfl, q⟩ := h
  obtain ⟨u, w', rfl, ⟨t, rfl⟩, ⟨t', rfl⟩⟩ := vals2 r
  refine max_two_ints (I.ok.hd hc) fun h' tk k => ⟨_, H, I.kept k, ?_, q⟩
  by_cases hj : j > i
  · rw [if_pos hj, if_pos hj]; exact ⟨_, rfl⟩
  · rw [if_neg hj, if_neg hj]; exact ⟨_, rfl⟩
theorem call_min2 (hc : X.calm = true) : CallR X (.builtin "min") (fun xs H Q => ∃ i j, xs = [.int i, .int j] ∧ Q (.int (if j < i then j else i)) H) := by
  intro pins s σ H xs us Q I r h
  obtain ⟨i, j, rfl, q⟩ := h
  obtain ⟨u, w', rfl, ⟨t, rfl⟩, ⟨t', rfl⟩⟩ := vals2 r
  refine min_two_ints (I.ok.hd hc) fun h' tk k => ⟨_, H, I.kept k, ?_, q⟩
  by_cases hj : j < i
  · rw [if_pos hj, if_pos hj]; exact ⟨_, rfl⟩
  · rw [if_neg hj, if_neg hj]; exact ⟨_, rfl⟩
theorem call_int1 : CallR X (.type "int") (fun xs H Q => (∃ i, xs = [.int i] ∧ Q (.int i) H) ∨ ∃ k, xs = [.bl k] ∧ Q (.int (if k then 1 else 0)) H) := by
  intro pins s σ H xs us Q I r h
  rcases h with ⟨i, rfl, q⟩ | ⟨k, rfl, q⟩
  · obtain ⟨u, rfl, t, rfl⟩ := vals1 r
    exact call_int_int ⟨.int i, H, I, ⟨_, rfl⟩, q⟩
  · obtain ⟨u, rfl, r1⟩ := vals1 r
    cases r1
    exact call_int_bool ⟨.int (if k then 1 else 0), H, I.tok _, ⟨_, rfl⟩, q⟩
theorem call_str_int : CallR X (.type "str") (fun xs H Q => ∃ i, xs = [.int i] ∧ i.natAbs.log2 < 1920 ∧ Q (.str (toString i)) H) := by
  intro pins s σ H xs us Q I r h
  obtain ⟨i, rfl, hz, q⟩ := h
  obtain ⟨u, rfl, t, rfl⟩ := vals1 r
  exact PySem.P.str_of_int hz ⟨.str _, H, I.tok _, ⟨_, rfl⟩, q⟩
/-- len of a str, a bytes, a list, a tuple -/
def LenV (K : PySem.W.Frag) (x : V) (H : Hp) (n : Nat) : Prop :=
  match x with
  | .str y => y.length ≤ sizeLine ∧ n = y.length
  | .byt y => y.size ≤ sizeLine ∧ n = y.size
  | .ref p => (∃ xs, SqL K H p xs ∧ n = xs.length) ∨ ∃ xs, SqT K H p xs ∧ n = xs.length
  | _ => False
end
end L2

namespace L2
open PySem PySem.Spec PyProof.Rows

/-! ### an instance, its attributes a map -/
structure ObjM (h : Heap) (x dx C : Addr) (mA : Str → Option Value) : Prop where
  obj : h.get? x = some (PySem.W.instObj C dx)
  ns : h.Ns1 dx mA
  ne : dx ≠ x

theorem lookIn_ns {h : Heap} {dx : Addr} {mA : Str → Option Value} (n : h.Ns1 dx mA) : ∃ od, h.get? dx = some od ∧ ∀ name, PySem.W.lookIn name od = some (mA name) := by
  obtain ⟨o, es, ep, ho, hd, hk, _, hm⟩ := n
  refine ⟨o, ho, fun name => ?_⟩
  have e := hm name
  unfold nsFind findBy at e
  rw [← Array.find?_toList] at e
  unfold PySem.W.lookIn
  rw [hd]
  dsimp only
  split
  · rename_i y q
    rw [q] at e
    exact congrArg some e
  · rename_i q
    rw [q] at e
    have a : es.toList.any (·.refKey) = false := by
      rw [List.any_eq_false]
      intro y hy
      obtain ⟨z, t, hkey⟩ := hk y (Array.mem_toList_iff.mp hy)
      simp [DictEntry.refKey, hkey]
    have a' : ¬ es.toList.any (·.refKey) = true := by rw [a]; exact Bool.false_ne_true
    rw [if_neg a']
    exact congrArg some e

theorem ObjM.look {h : Heap} {x dx C : Addr} {mA : Str → Option Value} (I : ObjM h x dx C mA) : ∃ od, PySem.W.InstAt h x (PySem.W.instObj C dx) C (some od) ∧ ∀ name, PySem.W.lookIn name od = some (mA name) :=
  let ⟨od, ho, hl⟩ := lookIn_ns I.ns
  ⟨od, ⟨I.obj, rfl, rfl, ho⟩, hl⟩

section
variable {prog : Program} {w : World} {A : Around} {E : Value → Shared → Prop} {s : Shared} {K : PySem.W.Frag} {x dx C f : Addr} {mA : Str → Option Value} {name : Str} {v : Value}

end

/-! ### the attributes as a list of pairs -/
def putF (f : Str) (v : V) : List (Str × V) → List (Str × V)
  | [] => [(f, v)]
  | (g, x) :: r => if g = f then (g, v) :: r else (g, x) :: putF f v r
theorem lookup_putF (f g : Str) (v : V) : ∀ fs : List (Str × V), (putF f v fs).lookup g = if g = f then some v else fs.lookup g
  | [] => by
    show List.lookup g [(f, v)] = _
    by_cases h : g = f
    · have hb : (g == f) = true := beq_iff_eq.mpr h
      simp only [List.lookup, hb, if_pos h]
    · have hb : (g == f) = false := beq_eq_false_iff_ne.mpr h
      simp only [List.lookup, hb, if_neg h]
  | (k, x) :: r => by
    have ih := lookup_putF f g v r
    rw [show putF f v ((k, x) :: r) = (if k = f then (k, v) :: r else (k, x) :: putF f v r) from rfl]
    by_cases hk : k = f
    · rw [if_pos hk]
      by_cases h : g = k
      · have hb : (g == k) = true := beq_iff_eq.mpr h
        simp only [List.lookup, hb, if_pos (h.trans hk)]
      · have hb : (g == k) = false := beq_eq_false_iff_ne.mpr h
        simp only [List.lookup, hb, if_neg (fun e : g = f => h (e.trans hk.symm))]
    · rw [if_neg hk]
      by_cases h : g = k
      · have hb : (g == k) = true := beq_iff_eq.mpr h
        simp only [List.lookup, hb, if_neg (fun e : g = f => hk (h.symm.trans e))]
      · have hb : (g == k) = false := beq_eq_false_iff_ne.mpr h
        simp only [List.lookup, hb]
        exact ih
theorem RelO.some_of {v : V} {o : Option Value} (r : RelO (some v) o) : ∃ u, o = some u ∧ RelV v u := by
  cases o with
  | none => exact (show False from r).elim
  | some u => exact ⟨u, rfl, r⟩
theorem RelO.none_of {o : Option Value} (r : RelO none o) : o = none := by
  cases o with
  | none => rfl
  | some u => exact (show False from r).elim
theorem handed_of {v : V} {u : Value} (r : RelV v u) : PySem.W.handedIn u = true := by
  cases v with
  | non => cases (show u = Value.none from r); rfl
  | bl b => cases (show u = Value.bool b from r); rfl
  | int i => obtain ⟨t, e⟩ := (show ∃ t, u = Value.int i t from r); cases e; rfl
  | str x => obtain ⟨t, e⟩ := (show ∃ t, u = Value.str x t from r); cases e; rfl
  | byt b => obtain ⟨t, e⟩ := (show ∃ t, u = Value.bytes b t from r); cases e; rfl
  | flt b => obtain ⟨t, e⟩ := (show ∃ t, u = Value.float b t from r); cases e; rfl
  | ref a => cases (show u = Value.ref a from r); rfl
  | ty n => cases (show u = Value.type n from r); rfl

section
variable {P : Program} {w : World} {H H' : Hp} {h h' : Heap} {a C dx : Addr} {fs fs' : List (Str × V)}
theorem ins_get (hok : HOk P w H h) (e : H a = some (.ins C dx fs)) : ∃ mA, ObjM h a dx C mA ∧ (∀ f, RelO (fs.lookup f) (mA f)) ∧ PySem.Within mA (fs.map (·.1)) ∧ fs.length ≤ 1000 ∧ H dx = some (.own a) := by
  obtain ⟨d, z, ne, ob, mA, n, r, q⟩ := (show ObjOk P w H h a (.ins C dx fs) from hok a _ e)
  exact ⟨mA, ⟨ob, n, ne⟩, r, q, z, d⟩
end

/-! ### what of the text a class must have -/
structure Cls (K : PySem.W.Frag) (C : Addr) : Prop where
  pg : PySem.W.plainGet K C Str.empty = true
  hd : PySem.W.hasDictIn K C = true
  po : PySem.W.plainOver K C = true
  sa : PySem.W.findIn K (.ref C) "__setattr__" = some (some (.builtin "object.__setattr__"))
theorem Cls.get {K : PySem.W.Frag} {C : Addr} (c : Cls K C) (f : Str) : PySem.W.plainGet K C f = true := c.pg
/-- no class of it has the name -/
def NoAttr (K : PySem.W.Frag) (C : Addr) (f : Str) : Prop := PySem.W.findIn K (.ref C) f = some none
/-- a constant of the class -/
structure Con (K : PySem.W.Frag) (C : Addr) (f : Str) (v : V) (u : Value) : Prop where
  at_ : PySem.W.findIn K (.ref C) f = some (some u)
  rel : RelV v u
  get : PySem.W.specialIn K u "__get__" = some none
  cp : PySem.W.copiedNames.contains f = false
/-- a method: a plain def of the class or of one above it -/
structure Meth (K : PySem.W.Frag) (C : Addr) (m : Str) (f : Addr) : Prop where
  at_ : PySem.W.findIn K (.ref C) m = some (some (.ref f))
  fn : PySem.W.isFn K (.ref f) = true
  kp : PySem.W.keepIn K (.ref f) = true

section
variable {X : Cx} {pins : List (Addr × Obj)} {σ : St} {H : Hp} {s : Shared} {a C dx : Addr} {fs : List (Str × V)} {f : Str} {v : V} {A : Around} {E : Value → Shared → Prop}

/-- e.f where nothing but the object is asked: through attributeBase (super) and the last hold -/
theorem attr_of {prog : Program} {w : World} {env : Env} {e : Expr} {f : Str} {pos : Pos} {s : Shared} {Q : Value → Shared → Prop} (hb : attributeBase e f env (eval e env) = eval e env)
    (h : wpAny (model prog w) A (eval e env) (fun o s₁ => wpAny (model prog w) A (getAttr o f true) Q E s₁) E s) : wpAny (model prog w) A (eval (.Attribute e f pos) env) Q E s :=
  Attribute_any_ h (by rw [arm_eval_Attribute, hb])
end

/-! ### readings and rules -/
/-- e.f, an attribute of the instance -/
def tFld (K : PySem.W.Frag) (ta : TE) (f : Str) : TE := fun σ H Q => ta σ H fun x H1 => ∃ a C dx fs v, x = .ref a ∧ H1 a = some (.ins C dx fs) ∧ Cls K C ∧ NoAttr K C f ∧ fs.lookup f = some v ∧ Q v H1
/-- e.f, a constant of the class -/
def tCon (K : PySem.W.Frag) (ta : TE) (f : Str) : TE := fun σ H Q => ta σ H fun x H1 => ∃ a C dx fs v u, x = .ref a ∧ H1 a = some (.ins C dx fs) ∧ Cls K C ∧ Con K C f v u ∧ fs.lookup f = none ∧ Q v H1
/-- e.f = value -/
def sFld (K : PySem.W.Frag) (ta tv : TE) (f : Str) : TS := fun D σ H => tv σ H fun y H1 => ta σ H1 fun x H2 => ∃ a C dx fs, x = .ref a ∧ H2 a = some (.ins C dx fs) ∧ Cls K C ∧ NoAttr K C f ∧ fs.length < 1000 ∧
  D.nx σ (upd H2 a (.ins C dx (putF f y fs)))
/-- an augmented operator on two values -/
def InOp (X : Cx) (op : Operator) (rd : V → V → Hp → VK → Prop) : Prop :=
  ∀ (pins : List (Addr × Obj)) (s : Shared) (σ : St) (H : Hp) (x y : V) (u v : Value) (Q : VK), Inv X pins σ H s → RelV x u → RelV y v → rd x y H Q → wpAny (model X.prog X.w) X.A (inplaceOp op u v) (EP X pins σ Q) X.xe s
/-- e.f op= value -/
def sFldAug (K : PySem.W.Frag) (ta tv : TE) (rd : V → V → Hp → VK → Prop) (f : Str) : TS := fun D σ H => ta σ H fun x H1 => ∃ a C dx fs v, x = .ref a ∧ H1 a = some (.ins C dx fs) ∧ Cls K C ∧ NoAttr K C f ∧ fs.lookup f = some v ∧
  tv σ H1 fun y H2 => rd v y H2 fun z H3 => ∃ dx' fs', H3 a = some (.ins C dx' fs') ∧ fs'.length < 1000 ∧ D.nx σ (upd H3 a (.ins C dx' (putF f z fs')))

section
variable {X : Cx} {o e value : Expr} {f : Str} {pos pos' tpos : Pos} {ta tv : TE}
def rAdd : V → V → Hp → VK → Prop := fun x y H Q => ∃ i j, x = .int i ∧ y = .int j ∧ Q (.int (i + j)) H
def rSub : V → V → Hp → VK → Prop := fun x y H Q => ∃ i j, x = .int i ∧ y = .int j ∧ Q (.int (i - j)) H
end

/-! ### isinstance -/
section
variable {X : Cx} {pins : List (Addr × Obj)} {σ : St} {H : Hp} {s : Shared} {A : Around} {E : Value → Shared → Prop} {Q : Value → Shared → Prop} {c : Value} {b : Bool}
/-- the type of a value, as the fragment's deciders take it; for an instance its class -/
inductive TyOf (K : PySem.W.Frag) (H : Hp) : V → Value → Prop where
  | non : TyOf K H .non (.type "NoneType")
  | bl (x : Bool) : TyOf K H (.bl x) (.type "bool")
  | int (i : Int) : TyOf K H (.int i) (.type "int")
  | str (x : Str) : TyOf K H (.str x) (.type "str")
  | flt (x : UInt64) : TyOf K H (.flt x) (.type "float")
  | lst {a : Addr} {xs : List V} (e : H a = some (.lst xs)) : TyOf K H (.ref a) (.type "list")
  | frz {a : Addr} {o : Obj} {xs : List V} (e : H a = some (.frz o (.lst xs))) : TyOf K H (.ref a) (.type "list")
  | tup {a : Addr} {xs : List V} (e : H a = some (.tup xs)) : TyOf K H (.ref a) (.type "tuple")
  | dK {a : Addr} {kvs : List (Key × V)} (e : H a = some (.dK kvs)) : TyOf K H (.ref a) (.type "dict")
  | dT {a : Addr} {kvs : List (List Key × V)} (e : H a = some (.dT kvs)) : TyOf K H (.ref a) (.type "dict")
  | ins {a C dx : Addr} {fs : List (Str × V)} (e : H a = some (.ins C dx fs)) (cl : Cls K C) (ha : PySem.W.findIn K (.ref C) "__class__" = some (some (.builtin "object.__class__")))
      (hn : PySem.W.specialIn K (.builtin "object.__class__") "__get__" = some (some (.builtin "getset_descriptor.__get__"))) (htk : PySem.W.takesIn K (.builtin "object.__class__") = some true)
      (hm : PySem.W.mroIn K C (.type "object") = some true) : TyOf K H (.ref a) (.ref C)
/-- isinstance(x, c) for one class c, a built-in or an own one: kitOne's answer -/
theorem isinst_ok {x : V} {u t : Value} (I : Inv X pins σ H s) (rx : RelV x u) (ty : TyOf X.K H x t) (e : PySem.W.kitOne X.K t c = some b) (h : ∀ tk, Q (.bool b) { s with toks := tk }) :
    wpAny (model X.prog X.w) A (call (.builtin "isinstance") [u, c]) Q E s := by
  cases ty with
  | non => cases (show u = Value.none from rx); exact PySem.W.kia_one PySem.W.kitx_none I.kIn True.intro e (fun z => nomatch z) h
  | bl y => cases (show u = Value.bool y from rx); exact PySem.W.kia_one PySem.W.kitx_bool I.kIn True.intro e (fun z => nomatch z) h
  | int i => obtain ⟨t, q⟩ := (show ∃ t, u = Value.int i t from rx); cases q; exact PySem.W.kia_one PySem.W.kitx_int I.kIn True.intro e (fun z => nomatch z) h
  | str y => obtain ⟨t, q⟩ := (show ∃ t, u = Value.str y t from rx); cases q; exact PySem.W.kia_one PySem.W.kitx_str I.kIn True.intro e (fun z => nomatch z) h
  | flt y => obtain ⟨t, q⟩ := (show ∃ t, u = Value.float y t from rx); cases q; exact PySem.W.kia_one PySem.W.kitx_float I.kIn True.intro e (fun z => nomatch z) h
  | @lst a xs ea =>
    cases (show u = Value.ref a from rx)
    obtain ⟨_, _, n, _, h1⟩ := (show ObjOk X.prog X.w H s.heap a (.lst xs) from I.hok a _ ea)
    exact PySem.W.kia_one PySem.W.kitx_list I.kIn ⟨_, h1, rfl⟩ e (fun z => nomatch z) h
  | @frz a ob xs ea =>
    cases (show u = Value.ref a from rx)
    obtain ⟨_, _, _, n, _, h1⟩ := (show ObjOk X.prog X.w H s.heap a (.frz ob (.lst xs)) from I.hok a _ ea)
    exact PySem.W.kia_one PySem.W.kitx_list I.kIn ⟨_, h1, rfl⟩ e (fun z => nomatch z) h
  | @tup a xs ea =>
    cases (show u = Value.ref a from rx)
    obtain ⟨_, _, _, p⟩ := (show ObjOk X.prog X.w H s.heap a (.tup xs) from I.hok a _ ea)
    obtain ⟨o, h1, h2, _⟩ := p
    exact PySem.W.kia_one PySem.W.kitx_tuple I.kIn ⟨o, h1, h2⟩ e (fun z => nomatch z) h
  | @dK a kvs ea =>
    cases (show u = Value.ref a from rx)
    obtain ⟨_, _, vs, _, p⟩ := (show ObjOk X.prog X.w H s.heap a (.dK kvs) from I.hok a _ ea)
    obtain ⟨o, es, ep, h1, h2, _⟩ := p
    exact PySem.W.kia_one PySem.W.kitx_dict I.kIn ⟨o, h1, h2.1⟩ e (fun z => nomatch z) h
  | @dT a kvs ea =>
    cases (show u = Value.ref a from rx)
    obtain ⟨_, _, xs, _, o, es, ep, h1, h2, _⟩ := (show ObjOk X.prog X.w H s.heap a (.dT kvs) from I.hok a _ ea)
    exact PySem.W.kia_one PySem.W.kitx_dict I.kIn ⟨o, h1, h2.1⟩ e (fun z => nomatch z) h
  | @ins a C dx fs ea cl ha hn htk hm =>
    cases (show u = Value.ref a from rx)
    obtain ⟨mA, O, _⟩ := ins_get I.hok ea
    obtain ⟨od, J, _⟩ := O.look
    exact PySem.W.kia_one (PySem.W.kitx_own (cl.get _) cl.hd ha hn htk hm) I.kIn J e (fun z => nomatch z) h
end
end L2

namespace L2
open PySem PySem.Spec PyProof.Rows

/-! ### room -/
structure Room (k : Nat) (A : Around) : Prop where
  hd : A.handled = none
  dp : A.depth + 3 * k + 5 < recursionLimit
  un : A.units + 16 * k + 200 < cLine
theorem Room.mono {j k : Nat} {A : Around} (r : Room k A) (h : j ≤ k) : Room j A := ⟨r.hd, by have := r.dp; omega, by have := r.un; omega⟩
theorem Room.deeper {k : Nat} {A : Around} (r : Room (k + 1) A) (env : Env) : Room k (A.deeper env) :=
  ⟨r.hd, by have := r.dp; show A.depth + 1 + 3 * k + 5 < _; omega, by have := r.un; show A.units + 3 + 16 * k + 200 < _; omega⟩
theorem make_depth {A : Around} {C : Addr} {us : List Value} {kw : List (Str × Value)} : (A.under (.builtin "type.__call__" ⟨.ref C :: us, kw⟩)).depth = A.depth + 1 := by
  first | rfl | simp [Around.under, Code.weight, Code.isCreation, Code.isGuard, Code.isCaller, Code.frames, Code.isFrame, guardIds]
theorem make_units {A : Around} {C : Addr} {us : List Value} {kw : List (Str × Value)} : (A.under (.builtin "type.__call__" ⟨.ref C :: us, kw⟩)).units = A.units + 1 := by
  first | rfl | simp [Around.under, Code.cUnits, Code.frames, Code.isFrame]
theorem Room.make {k : Nat} {A : Around} (r : Room (k + 1) A) (C : Addr) (us : List Value) (kw : List (Str × Value)) : Room k (A.under (.builtin "type.__call__" ⟨.ref C :: us, kw⟩)) :=
  ⟨r.hd, by have := r.dp; rw [make_depth]; omega, by have := r.un; rw [make_units]; omega⟩
theorem Room.depth {k : Nat} {A : Around} (r : Room k A) : A.depth < recursionLimit := by have := r.dp; omega
theorem Room.units {k : Nat} {A : Around} (r : Room k A) : A.units + 64 < cLine := by have := r.un; omega
/-! ### argument lists and displays -/
def tNil : TA := fun _ H Q => Q [] H
def tCons (ta : TE) (tr : TA) : TA := fun σ H Q => ta σ H fun x H1 => tr σ H1 fun xs H2 => Q (x :: xs) H2
section
variable {X : Cx} {e : Expr} {es : List Expr} {te : TE} {t : TA} {pos : Pos}
theorem pa_nil : PA X [] tNil := fun _ _ _ _ H Q I h => Calls.spliced_nil ⟨[], H, I, .nil, h⟩
theorem pa_cons (ha : PE X e te) (hr : PA X es t) (hs : starEach (e :: es) X.env = (false, eval e X.env) :: starEach es X.env := by rfl) : PA X (e :: es) (tCons te t) := by
  intro pos pins s σ H Q I h
  rw [hs]
  show wpAny _ _ (spliced ((false, eval e X.env) :: backTo pos (starEach es X.env))) _ _ s
  refine Calls.spliced_cons (thn (ha pins s σ H _ I h) fun u s1 ⟨x, H1, I1, r1, q1⟩ => ?_)
  exact thn (hr pos pins s1 σ H1 _ I1 q1) fun us s2 ⟨xs, H2, I2, r2, q2⟩ => ⟨x :: xs, H2, I2, .cons r1 r2, q2⟩

/-- a tuple, a list of written items -/
def tTup (t : TA) : TE := fun σ H Q => t σ H fun xs H1 => xs.length ≤ sizeLine ∧ ∀ p, H1 p = none → Q (.ref p) (upd H1 p (.tup xs))
def tLst (t : TA) : TE := fun σ H Q => t σ H fun xs H1 => xs.length ≤ sizeLine ∧ ∀ p, H1 p = none → Q (.ref p) (upd H1 p (.lst xs))
theorem pe_tup {x1} (h : PA X es t) : PE X (.Tuple es x1 pos) (tTup t) := by
  intro pins s σ H Q I hq
  refine wpAny_Tuple_spliced (thn (h pos pins s σ H _ I hq) fun us s1 ⟨xs, H1, I1, r, z, q⟩ => ⟨by rw [← r.length]; exact z, ?_⟩)
  have hf : H1 s1.heap.objs.size = none := I1.hok.fresh (Nat.le_refl _)
  refine ⟨.ref s1.heap.objs.size, upd H1 s1.heap.objs.size (.tup xs), I1.laid (t' := s1.toks) (fun b u e => Heap.get?_push_of_some _ e) (Nat.le_refl _) ?_, rfl, q _ hf⟩
  exact ⟨z, us, r, ⟨_, Heap.get?_push_size _ rfl, rfl, _, rfl⟩⟩
theorem pe_lst (h : PA X es t) : PE X (.List es pos) (tLst t) := by
  intro pins s σ H Q I hq
  refine wpAny_List_spliced (thn (h pos pins s σ H _ I hq) fun us s1 ⟨xs, H1, I1, r, z, q⟩ => ⟨by rw [← r.length]; exact z, ?_⟩)
  have hf : H1 s1.heap.objs.size = none := I1.hok.fresh (Nat.le_refl _)
  refine ⟨.ref s1.heap.objs.size, upd H1 s1.heap.objs.size (.lst xs), I1.laid (t' := s1.toks) (fun b u e => Heap.get?_push_of_some _ e) (Nat.le_refl _) ?_, rfl, q _ hf⟩
  exact ⟨z, us, 0, r, Heap.get?_push_size _ rfl⟩
end

/-! ### what a def promises -/
/-- a def's promise: the bound arguments in the parameters' order, the heap, the wanted end, the wanted exception -/
abbrev Sp := List V → Hp → VK → XK → Prop
/-- how an exception lies behind a call (file 08 gives it): the callers' frames, abstract heap and state ahead of the call, the wish, the exception, the state -/
abbrev CXT := List Env → Hp → Shared → XK → Value → Shared → Prop

/-- the state at a call -/
structure Env0 (P : Program) (w : World) (K : PySem.W.Frag) (mg : Str → Option Value) (base : Heap) (A : Around) (outer : List Env) (s : Shared) (H : Hp) : Prop where
  frames : A.frames = some outer
  mod : Mod K mg base
  bs : ∀ b o, base.get? b = some o → s.heap.get? b = some o ∧ H b = none
  bsz : base.objs.size ≤ s.heap.objs.size
  funs : s.heap.FunFrames base outer
  frf : ∀ b ∈ frs outer, H b = none
  hok : HOk P w H s.heap
  bare : AllBare s.gens
/-- a call's end -/
def CE (outer : List Env) (P : Program) (w : World) (H : Hp) (s : Shared) (Q : VK) (u : Value) (s' : Shared) : Prop :=
  ∃ v H', s'.os = s.os ∧ AllBare s'.gens ∧ Un (frs outer) [] H H' s.heap s'.heap ∧ HOk P w H' s'.heap ∧ RelV v u ∧ Q v H'
def CR (CX : CXT) (outer : List Env) (P : Program) (w : World) (H : Hp) (s : Shared) (Q : VK) (E : XK) (r : Result) (s' : Shared) : Prop :=
  match r with
  | .ok (.ret u) => CE outer P w H s Q u s'
  | .ok _ => False
  | .error e => CX outer H s E e s'
structure FnOk (P : Program) (w : World) (K : PySem.W.Frag) (mg : Str → Option Value) (base : Heap) (CX : CXT) (k : Nat) (f : Addr) (fd : FuncData) (ps : List Str) (sp : Sp) : Prop where
  len : ∀ vs H Q E, sp vs H Q E → vs.length = ps.length
  run : ∀ (A : Around) (outer : List Env) (s : Shared) (H : Hp) (args : Args) (us : List Value) (vs : List V) (Q : VK) (E : XK), Room k A → Env0 P w K mg base A outer s H → BindsTo s fd args (ps.zip us) → Vals vs us → sp vs H Q E →
    codeAny (model P w) A (.call (.ref f) args) (CR CX outer P w H s Q E) s
theorem Env0.make {P : Program} {w : World} {K : PySem.W.Frag} {mg : Str → Option Value} {base : Heap} {A : Around} {outer : List Env} {s : Shared} {H : Hp} (e : Env0 P w K mg base A outer s H) (C : Addr) (us : List Value) (kw : List (Str × Value)) :
    Env0 P w K mg base (A.under (.builtin "type.__call__" ⟨.ref C :: us, kw⟩)) outer s H := ⟨by first | exact e.frames | (simpa [Around.under, Code.envs, Code.isFrame, pushEnvs] using e.frames), e.mod, e.bs, e.bsz, e.funs, e.frf, e.hok, e.bare⟩
section
variable {X : Cx} {pins : List (Addr × Obj)} {σ : St} {H : Hp} {s s' : Shared}
/-- from a body: what a callee wants -/
theorem Inv.env0 (I : Inv X pins σ H s) : Env0 X.prog X.w X.K X.mg X.base X.A X.stack s H :=
  ⟨I.ok.frames, I.ok.mod, I.bs, Nat.le_trans I.ok.bsz I.sz, I.stack, I.stkFree, I.hok, I.bare⟩
/-- behind a call -/
theorem Inv.after {Q : VK} {u : Value} (I : Inv X pins σ H s) (h : CE X.stack X.prog X.w H s Q u s') : EP X pins σ Q u s' := by
  obtain ⟨v, H', os, bare, un, hok, r, q⟩ := h
  obtain ⟨hh, g, d, t, os'⟩ := s'
  obtain rfl : os' = s.os := os
  exact ⟨v, H', I.call (h' := hh) (g' := g) (d' := d) (t' := t) (ch := []) un hok bare (fun b z => absurd z (by simp)), r, q⟩
end

/-! ### calls -/
/-- f(..): the written arguments, then the defaults dvs; E: what is wanted of an exception -/
def tCall (sp : Sp) (dvs : List V) (E : XK) (t : TA) : TE := fun σ H Q => t σ H fun vs H1 => sp (vs ++ dvs) H1 Q E
/-- o.m(..) of an instance of the class at C -/
def tMeth (C : Addr) (m : Str) (sp : Sp) (dvs : List V) (E : XK) (ta : TE) (t : TA) : TE := fun σ H Q => ta σ H fun x H1 => ∃ a dx fs, x = .ref a ∧ H1 a = some (.ins C dx fs) ∧ fs.lookup m = none ∧
  t σ H1 fun vs H2 => sp (x :: (vs ++ dvs)) H2 Q E
/-- C(..): a new instance and its dict, then __init__ -/
def tMake (C : Addr) (sp : Sp) (dvs : List V) (E : XK) (t : TA) : TE := fun σ H Q => t σ H fun vs H1 => ∀ x dx, H1 x = none → H1 dx = none → dx ≠ x →
  sp (.ref x :: (vs ++ dvs)) (upd (upd H1 dx (.own x)) x (.ins C dx [])) (fun v H2 => v = .non ∧ Q (.ref x) H2) E

/-- how the parameters are bound: us the positional arguments, kw the keywords' values by name, ds the defaults that fill up -/
def Binds (K : PySem.W.Frag) (fd : FuncData) (ps : List Str) (ds : List Value) : Prop :=
  ∀ (s : Shared) (us : List Value), K.In s.heap → (us ++ ds).length = ps.length → BindsTo s fd ⟨us, []⟩ (ps.zip (us ++ ds))
/-- every parameter is given -/
theorem Binds.all {K : PySem.W.Frag} {fd : FuncData} {ps : List Str} (h : ∀ us : List Value, us.length = ps.length → bindArgs fd ⟨us, []⟩ = pure (ps.zip us)) : Binds K fd ps [] := fun s us _ hl => by
  rw [List.append_nil] at hl ⊢
  exact .of_eq (h us hl)

/-- an exception of a callee reaches what this body wants of exceptions -/
def Passes (CX : CXT) (X : Cx) (E : XK) : Prop := ∀ (pins : List (Addr × Obj)) (σ : St) (H : Hp) (s : Shared) (e : Value) (s' : Shared), Inv X pins σ H s → CX X.stack H s E e s' → X.xe e s'

section
variable {X : Cx} {CX : CXT} {k : Nat} {f C : Addr} {fd : FuncData} {ps : List Str} {sp : Sp} {dvs : List V} {ds : List Value} {E : XK} {x m : Str} {p pos apos : Pos} {e o : Expr} {es : List Expr} {ta : TE} {t : TA}

/-- the callee runs -/
theorem run_fn {pins : List (Addr × Obj)} {σ : St} {H : Hp} {s : Shared} {Q : VK} {us : List Value} {vs : List V} (F : FnOk X.prog X.w X.K X.mg X.base CX k f fd ps sp) (hr : Room k X.A) (hb : Binds X.K fd ps ds) (hd : Vals dvs ds) (hx : Passes CX X E)
    (I : Inv X pins σ H s) (r : Vals vs us) (h : sp (vs ++ dvs) H Q E) : wpAny (model X.prog X.w) X.A (call (.ref f) us) (EP X pins σ Q) X.xe s := by
  have r2 : Vals (vs ++ dvs) (us ++ ds) := r.append hd
  have hl : (us ++ ds).length = ps.length := by rw [← r2.length]; exact F.len _ _ _ _ h
  refine wpAny_call (codeAny_mono (F.run X.A X.stack s H ⟨us, []⟩ (us ++ ds) (vs ++ dvs) Q E hr I.env0 (hb s us I.kIn hl) r2 h) fun r s' hq => ?_)
  cases r with
  | error e => exact hx pins σ H s e s' I hq
  | ok fl =>
    cases fl with
    | ret u => exact I.after hq
    | next => exact False.elim hq
    | brk => exact False.elim hq
    | cont => exact False.elim hq

theorem pe_call (F : FnOk X.prog X.w X.K X.mg X.base CX k f fd ps sp) (hr : Room k X.A) (hg : Gl X x) (hm : X.mg x = some (.ref f)) (hk : PySem.W.keepIn X.K (.ref f) = true) (hb : Binds X.K fd ps ds) (hd : Vals dvs ds) (hx : Passes CX X E)
    (ha : PA X (e :: es) t) (hdb : (x == ("__debug__" : Str)) = false := by decide) (he : starEach (e :: es) X.env = (false, eval e X.env) :: starEach es X.env := by rfl) (hpl : (backTo pos (starEach es X.env)).any (·.1) = false := by rfl) :
    PE X (.Call (.Name x p) (e :: es) [] pos) (tCall sp dvs E t) := by
  intro pins s σ H Q I h
  refine wpAny_Call_Name_kw (ld_glob I hg hm ?_ hdb)
  refine PySem.W.callWith_K (h₀ := X.base) I.ok.mod.kin hk (thn (ha pos pins s σ H _ I h) fun us s1 ⟨vs, H1, I1, r, q⟩ => ⟨I1.kIn, ?_⟩) he hpl
  exact run_fn F hr hb hd hx I1 r q
/-- what a class must have to be made -/
structure Mk (K : PySem.W.Frag) (C f : Addr) : Prop where
  makes : PySem.W.makesIn K C = true
  init : PySem.W.findIn K (.ref C) "__init__" = some (some (.ref f))
  fn : PySem.W.isFn K (.ref f) = true
  kp : PySem.W.keepIn K (.ref C) = true

end

/-! ### keywords -/
/-- the values of the keywords, from the left -/
def PK (X : Cx) (kws : List Keyword) (t : TA) : Prop :=
  ∀ (pos : Pos) (pins : List (Addr × Obj)) (s : Shared) (σ : St) (H : Hp) (Q : List V → Hp → Prop), Inv X pins σ H s → t σ H Q → wpAny (model X.prog X.w) X.A (evalAll ((backToKw pos (keywordEach kws X.env)).map (·.2))) (AP X pins σ Q) X.xe s
section
variable {X : Cx} {CX : CXT} {k : Nat} {f C : Addr} {fd : FuncData} {ps ks : List Str} {sp : Sp} {E : XK} {x m : Str} {p pos apos kpos : Pos} {e o : Expr} {es : List Expr} {kws : List Keyword} {te ta : TE} {t tk : TA} {nm : Option Str}
/-- how a call with keywords binds: g puts the positional values us and the keywords' values ws (names ks) in the parameters' order, defaults among them -/
structure KBinds (K : PySem.W.Frag) (fd : FuncData) (ps ks : List Str) (g : List Value → List Value → List Value) (gV : List V → List V → List V) : Prop where
  to : ∀ (s : Shared) (us ws : List Value), K.In s.heap → (g us ws).length = ps.length → BindsTo s fd ⟨us, ks.zip ws⟩ (ps.zip (g us ws))
  rel : ∀ {vs : List V} {us : List Value} {zs : List V} {ws : List Value}, Vals vs us → Vals zs ws → Vals (gV vs zs) (g us ws)
def tCallK (sp : Sp) (gV : List V → List V → List V) (E : XK) (t tk : TA) : TE := fun σ H Q => t σ H fun vs H1 => tk σ H1 fun zs H2 => sp (gV vs zs) H2 Q E
variable {g : List Value → List Value → List Value} {gV : List V → List V → List V}
end

/-! ### a def's body keeps its promise -/
/-- names: the parameters first -/
structure FnScope (N P : List Str) (sc : Scope) : Prop where
  kind : sc.kind = .function
  co : sc.isCoroutine = false
  gen : sc.isGenerator = false
  nd : N.Nodup
  pre : N.take P.length = P
  par : ∀ x ∈ P, sc.names.lookup x = some .local ∨ sc.names.lookup x = some .cell
  nofree : ∀ y ∈ sc.names, y.2 ≠ .free

theorem bindL_out {kindOf : Str → Option NameKind} {x : Str} : ∀ {binds : List (Str × Value)} {m : Str → Option Value}, (∀ v, (x, v) ∉ binds) → bindL kindOf binds m x = m x
  | [], _, _ => rfl
  | (n, v) :: r, m, h => by
    unfold bindL
    rw [bindL_out fun w hw => h w (List.mem_cons_of_mem _ hw)]
    split
    · have : x ≠ n := by rintro rfl; exact h v List.mem_cons_self
      simp [this]
    · rfl
theorem bindC_out {kindOf : Str → Option NameKind} {x : Str} : ∀ {binds : List (Str × Value)} {m : Str → Option Value}, (∀ v, (x, v) ∉ binds) → bindC kindOf binds m x = m x
  | [], _, _ => rfl
  | (n, v) :: r, m, h => by
    unfold bindC
    rw [bindC_out fun w hw => h w (List.mem_cons_of_mem _ hw)]
    split
    · rfl
    · have : x ≠ n := by rintro rfl; exact h v List.mem_cons_self
      simp [this]
theorem bindL_get {kindOf : Str → Option NameKind} {x : Str} {v : Value} : ∀ {P : List Str} {vs : List Value} {i : Nat} {m : Str → Option Value}, P.Nodup → P[i]? = some x → vs[i]? = some v → kindOf x = some .local →
    bindL kindOf (P.zip vs) m x = some v
  | [], _, _, _, _, h, _, _ => by simp at h
  | _ :: _, [], _, _, _, _, h, _ => by simp at h
  | p :: P, w :: vs, 0, m, nd, h1, h2, hk => by
    simp at h1 h2; subst h1; subst h2
    show bindL kindOf ((p, w) :: P.zip vs) m p = _
    unfold bindL
    rw [bindL_out fun v hv => (List.nodup_cons.mp nd).1 (List.of_mem_zip hv).1, if_pos hk]
    simp
  | p :: P, w :: vs, i + 1, m, nd, h1, h2, hk => by
    show bindL kindOf ((p, w) :: P.zip vs) m x = _
    unfold bindL
    exact bindL_get (i := i) (List.nodup_cons.mp nd).2 (by simpa using h1) (by simpa using h2) hk
theorem bindC_get {kindOf : Str → Option NameKind} {x : Str} {v : Value} : ∀ {P : List Str} {vs : List Value} {i : Nat} {m : Str → Option Value}, P.Nodup → P[i]? = some x → vs[i]? = some v → kindOf x ≠ some .local →
    bindC kindOf (P.zip vs) m x = some v
  | [], _, _, _, _, h, _, _ => by simp at h
  | _ :: _, [], _, _, _, _, h, _ => by simp at h
  | p :: P, w :: vs, 0, m, nd, h1, h2, hk => by
    simp at h1 h2; subst h1; subst h2
    show bindC kindOf ((p, w) :: P.zip vs) m p = _
    unfold bindC
    rw [bindC_out fun v hv => (List.nodup_cons.mp nd).1 (List.of_mem_zip hv).1, if_neg hk]
    simp
  | p :: P, w :: vs, i + 1, m, nd, h1, h2, hk => by
    show bindC kindOf ((p, w) :: P.zip vs) m x = _
    unfold bindC
    exact bindC_get (i := i) (List.nodup_cons.mp nd).2 (by simpa using h1) (by simpa using h2) hk

/-- the names' values at the entry -/
def start (N : List Str) (vs : List V) : St := vs.map some ++ List.replicate (N.length - vs.length) none

/-- the context of a def's body, at its entry; an exception leaves the frame, then lies as CX says -/
def cxOf (CX : CXT) (P : Program) (w : World) (K : PySem.W.Frag) (mg : Str → Option Value) (base : Heap) (N : List Str) (qual : Str) (scope : Scope) (f : Addr) (cd : Value) (A : Around) (outer : List Env) (s : Shared) (H : Hp) (E : XK) : Cx where
  prog := P
  w := w
  K := K
  mg := mg
  base := base
  A := A.deeper (envOfC qual scope s.heap.objs.size f cd)
  N := N
  s₀ := s
  H₀ := H
  env := envOfC qual scope s.heap.objs.size f cd
  outer := outer
  stack := envOfC qual scope s.heap.objs.size f cd :: outer
  ex := []
  calm := true
  fn := fun _ => true
  pn := []
  xe := fun e s' => wpAny (model P w) (A.deeper (envOfC qual scope s.heap.objs.size f cd)) (leaving (envOfC qual scope s.heap.objs.size f cd) e) (fun _ s'' => CX outer H s E e s'') (fun e' s'' => CX outer H s E e' s'') s'

theorem cell_has {sc : Scope} {n : Nat} {x : Str} (h : sc.names.lookup x = some .cell) : ∃ c, (cellsFrom n sc.names []).lookup x = some c := by
  have q := PySem.W.cellsFrom_some sc.names n [] (.inl h)
  exact Option.isSome_iff_exists.mp q

theorem inv_start {CX : CXT} {P : Program} {w : World} {K : PySem.W.Frag} {mg : Str → Option Value} {base : Heap} {N ps : List Str} {qual : Str} {scope : Scope} {f : Addr} {cd : Value} {A : Around} {outer : List Env} {s s1 : Shared} {H : Hp} {E : XK} {us : List Value} {vs : List V}
    (S : FnScope N ps scope) (hd : A.handled = none) (e0 : Env0 P w K mg base A outer s H) (hl : vs.length = ps.length) (r : Vals vs us)
    (x : InCallC s s.heap.objs.size (bindL (envOfC qual scope s.heap.objs.size f cd).kindOf (ps.zip us) fun _ => none) (cellsFrom (s.heap.objs.size + 1) scope.names []) (bindC (envOfC qual scope s.heap.objs.size f cd).kindOf (ps.zip us) fun _ => none) s1) :
    Inv (cxOf CX P w K mg base N qual scope f cd A outer s H E) [] (start N vs) H s1 := by
  have hpl : ps.length ≤ N.length := by have := congrArg List.length S.pre; rw [List.length_take] at this; omega
  obtain ⟨h1, tk, rfl, hk⟩ := x.done
  have noA : ∀ b : Addr, b ∉ (cxOf CX P w K mg base N qual scope f cd A outer s H E).ex := fun b z => absurd (show b ∈ ([] : List Addr) from z) (by simp)
  refine ⟨⟨e0.mod, S.kind, rfl, rfl, Nat.le_refl _, fun y z c h1 h2 => ?_, fun y hy => ?_, fun y c _ h => ?_, fun _ => hd, Around.frames_deeper e0.frames, .inr ⟨rfl, rfl⟩, fun b z => absurd z (noA b), e0.bs, e0.bsz, fun b _ _ => noA b, fun b z => absurd z (noA b), e0.funs, e0.frf⟩,
    rfl, e0.bare, Un.kept hk, ⟨_, x.toInCall.ns, fun i y v h1 h2 h3 => ?_⟩, fun y c h => ⟨_, x.cell y c h⟩, e0.hok.fresh (Nat.le_refl _), fun y c h => ?_, fun p hp => absurd (show p ∈ ([] : List (Addr × Obj)) from hp) (by simp), e0.hok.kept hk, ?_⟩
  · exact name_of_addr x.apart (PySem.mem_of_lookup h1) (PySem.mem_of_lookup h2)
  · have hy : scope.names.lookup y = some .cell ∨ scope.names.lookup y = some .free := hy
    rcases hy with hy | hy
    · exact cell_has hy
    · exact absurd rfl (S.nofree _ (PySem.mem_of_lookup hy))
  · exact Nat.le_of_lt (x.above y c (PySem.mem_of_lookup h))
  · have hi : i < vs.length := by
      unfold start at h2
      by_cases hi : i < vs.length
      · exact hi
      · rw [List.getElem?_append_right (by simpa using hi)] at h2
        rw [List.getElem?_replicate] at h2
        split at h2 <;> cases h2
    have ha : vs[i]? = some v := by
      unfold start at h2
      rw [List.getElem?_append_left (by simpa using hi), List.getElem?_map] at h2
      cases e : vs[i]? with
      | none => rw [e] at h2; cases h2
      | some a => rw [e] at h2; cases h2; rfl
    obtain ⟨u, hu, rv⟩ := r.get ha
    have hp : ps[i]? = some y := by
      rw [← S.pre, List.getElem?_take_of_lt (by omega)]; exact h1
    have ndP : ps.Nodup := by rw [← S.pre]; exact S.nd.sublist (List.take_sublist _ _)
    refine ⟨u, rv, ?_⟩
    rcases S.par y (List.mem_of_getElem? hp) with k | k
    · exact .inl ⟨k, bindL_get ndP hp hu k⟩
    · obtain ⟨c, e⟩ := cell_has (n := s.heap.objs.size + 1) k
      refine .inr ⟨.inl k, c, e, ?_⟩
      have q := x.cell y c e
      rw [bindC_get ndP hp hu (by show scope.names.lookup y ≠ _; rw [k]; decide)] at q
      exact q
  · exact e0.hok.fresh (Nat.le_of_lt (x.above y c (PySem.mem_of_lookup h)))
  · unfold start
    show _ = N.length
    rw [List.length_append, List.length_map, List.length_replicate]
    omega

/-- THE RULE: a def (or a method) of the text, by its body. The body's reading t is chosen for each entry; it is run at the parameters' values -/
theorem fn_of {CX : CXT} {P : Program} {w : World} {K : PySem.W.Frag} {mg : Str → Option Value} {base : Heap} {k : Nat} {f : Addr} {name qual : Str} {params : Arguments} {body : List Stmt} {scope : Scope} {dV kV doc pm cdv ct oc : Value} {an od : Option Addr}
    {osl : Array (Option Value)} {N ps : List Str} {sp : Sp} (lk : K.lookup f = some ⟨oc, od, .func (PySem.W.fnOf name qual params body scope dV kV doc pm an cdv ct), osl⟩) (hcd : PySem.W.codeIn K cdv qual = true) (S : FnScope N ps scope)
    (len : ∀ vs H Q E, sp vs H Q E → vs.length = ps.length)
    (hbody : ∀ (A : Around) (outer : List Env) (s : Shared) (H : Hp) (vs : List V) (Q : VK) (E : XK), Room k (A.deeper (envOfC qual scope s.heap.objs.size f cdv)) → sp vs H Q E →
      ∃ t, PSs (cxOf CX P w K mg base N qual scope f cdv A outer s H E) body t ∧ t { nx := fun _ H' => Q .non H', rt := Q } (start N vs) H) :
    FnOk P w K mg base CX (k + 1) f (PySem.W.fnOf name qual params body scope dV kV doc pm an cdv ct) ps sp := by
  refine ⟨len, fun A outer s H args us vs Q E hr e0 hb r hsp => ?_⟩
  have hl := len _ _ _ _ hsp
  have KX : K.In s.heap := e0.mod.kin.keeps fun b o e => (e0.bs b o e).1
  have lim : s.heap.NoLimit := e0.mod.nolimit.keeps fun b o e => (e0.bs b o e).1
  have hkind : ∀ y ∈ ps.zip us, scope.names.lookup y.1 = some .local ∨ (scope.names.lookup y.1 = some .cell ∧ ((cellsFrom (s.heap.objs.size + 1) scope.names []).lookup y.1).isSome = true) := fun ⟨n, v⟩ hy => by
    rcases S.par n (List.of_mem_zip hy).1 with q | q
    · exact .inl q
    · exact .inr ⟨q, PySem.W.cellsFrom_some _ _ _ (.inl q)⟩
  refine codeAny_call_function hr.depth (KX _ _ lk) rfl S.co S.gen rfl (PySem.W.codeRec_of KX hcd) (hb _ _ _ _ ?_)
  refine wpAny_newFunctionEnv_cells S.kind hkind fun env he s1 x => ?_
  subst he
  refine ⟨lim.keeps x.toInCall.keep, codeAny_func ?_⟩
  obtain ⟨t, ht, hq⟩ := hbody A outer s H vs Q E (hr.deeper _) hsp
  have I : Inv (cxOf CX P w K mg base N qual scope f cdv A outer s H E) [] (start N vs) H s1 := inv_start S hr.hd e0 hl r x
  refine wpAny_mono (ht [] s1 (start N vs) H _ I hq) (fun fl s' hs => ?_) fun e s' hs => hs
  have fin : ∀ {σ' : St} {H' : Hp} {v : V} {u : Value}, Inv (cxOf CX P w K mg base N qual scope f cdv A outer s H E) [] σ' H' s' → RelV v u → Q v H' → CE outer P w H s Q u s' :=
    fun {σ' H' v u} J rv q => ⟨v, H', J.os, J.bare, J.base, J.hok, rv, q⟩
  cases fl with
  | ret u =>
    obtain ⟨v, σ', H', J, rv, q⟩ := hs
    exact fin J rv q
  | next =>
    obtain ⟨σ', H', J, q⟩ := hs
    exact fin (v := V.non) (u := Value.none) J rfl q
  | brk =>
    obtain ⟨_, _, _, q⟩ := hs
    exact False.elim q
  | cont =>
    obtain ⟨_, _, _, q⟩ := hs
    exact False.elim q
end L2

namespace L2
open PySem PySem.Spec PyProof.Rows
section
variable {X : Cx} {x : Str} {p pos : Pos} {e : Expr} {es : List Expr} {t : TA} {id T : String} {r : List V → Hp → VK → Prop}

def tCB (r : List V → Hp → VK → Prop) (t : TA) : TE := fun σ H Q => t σ H fun vs H1 => r vs H1 Q
/-- f(e, ..), f a built-in function -/
theorem pe_callB (hc : CallR X (.builtin id) r) (hg : Gl X x) (hm : X.mg x = none) (hv : bootBuiltins x = some (.builtin id)) (ha : PA X (e :: es) t) (hn : x ≠ "__name__" := by decide) (hdb : (x == ("__debug__" : Str)) = false := by decide)
    (he : starEach (e :: es) X.env = (false, eval e X.env) :: starEach es X.env := by rfl) (hpl : (backTo pos (starEach es X.env)).any (·.1) = false := by rfl) : PE X (.Call (.Name x p) (e :: es) [] pos) (tCB r t) := by
  intro pins s σ H Q I h
  refine wpAny_Call_Name_kw (ld_blt I hg hm hv ?_ hn hdb)
  exact PyProof.Rows.callWith_builtin1 (thn (ha pos pins s σ H _ I h) fun us s1 ⟨vs, H1, I1, r1, q1⟩ => hc pins s1 σ H1 vs us Q I1 r1 q1) he hpl
/-- T(e, ..), T a built-in type -/
theorem pe_callTy (hc : CallR X (.type T) r) (hg : Gl X x) (hm : X.mg x = none) (hv : bootBuiltins x = some (.type T)) (ha : PA X (e :: es) t) (hn : x ≠ "__name__" := by decide) (hdb : (x == ("__debug__" : Str)) = false := by decide)
    (he : starEach (e :: es) X.env = (false, eval e X.env) :: starEach es X.env := by rfl) (hpl : (backTo pos (starEach es X.env)).any (·.1) = false := by rfl) : PE X (.Call (.Name x p) (e :: es) [] pos) (tCB r t) := by
  intro pins s σ H Q I h
  refine wpAny_Call_Name_kw (ld_blt I hg hm hv ?_ hn hdb)
  exact PyProof.Rows.callWith_type1 (thn (ha pos pins s σ H _ I h) fun us s1 ⟨vs, H1, I1, r1, q1⟩ => hc pins s1 σ H1 vs us Q I1 r1 q1) he hpl
end
end L2

namespace HT
open PySem PyProof.Rows

/-- t < u of tuples of ints -/
def lexLt : List Int → List Int → Bool
  | [], [] => false
  | [], _ :: _ => true
  | _ :: _, [] => false
  | x :: xs, y :: ys => if x = y then lexLt xs ys else decide (x < y)
section
open PySem.SeqAt
open PySem.AutoSeq1 (wpAny_loadPart')
open PySem.MeetsSeq PySem.MeetsSeq2 PySem.MeetsSeq3

end

section
variable {prog : Program} {w : World} {A : Around} {E : Value → Shared → Prop} {s : Shared}

/-- t + u, t not empty -/
theorem cat_tup {t b : Addr} {vs ws : List Value} {Q : Value → Shared → Prop} (ht : IsTup s.heap t vs.toArray) (hb : IsTup s.heap b ws.toArray) (hv : vs ≠ [])
    (h1 : ws = [] → Q (.ref t) s) (h2 : ws ≠ [] → Q (.ref s.heap.objs.size) { s with heap := s.heap.push { cls := .type "tuple", data := .seq (vs ++ ws).toArray } })
    (hsz : vs.length + ws.length ≤ sizeLine) : wpAny (model prog w) A (binaryOp .Add (.ref t) (.ref b)) Q E s := by
  obtain ⟨⟨cls, dd, data, sl⟩, ho, hc, n, hd⟩ := id ht
  obtain ⟨⟨cls2, dd2, data2, sl2⟩, ho2, hc2, n2, hd2⟩ := id hb
  simp only at hc hd hc2 hd2
  subst hc hd hc2 hd2
  have e : vs.toArray ++ ws.toArray = (vs ++ ws).toArray := by simp
  by_cases hw : ws = []
  · exact concat_meets ⟨_, ho, rfl⟩ ⟨_, ho2, rfl⟩ noFill_tuple_add seq_tuple_add PySem.F.slot_tuple_add PySem.F.entry_tuple_add (PySem.F.args_tuple_add_2 _ _)
      (tuple_addW1 t b vs.toArray ws.toArray n n2 dd dd2 sl sl2 (by simpa using hv) (by simp [hw])) ⟨ho, ho2, h1 hw⟩
  · refine concat_meets ⟨_, ho, rfl⟩ ⟨_, ho2, rfl⟩ noFill_tuple_add seq_tuple_add PySem.F.slot_tuple_add PySem.F.entry_tuple_add (PySem.F.args_tuple_add_2 _ _)
      (tuple_addW2 t b vs.toArray ws.toArray n n2 dd dd2 sl sl2 (by simpa using hv) (by simpa using hw) (by rw [List.size_toArray, List.size_toArray]; exact hsz)) ⟨ho, ho2, ?_⟩
    rw [e]
    exact h2 hw

/-! ### t[a:b], not the whole -/
/-- a slice's bound as a place among n (d where it is left out) -/
def sIx (n d : Nat) : Option Int → Nat
  | none => d
  | some v => if v < 0 then (v + (n : Int)).toNat else min v.toNat n
theorem sIx_none (n d : Nat) : sIx n d none = d := rfl
theorem sIx_nat (n d k : Nat) : sIx n d (some (k : Int)) = min k n := by
  show (if (k : Int) < 0 then ((k : Int) + (n : Int)).toNat else min (k : Int).toNat n) = min k n
  rw [if_neg (by omega), Int.toNat_natCast]
end
end HT

namespace L2
open PySem PySem.Spec PyProof.Rows

/-! ### the parts of a slice -/
abbrev TO := St → Hp → (Option Int → Hp → Prop) → Prop
/-- a slice's part (left out, or an int) -/
def PO (X : Cx) (e : Option Expr) (t : TO) : Prop :=
  ∀ (pins : List (Addr × Obj)) (s : Shared) (σ : St) (H : Hp) (Q : Option Int → Hp → Prop), Inv X pins σ H s → t σ H Q →
    wpAny (model X.prog X.w) X.A (evalPart e X.env) (fun u s' => ∃ o H', Inv X pins σ H' s' ∧ IsPart u o ∧ Q o H') X.xe s
def tNoPart : TO := fun _ H Q => Q none H
def tPart (t : TE) : TO := fun σ H Q => t σ H fun x H1 => ∃ i, x = .int i ∧ Q (some i) H1

section
variable {X : Cx} {e : Expr} {te : TE} {lo hi : Option Expr} {tl th : TO} {pos p2 : Pos}

theorem po_none : PO X none tNoPart := by
  intro pins s σ H Q I h
  rw [evalPart_none]
  exact wpAny_pure ⟨none, H, I, .none, h⟩
theorem po_some (h : PE X e te) : PO X (some e) (tPart te) := by
  intro pins s σ H Q I hw
  rw [evalPart_some]
  refine thn (h pins s σ H _ I hw) fun u s1 ⟨x, H1, I1, r1, q1⟩ => ?_
  obtain ⟨i, rfl, q⟩ := q1
  obtain ⟨t, rfl⟩ := r1
  exact ⟨some i, H1, I1, .int i t, q⟩

/-- what a slice of a value is, by values: the slice object stands at sl -/
def SlR (X : Cx) (r : V → Option Int → Option Int → Hp → VK → Prop) : Prop :=
  ∀ (pins : List (Addr × Obj)) (s : Shared) (σ : St) (H : Hp) (x : V) (v vl vu : Value) (lo hi : Option Int) (sl : Addr) (Q : VK), Inv X pins σ H s → RelV x v → s.heap.IsSliceOf sl vl vu .none → IsPart vl lo → IsPart vu hi → r x lo hi H Q →
    ∃ T id, typeLookup (.type T) "__getitem__" = pure (some (.builtin id)) ∧ s.TypeIs v T ∧ wpAny (model X.prog X.w) X.A (getItem v (.ref sl)) (EP X pins σ Q) X.xe s
def tSl (r : V → Option Int → Option Int → Hp → VK → Prop) (te : TE) (tl th : TO) : TE := fun σ H Q => te σ H fun x H1 => tl σ H1 fun l H2 => th σ H2 fun u H3 => r x l u H3 Q
/-- a[lo:hi], any a -/
theorem pe_slice {r : V → Option Int → Option Int → Hp → VK → Prop} (hr : SlR X r) (he : PE X e te) (hl : PO X lo tl) (hu : PO X hi th) : PE X (.Subscript e (.Slice lo hi none p2) pos) (tSl r te tl th) := by
  intro pins s σ H Q I h
  refine Subscript_ (thn (he pins s σ H _ I h) fun v s1 ⟨x, H1, I1, r1, q1⟩ => ?_)
  refine wpAny_Slice (thn (hl pins s1 σ H1 _ I1 q1) fun vl s2 ⟨l, H2, I2, pl, q2⟩ => thn (hu pins s2 σ H2 _ I2 q2) fun vu s3 ⟨u, H3, I3, pu, q3⟩ => ?_)
  rw [evalPart_none]
  refine wpAny_pure ?_
  have I4 : Inv X pins σ H3 { s3 with heap := s3.heap.push { cls := .type "slice", data := .fields #[vl, vu, .none] } } := I3.kept (t' := s3.toks) fun b ob q => Heap.get?_push_of_some _ q
  obtain ⟨T, id, hT, ht, hg⟩ := hr pins { s3 with heap := s3.heap.push { cls := .type "slice", data := .fields #[vl, vu, .none] } } σ H3 x v vl vu l u s3.heap.objs.size Q I4 r1 (Heap.IsSliceOf.new ..) pl pu q3
  show wpAny (model X.prog X.w) X.A (subscriptTail e (.Slice lo hi none p2) v (.ref s3.heap.objs.size)) (EP X pins σ Q) X.xe { s3 with heap := s3.heap.push { cls := .type "slice", data := .fields #[vl, vu, .none] } }
  exact tail_any (ops := [.ref s3.heap.objs.size, v]) ht hT hg (by with_unfolding_all rfl)

/-- the items of xs[lo:hi] -/
def cutV (xs : List V) (lo hi : Option Int) : List V := (xs.drop (HT.sIx xs.length 0 lo)).take (HT.sIx xs.length xs.length hi - HT.sIx xs.length 0 lo)
theorem cutV_length (xs : List V) (lo hi : Option Int) : (cutV xs lo hi).length ≤ xs.length := by
  unfold cutV
  rw [List.length_take, List.length_drop]
  omega
/-- t[lo:hi], not the whole of it (the whole would be t itself) -/
def rSlT (K : PySem.W.Frag) : V → Option Int → Option Int → Hp → VK → Prop := fun x lo hi H Q => ∃ a xs, x = .ref a ∧ SqT K H a xs ∧
  ¬ (HT.sIx xs.length 0 lo = 0 ∧ HT.sIx xs.length xs.length hi = xs.length) ∧ ∀ p, H p = none → Q (.ref p) (upd H p (.tup (cutV xs lo hi)))
/-! ### t < u, t + u -/
def rLtT (K : PySem.W.Frag) : R2 := fun x y H Q => ∃ a b ns ms, x = .ref a ∧ y = .ref b ∧ SqT K H a (ns.map V.int) ∧ SqT K H b (ms.map V.int) ∧ Q (.bl (HT.lexLt ns ms)) H
/-- t + u, t not empty: u empty gives t itself -/
def rCatT (K : PySem.W.Frag) : R2 := fun x y H Q => ∃ a b xs ys, x = .ref a ∧ y = .ref b ∧ SqT K H a xs ∧ SqT K H b ys ∧ xs ≠ [] ∧ xs.length + ys.length ≤ sizeLine ∧
  (ys = [] → Q (.ref a) H) ∧ (ys ≠ [] → ∀ p, H p = none → Q (.ref p) (upd H p (.tup (xs ++ ys))))
theorem Vals.nil_iff {xs : List V} {us : List Value} (r : Vals xs us) : us = [] ↔ xs = [] := by
  cases r with
  | nil => simp
  | cons _ _ => simp
end
end L2

namespace L2
open PySem PySem.Spec PyProof.Rows

/-! ### places -/
/-- the place that an index of any sign means -/
def ixN (n : Nat) (i : Int) : Option Nat := if 0 ≤ i then (if i < n then some i.toNat else none) else if -(n : Int) ≤ i then some (i + n).toNat else none
def atI {α : Type} (xs : List α) (i : Int) : Option α := (ixN xs.length i).bind fun j => xs[j]?
theorem ixN_seq {n : Nat} {i : Int} {j : Nat} (h : ixN n i = some j) : seqIndex? i n = some j ∧ j < n ∧ -(n : Int) ≤ i ∧ i < n := by
  unfold ixN at h
  by_cases h0 : 0 ≤ i
  · rw [if_pos h0] at h
    by_cases h1 : i < n
    · rw [if_pos h1] at h
      have e : i.toNat = j := Option.some.inj h
      exact ⟨by rw [seqIndex_of h0 h1, e], by omega, by omega, h1⟩
    · rw [if_neg h1] at h; cases h
  · rw [if_neg h0] at h
    by_cases h1 : -(n : Int) ≤ i
    · rw [if_pos h1] at h
      have e : (i + n).toNat = j := Option.some.inj h
      exact ⟨by rw [seqIndex_neg (by omega) h1, e], by omega, h1, by omega⟩
    · rw [if_neg h1] at h; cases h
theorem atI_get {α : Type} {xs : List α} {i : Int} {v : α} (h : atI xs i = some v) : ∃ j, seqIndex? i xs.length = some j ∧ xs[j]? = some v ∧ j < xs.length ∧ -(xs.length : Int) ≤ i ∧ i < xs.length := by
  unfold atI at h
  cases e : ixN xs.length i with
  | none => rw [e] at h; cases h
  | some j =>
    rw [e] at h
    obtain ⟨h1, h2, h3, h4⟩ := ixN_seq e
    exact ⟨j, h1, h, h2, h3, h4⟩
theorem atI_nat {α : Type} {xs : List α} {j : Nat} {v : α} (h : xs[j]? = some v) : atI xs (j : Int) = some v := by
  have hj : j < xs.length := (List.getElem?_eq_some_iff.mp h).1
  have e : ixN xs.length (j : Int) = some j := by
    unfold ixN
    rw [if_pos (by omega), if_pos (by omega)]; simp
  unfold atI; rw [e]; exact h
theorem atI_last {α : Type} (xs : List α) (v : α) : atI (xs ++ [v]) (-1) = some v := by
  have hl : (xs ++ [v]).length = xs.length + 1 := by simp
  have e : ixN (xs ++ [v]).length (-1) = some xs.length := by
    unfold ixN
    rw [hl, if_neg (by decide), if_pos (by omega)]
    congr 1
    omega
  unfold atI
  rw [e]
  show (xs ++ [v])[xs.length]? = some v
  simp

/-! ### what may be subscripted -/
/-- what stands as an index of a plain subscript -/
def PlainIx (b : Expr) : Prop := ∀ o i, subscripted b false o i = operate [o, i] (getItem o i)
/-- a subscript by values -/
def IxR (X : Cx) (r : R2) : Prop :=
  ∀ (value slice : Expr) (pins : List (Addr × Obj)) (s : Shared) (σ : St) (H : Hp) (x y : V) (v u : Value) (Q : VK), Inv X pins σ H s → RelV x v → RelV y u → r x y H Q →
    subscripted slice false v u = operate [v, u] (getItem v u) → wpAny (model X.prog X.w) X.A (subscriptTail value slice v u) (EP X pins σ Q) X.xe s
/-- a call of a builtin's method by values: the receiver, the arguments -/
def MtR (X : Cx) (id : String) (r : V → List V → Hp → VK → Prop) : Prop :=
  ∀ (pins : List (Addr × Obj)) (s : Shared) (σ : St) (H : Hp) (x : V) (xs : List V) (v : Value) (us : List Value) (Q : VK), Inv X pins σ H s → RelV x v → Vals xs us → r x xs H Q →
    wpAny (model X.prog X.w) X.A (call (.builtin id) (v :: us)) (EP X pins σ Q) X.xe s
section
variable {X : Cx} {a b : Expr} {ta tb : TE} {pos : Pos}
/-- a[b] -/
theorem pe_ix {r : R2} (hr : IxR X r) (ha : PE X a ta) (hb : PE X b tb) (hs : PlainIx b) : PE X (.Subscript a b pos) (tOp r ta tb) := by
  intro pins s σ H Q I h
  exact Subscript_ (binT ha hb I h fun v u s2 x y H2 I2 rx ry q => hr a b pins s2 σ H2 x y v u Q I2 rx ry q (hs _ _))

def rIxL (K : PySem.W.Frag) : R2 := fun x y H Q => ∃ p xs i v, x = .ref p ∧ y = .int i ∧ SqL K H p xs ∧ atI xs i = some v ∧ Q v H
def rIxT (K : PySem.W.Frag) : R2 := fun x y H Q => ∃ p xs i v, x = .ref p ∧ y = .int i ∧ SqT K H p xs ∧ atI xs i = some v ∧ Q v H
def rIxS : R2 := fun x y H Q => ∃ z i c, x = .str z ∧ y = .int i ∧ z.length ≤ sizeLine ∧ atI z.cps.toList i = some c ∧ Q (.str ⟨#[c]⟩) H
theorem ix_list : IxR X (rIxL X.K) := by
  intro value slice pins s σ H x y v u Q I rx ry h hs
  obtain ⟨p, xs, i, z, rfl, rfl, hq, he, q⟩ := h
  cases rx
  obtain ⟨t, rfl⟩ := ry
  obtain ⟨its, r, pl, hz⟩ := I.list hq
  obtain ⟨j, h1, h2, h3, h4, h5⟩ := atI_get he
  obtain ⟨w, ew, rw'⟩ := r.get h2
  have hl := r.length
  have hn := line63
  have fin : EP X pins σ Q w s := ⟨z, H, I, rw', q⟩
  by_cases h0 : 0 ≤ i
  · have hj : i.toNat = j := by
      rw [seqIndex_of h0 h5] at h1
      exact Option.some.inj h1
    exact item_listR pl.isList h0 (by omega) (by rw [hj]; simpa using ew) fin hs
  · have hj : (i + (its.toArray.size : Int)).toNat = j := by
      rw [seqIndex_neg (by omega) h4] at h1
      rw [List.size_toArray, ← hl]
      exact Option.some.inj h1
    exact subscriptTail_builtinR (x := w) pl.isList.typeIs slot_list_getitem.lookup
      (wpAny_getItem_list_neg (Q := fun r s' => r = w ∧ EP X pins σ Q r s') pl.isList (by omega) (by rw [List.size_toArray] <;> omega) (by omega) (by rw [hj]; simpa using ew) ⟨rfl, fin⟩) hs
theorem ix_tup : IxR X (rIxT X.K) := by
  intro value slice pins s σ H x y v u Q I rx ry h hs
  obtain ⟨p, xs, i, z, rfl, rfl, hq, he, q⟩ := h
  cases rx
  obtain ⟨t, rfl⟩ := ry
  obtain ⟨its, r, pl, hz⟩ := I.tuple hq
  obtain ⟨j, h1, h2, h3, h4, h5⟩ := atI_get he
  obtain ⟨w, ew, rw'⟩ := r.get h2
  have hl := r.length
  have hn := line63
  have fin : EP X pins σ Q w s := ⟨z, H, I, rw', q⟩
  exact subscriptTail_builtinR (x := w) pl.typeIs slot_tuple_getitem.lookup
    (getItem_tuple (j := j) (Q := fun r s' => r = w ∧ EP X pins σ Q r s') pl (by omega) (by omega) (by rw [List.size_toArray, ← hl]; exact h1) (by simpa using ew) ⟨rfl, fin⟩) hs
theorem ix_str : IxR X rIxS := by
  intro value slice pins s σ H x y v u Q I rx ry h hs
  obtain ⟨z, i, c, rfl, rfl, hz, he, q⟩ := h
  obtain ⟨t, rfl⟩ := rx
  obtain ⟨t', rfl⟩ := ry
  obtain ⟨j, h1, h2, h3, h4, h5⟩ := atI_get he
  have hl : z.cps.toList.length = z.length := by simp [Str.length]
  rw [hl] at h1 h4 h5
  have hn := line63
  exact tail_any (typeIs_str s z t) slot_str_getitem.lookup (getItem_str (c := c) (by
    have e1 : decide (i < -(2 ^ 63 : Int)) = false := decide_eq_false (by omega)
    have e2 : decide (i ≥ 2 ^ 63) = false := decide_eq_false (by omega)
    rw [e1, e2, Bool.or_false]) (by rw [h1]; simpa using h2) ⟨.str ⟨#[c]⟩, H, I.tok _, ⟨_, rfl⟩, q⟩) hs
/-- list, tuple or str -/
def rIx (K : PySem.W.Frag) : R2 := fun x y H Q => rIxL K x y H Q ∨ rIxT K x y H Q ∨ rIxS x y H Q
/-! ### xs[i] = v, any sign -/
def rSetL : V → V → V → Hp → (Hp → Prop) → Prop := fun o i v H Q => ∃ p xs k j, o = .ref p ∧ i = .int k ∧ H p = some (.lst xs) ∧ ixN xs.length k = some j ∧ Q (upd H p (.lst (xs.set j v)))
/-! ### slices -/
theorem slice_bounds (lo hi : Option Int) (n : Nat) : (sliceBounds lo hi none n).1 = ((HT.sIx n 0 lo : Nat) : Int) ∧ (sliceBounds lo hi none n).2.1 = ((HT.sIx n n hi : Nat) : Int) ∧ (sliceBounds lo hi none n).2.2 = 1 := by
  refine ⟨?_, ?_, rfl⟩
  · cases lo with
    | none => simp [sliceBounds, HT.sIx]
    | some i =>
      simp only [sliceBounds, HT.sIx, Option.getD_none, show (1 : Int) > 0 by decide, if_true]
      by_cases h : i < 0
      · simp only [h, if_true] <;> omega
      · simp only [h, if_false] <;> omega
  · cases hi with
    | none => simp [sliceBounds, HT.sIx]
    | some i =>
      simp only [sliceBounds, HT.sIx, Option.getD_none, show (1 : Int) > 0 by decide, if_true]
      by_cases h : i < 0
      · simp only [h, if_true] <;> omega
      · simp only [h, if_false] <;> omega
theorem slicePick_cut (its : List Value) (lo hi : Option Int) : slicePick its.toArray lo hi none = ((its.drop (HT.sIx its.length 0 lo)).take (HT.sIx its.length its.length hi - HT.sIx its.length 0 lo)).toArray := by
  obtain ⟨h1, h2, h3⟩ := slice_bounds lo hi its.toArray.size
  unfold slicePick
  rw [h1, h2, h3]
  simp only [sliceRange_one, pick_run, List.size_toArray] <;> rfl
/-- xs[lo:hi] of a list: a new list -/
def rSlL (K : PySem.W.Frag) : V → Option Int → Option Int → Hp → VK → Prop := fun x lo hi H Q => ∃ a xs, x = .ref a ∧ SqL K H a xs ∧ ∀ p, H p = none → Q (.ref p) (upd H p (.lst (cutV xs lo hi)))
theorem sl_list : SlR X (rSlL X.K) := by
  intro pins s σ H x v vl vu lo hi sl Q I rx hs pl pu h
  obtain ⟨a, xs, rfl, hx, q⟩ := h
  cases rx
  obtain ⟨its, r, ht, hz⟩ := I.list hx
  have hlen := r.length
  refine ⟨"list", _, slot_list_getitem.lookup, ht.isList.typeIs, ?_⟩
  refine wpAny_getItem_list_slice ht.isList hs pl pu .none (by simp) ?_ (by rw [List.size_toArray] <;> omega)
  rw [slicePick_cut, ← hlen]
  refine ⟨.ref s.heap.objs.size, _, I.laid (t' := s.toks) (o := .lst (cutV xs lo hi)) (fun b ob q => Heap.get?_push_of_some _ q) (Nat.le_refl _) ?_, rfl, q _ (I.hok.fresh (Nat.le_refl _))⟩
  exact ⟨Nat.le_trans (cutV_length xs lo hi) hz, _, 0, (r.drop (HT.sIx xs.length 0 lo)).take (HT.sIx xs.length xs.length hi - HT.sIx xs.length 0 lo), Heap.get?_push_size _ rfl⟩

/-! ### in, not in: flat items -/
def flatV : V → Bool
  | .non => true
  | .bl _ => true
  | .int _ => true
  | .str _ => true
  | _ => false
/-- == of flat values -/
def eqV : V → V → Bool
  | .non, .non => true
  | .bl a, .bl b => a == b
  | .bl a, .int b => (if a then 1 else 0) == b
  | .int a, .bl b => a == (if b then 1 else 0)
  | .int a, .int b => a == b
  | .str a, .str b => a == b
  | _, _ => false
theorem eqAt_V {A : Around} {s : Shared} {y x : V} {u v : Value} (ry : RelV y u) (rx : RelV x v) (fy : flatV y = true) (fx : flatV x = true) : SeqAt.EqAt A s u v (eqV y x) := by
  cases y with
  | non =>
    cases ry
    cases x with
    | non => cases rx; exact SeqAt.EqAt.same _
    | bl b => cases rx; exact SeqAt.EqAt.none_bool b
    | int b => obtain ⟨t, rfl⟩ := rx; exact SeqAt.EqAt.none_int b t
    | str b => obtain ⟨t, rfl⟩ := rx; exact SeqAt.EqAt.none_str b t
    | _ => exact absurd (show false = true from fx) Bool.false_ne_true
  | bl a =>
    cases ry
    cases x with
    | non => cases rx; exact SeqAt.EqAt.bool_none a
    | bl b => cases rx; exact SeqAt.EqAt.bool_bool a b
    | int b => obtain ⟨t, rfl⟩ := rx; exact SeqAt.EqAt.bool_int a b t
    | str b => obtain ⟨t, rfl⟩ := rx; exact SeqAt.EqAt.bool_str a b t
    | _ => exact absurd (show false = true from fx) Bool.false_ne_true
  | int a =>
    obtain ⟨t', rfl⟩ := ry
    cases x with
    | non => cases rx; exact SeqAt.EqAt.int_none a t'
    | bl b => cases rx; exact SeqAt.EqAt.int_bool a t' b
    | int b => obtain ⟨t, rfl⟩ := rx; exact SeqAt.EqAt.int_int a t' b t
    | str b => obtain ⟨t, rfl⟩ := rx; exact SeqAt.EqAt.int_str a t' b t
    | _ => exact absurd (show false = true from fx) Bool.false_ne_true
  | str a =>
    obtain ⟨t', rfl⟩ := ry
    cases x with
    | non => cases rx; exact SeqAt.EqAt.str_none a t'
    | bl b => cases rx; exact SeqAt.EqAt.str_bool a t' b
    | int b => obtain ⟨t, rfl⟩ := rx; exact SeqAt.EqAt.str_int a t' b t
    | str b => obtain ⟨t, rfl⟩ := rx; exact SeqAt.EqAt.str_str a t' b t
    | _ => exact absurd (show false = true from fx) Bool.false_ne_true
  | _ => exact absurd (show false = true from fy) Bool.false_ne_true
/-- the items' answers, read off the values (a value's own answer does not lean on its token) -/
def eqU (x : V) (u : Value) : Bool := match u with
  | .none => eqV .non x
  | .bool b => eqV (.bl b) x
  | .int i _ => eqV (.int i) x
  | .str z _ => eqV (.str z) x
  | _ => false
theorem eqU_of {x y : V} {u : Value} (r : RelV y u) (f : flatV y = true) : eqU x u = eqV y x := by
  cases y with
  | non => cases r; rfl
  | bl b => cases r; rfl
  | int i => obtain ⟨t, rfl⟩ := r; rfl
  | str z => obtain ⟨t, rfl⟩ := r; rfl
  | _ => exact absurd (show false = true from f) Bool.false_ne_true
theorem any_eqU {x : V} : ∀ {xs : List V} {us : List Value}, Vals xs us → xs.all flatV = true → us.any (eqU x) = xs.any fun y => eqV y x
  | _, _, .nil, _ => rfl
  | y :: xs, u :: us, .cons r t, f => by
    rw [List.all_cons, Bool.and_eq_true] at f
    rw [List.any_cons, List.any_cons, eqU_of r f.1, any_eqU t f.2]
theorem mem_eqAt {A : Around} {s : Shared} {x : V} {v : Value} (rx : RelV x v) (fx : flatV x = true) : ∀ {xs : List V} {us : List Value}, Vals xs us → xs.all flatV = true → ∀ u ∈ us, SeqAt.EqAt A s u v (eqU x u)
  | _, _, .nil, _ => fun u hu => by cases hu
  | y :: xs, u :: us, .cons r t, f => fun u' hu => by
    rw [List.all_cons, Bool.and_eq_true] at f
    rcases List.mem_cons.mp hu with rfl | hu
    · rw [eqU_of r f.1]; exact eqAt_V r rx f.1 fx
    · exact mem_eqAt rx fx t f.2 u' hu
def inV (x : V) (xs : List V) : Bool := xs.any fun y => eqV y x
/-- x in a list or tuple of flat items -/
def rIn (K : PySem.W.Frag) (neg : Bool) : R2 := fun x y H Q => ∃ p xs, y = .ref p ∧ (SqL K H p xs ∨ SqT K H p xs) ∧ flatV x = true ∧ xs.all flatV = true ∧ Q (.bl (if neg then !inV x xs else inV x xs)) H
theorem op_in_seq : OpR X (compareOp .In) (rIn X.K false) := by
  intro pins s σ H x y v u Q I rx ry h
  obtain ⟨p, xs, rfl, hq, fx, fs, q⟩ := h
  cases ry
  rcases hq with hq | hq
  · obtain ⟨its, r, pl, hz⟩ := I.list hq
    refine SeqAt.in_listAt (eqU x) pl.isList (fun w hw => mem_eqAt rx fx r fs w (by simpa using hw)) ⟨.bl _, H, I, rfl, ?_⟩
    rw [show its.toArray.any (eqU x) = its.any (eqU x) by simp, any_eqU r fs]
    exact q
  · obtain ⟨its, r, pl, hz⟩ := I.tuple hq
    refine SeqAt.in_tupleAt (eqU x) pl (fun w hw => mem_eqAt rx fx r fs w (by simpa using hw)) ⟨.bl _, H, I, rfl, ?_⟩
    rw [show its.toArray.any (eqU x) = its.any (eqU x) by simp, any_eqU r fs]
    exact q
/-! ### len, list(x), tuple(x) of any list or tuple that is read -/
theorem call_len_seq : CallR X (.builtin "len") (fun xs H Q => ∃ p ys, xs = [.ref p] ∧ (SqL X.K H p ys ∨ SqT X.K H p ys) ∧ Q (.int ys.length) H) := by
  intro pins s σ H xs us Q I r h
  obtain ⟨p, ys, rfl, hq, q⟩ := h
  obtain ⟨u, rfl, rx⟩ := vals1 r
  cases rx
  have hn := line63
  rcases hq with hq | hq
  · obtain ⟨its, r', pl, hz⟩ := I.list hq
    have hlen := r'.length
    exact Calls.call_len_list pl.isList (by simp only [List.size_toArray] <;> omega) ⟨.int ys.length, H, I.tok _, ⟨s.toks + 1, by rw [List.size_toArray, hlen]⟩, q⟩
  · obtain ⟨its, r', pl, hz⟩ := I.tuple hq
    have hlen := r'.length
    exact len_tuple pl (by simp only [List.size_toArray] <;> omega) ⟨.int ys.length, H, I.tok _, ⟨s.toks + 1, by rw [List.size_toArray, hlen]⟩, q⟩
theorem call_len_str : CallR X (.builtin "len") (fun xs H Q => ∃ z, xs = [.str z] ∧ z.length ≤ sizeLine ∧ Q (.int z.length) H) := by
  intro pins s σ H xs us Q I r h
  obtain ⟨z, rfl, hz, q⟩ := h
  obtain ⟨u, rfl, t, rfl⟩ := vals1 r
  have hn := line63
  exact len_str (by omega) ⟨.int z.length, H, I.tok _, ⟨_, rfl⟩, q⟩
theorem call_tuple_of : CallR X (.type "tuple") (fun xs H Q => ∃ p ys, xs = [.ref p] ∧ ((SqL X.K H p ys ∧ ∀ l, H l = none → Q (.ref l) (upd H l (.tup ys))) ∨ (SqT X.K H p ys ∧ Q (.ref p) H))) := by
  intro pins s σ H xs us Q I r h
  obtain ⟨p, ys, rfl, h⟩ := h
  obtain ⟨u, rfl, rx⟩ := vals1 r
  cases rx
  rcases h with ⟨hq, q⟩ | ⟨hq, q⟩
  · obtain ⟨its, r', pl, hz⟩ := I.list hq
    have hlen := r'.length
    refine call_tuple_list pl.isList (fun h' kp => ?_) (by simp only [List.size_toArray] <;> omega)
    have I1 : Inv X pins σ H { s with heap := h' } := I.kept (t' := s.toks) kp
    have I2 : Inv X pins σ (upd H h'.objs.size (.tup ys)) { s with heap := h'.push { cls := .type "tuple", data := .seq its.toArray } } :=
      I1.laid (t' := s.toks) (fun b o e => Heap.get?_push_of_some _ e) (Nat.le_refl _) (show ObjOk X.prog X.w _ _ _ (.tup ys) from ⟨hz, its, r', IsTup.new _ _⟩)
    exact ⟨.ref h'.objs.size, _, I2, rfl, q _ (I1.hok.fresh (Nat.le_refl _))⟩
  · obtain ⟨its, r', pl, hz⟩ := I.tuple hq
    exact call_tuple_same pl ⟨.ref p, H, I, rfl, q⟩

/-! ### the call of a builtin's method: o.m(..) -/
/-- the value is of that builtin type -/
def tyV (K : PySem.W.Frag) (T : String) (x : V) (H : Hp) : Prop := match x with
  | .str _ => T = "str"
  | .int _ => T = "int"
  | .ref p => (T = "list" ∧ ∃ xs, SqL K H p xs) ∨ (T = "tuple" ∧ ∃ o, K.lookup p = some o ∧ o.cls = .type "tuple" ∧ o.dict = none) ∨
      (T = "dict" ∧ ((∃ kvs, H p = some (.dK kvs)) ∨ ∃ kvs, H p = some (.dT kvs))) ∨ (T = "set" ∧ ∃ S n, H p = some (.set S n))
  | _ => False
theorem tyV_is {pins : List (Addr × Obj)} {σ : St} {H : Hp} {s : Shared} {T : String} {x : V} {v : Value} (I : Inv X pins σ H s) (r : RelV x v) (ty : tyV X.K T x H) :
    s.TypeIs v T ∧ ∀ a, v = .ref a → ∃ ob, s.heap.get? a = some ob ∧ ob.dict = none := by
  cases x with
  | str z =>
    obtain ⟨t, rfl⟩ := r
    cases (show T = "str" from ty)
    exact ⟨typeIs_str s z t, fun _ e => nomatch e⟩
  | int i =>
    obtain ⟨t, rfl⟩ := r
    cases (show T = "int" from ty)
    exact ⟨typeIs_int s i t, fun _ e => nomatch e⟩
  | ref p =>
    cases r
    rcases ty with ⟨rfl, xs, hq⟩ | ⟨rfl, o, hk, hc, hd⟩ | ⟨rfl, hk⟩ | ⟨rfl, S, n, hk⟩
    · obtain ⟨its, _, pl, _⟩ := I.list hq
      refine ⟨pl.isList.typeIs, fun a e => ?_⟩
      cases e
      obtain ⟨o, n, e, c, hd, _⟩ := pl
      exact ⟨o, e, hd⟩
    · refine ⟨⟨o, I.kIn p o hk, hc⟩, fun a e => ?_⟩
      cases e
      exact ⟨o, I.kIn _ o hk, hd⟩
    · have z : ∃ o, s.heap.get? p = some o ∧ o.ExactDict := by
        rcases hk with ⟨kvs, hk⟩ | ⟨kvs, hk⟩
        · obtain ⟨_, _, _, _, o, _, _, e, ex, _⟩ := I.hok p _ hk
          exact ⟨o, e, ex⟩
        · obtain ⟨_, _, _, _, o, _, _, e, ex, _⟩ := I.hok p _ hk
          exact ⟨o, e, ex⟩
      obtain ⟨o, e, ex⟩ := z
      refine ⟨⟨o, e, ex.1⟩, fun a e2 => ?_⟩
      cases e2
      exact ⟨o, e, ex.2.1⟩
    · obtain ⟨o, _, _, _, e, ex, _⟩ := I.hok p _ hk
      refine ⟨⟨o, e, ex.1⟩, fun a e2 => ?_⟩
      cases e2
      exact ⟨o, e, ex.2.1⟩
  | _ => exact False.elim ty
def tBM0 (K : PySem.W.Frag) (T : String) (r : V → List V → Hp → VK → Prop) (to : TE) : TE := fun σ H Q => to σ H fun x H1 => tyV K T x H1 ∧ r x [] H1 Q
def tBM (K : PySem.W.Frag) (T : String) (r : V → List V → Hp → VK → Prop) (to : TE) (t : TA) : TE := fun σ H Q => to σ H fun x H1 => tyV K T x H1 ∧ t σ H1 fun xs H2 => r x xs H2 Q
variable {o e : Expr} {es : List Expr} {to : TE} {t : TA} {name : Str} {apos cpos : Pos} {T id : String} {r : V → List V → Hp → VK → Prop}
theorem pe_bm0 (pa : PlainAttrs T) (slot : Slot T name id) (hty : typeOf (.builtin id) = pure (.type "method_descriptor")) (hm : MtR X id r) (ho : PE X o to)
    (hbase : attributeBase o name X.env (eval o X.env) = eval o X.env := by rfl) (hline : (apos.endLine == cpos.line) = true := by rfl) : PE X (.Call (.Attribute o name apos) [] [] cpos) (tBM0 X.K T r to) := by
  intro pins s σ H Q I h
  refine wpAny_Call_method0_late hbase hline (thn (ho pins s σ H _ I h) fun v s1 ⟨x, H1, I1, r1, ty, q1⟩ => ?_)
  obtain ⟨h1, h2⟩ := tyV_is I1 r1 ty
  exact ⟨T, id, pa, slot, hty, h1, h2, Calls.callWith_builtin rfl (PySem.evalArgs_none (hm pins s1 σ H1 x [] v [] Q I1 r1 .nil q1))⟩
theorem pe_bm (pa : PlainAttrs T) (slot : Slot T name id) (hty : typeOf (.builtin id) = pure (.type "method_descriptor")) (hm : MtR X id r) (ho : PE X o to) (ha : PA X (e :: es) t)
    (hbase : attributeBase o name X.env (eval o X.env) = eval o X.env := by rfl)
    (hfew : ((backTo cpos (starEach (e :: es) X.env)).all (fun x => !x.1) && (backToKw cpos (keywordEach [] X.env)).all (fun x => x.1.isSome)
      && decide ((e :: es).length + ([] : List Keyword).length + (if ([] : List Keyword).isEmpty then 0 else 1) < 30)) = true := by rfl)
    (hline : (apos.endLine == cpos.line) = true := by rfl) (hs : starEach (e :: es) X.env = (false, eval e X.env) :: starEach es X.env := by rfl) (hplain : (backTo cpos (starEach es X.env)).any (·.1) = false := by rfl) :
    PE X (.Call (.Attribute o name apos) (e :: es) [] cpos) (tBM X.K T r to t) := by
  intro pins s σ H Q I h
  refine wpAny_Call_method_late hbase hfew hline rfl (thn (ho pins s σ H _ I h) fun v s1 ⟨x, H1, I1, r1, ty, q1⟩ => ?_)
  obtain ⟨h1, h2⟩ := tyV_is I1 r1 ty
  refine ⟨T, id, pa, slot, hty, h1, h2, ?_⟩
  have hA := ha cpos pins s1 σ H1 _ I1 q1
  rw [hs] at hA ⊢
  refine Calls.callWith_builtin (by show (false || (backTo cpos (starEach es X.env)).any (·.1)) = false; rw [hplain] <;> rfl) (Calls.evalArgs_plain ?_)
  exact thn hA fun us s2 ⟨vs, H2, I2, r2, q2⟩ => hm pins s2 σ H2 x vs v us Q I2 r1 r2 q2
/- xs.append(e), list.index on a module's tuple .. are MtR facts of 06m -/
end
end L2

namespace L2
open PySem PySem.Spec PyProof.Rows

def MtM (X : Cx) (id : String) (r : V → List V → Hp → VK → Prop) : Prop :=
  ∀ (pins : List (Addr × Obj)) (s : Shared) (σ : St) (H : Hp) (x : V) (xs : List V) (v : Value) (us : List Value) (Q : VK), Inv X pins σ H s → RelV x v → Vals xs us → r x xs H Q →
    wpAny (model X.prog X.w) X.A (call (.builtin id) (v :: us)) (EP X pins σ Q) X.xe s

/-! ### lists of values -/
theorem Vals.one : ∀ {x : V} {us : List Value}, Vals [x] us → ∃ u, us = [u] ∧ RelV x u
  | _, _, .cons r .nil => ⟨_, rfl, r⟩
theorem Vals.zero : ∀ {us : List Value}, Vals [] us → us = []
  | _, .nil => rfl
theorem Vals.dropLast {xs : List V} {us : List Value} (h : Vals xs us) : Vals xs.dropLast us.dropLast := by
  induction h with
  | nil => exact .nil
  | cons r t ih =>
    cases t with
    | nil => exact .nil
    | cons q t' => exact .cons r ih
theorem erase_last {α : Type} (l : List α) : l.eraseIdx (l.length - 1) = l.dropLast := by
  induction l with
  | nil => rfl
  | cons a r ih =>
    cases r with
    | nil => rfl
    | cons b r =>
      have e : (a :: b :: r).length - 1 = ((b :: r).length - 1) + 1 := by
        have h1 : (a :: b :: r).length = r.length + 2 := rfl
        have h2 : (b :: r).length = r.length + 1 := rfl
        omega
      rw [e, List.eraseIdx_cons_succ, ih]
      all_goals rfl
section
variable {X : Cx} {pins : List (Addr × Obj)} {σ : St} {H : Hp} {s : Shared} {l b : Addr} {xs ys zs : List V}

/-! ### the two steps: a tracked list is rewritten, a new list is laid -/
theorem Inv.lset {its its' : List Value} {n : Nat} {f : Array Value → Array Value} {t' : Nat} (I : Inv X pins σ H s) (hH : H l = some (.lst xs))
    (e : s.heap.get? l = some { cls := .type "list", data := .seq its.toArray n }) (hf : f its.toArray = its'.toArray) (hv : Vals ys its') (hz : ys.length ≤ sizeLine) :
    Inv X pins σ (upd H l (.lst ys)) { s with heap := s.heap.update l (Obj.mapSeq f), toks := t' } := by
  have q := PySem.IsL.update e f
  rw [hf] at q
  refine I.write (x := l) (e := l) (by rw [hH]; exact trivial) (.inl rfl) (fun b' u hb hu => (Heap.get?_update_other s.heap (Obj.mapSeq f) (Ne.symm hb)).trans hu) ⟨_, q⟩ ?_
  exact ⟨hz, its', _, hv, q⟩
theorem Inv.lnew {its : List Value} {t' : Nat} (I : Inv X pins σ H s) (hv : Vals ys its) (hz : ys.length ≤ sizeLine) :
    Inv X pins σ (upd H s.heap.objs.size (.lst ys)) { s with heap := s.heap.push { cls := .type "list", data := .seq its.toArray }, toks := t' } :=
  I.laid (fun _ _ q => Heap.get?_push_of_some _ q) (Nat.le_refl _) ⟨hz, its, 0, hv, Heap.get?_push_size _ rfl⟩
theorem Inv.fresh (I : Inv X pins σ H s) : H s.heap.objs.size = none := I.hok.fresh (Nat.le_refl _)
theorem Inv.lstM (I : Inv X pins σ H s) (hH : H l = some (.lst xs)) : xs.length ≤ sizeLine ∧ ∃ (its : List Value) (n : Nat), Vals xs its ∧ xs.length = its.length ∧ s.heap.get? l = some { cls := .type "list", data := .seq its.toArray n } := by
  obtain ⟨z, its, n, r, e⟩ := I.hok l _ hH
  exact ⟨z, its, n, r, r.length, e⟩

end

section
variable {X : Cx}

/-! ### methods -/
def rAppend : V → List V → Hp → VK → Prop := fun x vs H Q => ∃ l xs y, x = .ref l ∧ vs = [y] ∧ H l = some (.lst xs) ∧ xs.length < sizeLine ∧ Q .non (upd H l (.lst (xs ++ [y])))
theorem mt_append : MtM X "list.append" rAppend := by
  intro pins s σ H x vs v us Q I rx rv h
  obtain ⟨l, xs, y, rfl, rfl, hH, hz, q⟩ := h
  cases rx
  obtain ⟨u, rfl, ru⟩ := rv.one
  obtain ⟨z, its, n, r, hl, e⟩ := I.lstM hH
  refine call_meets F.slot_list_append ⟨_, e, rfl⟩ F.entry_list_append (F.args_list_append_2 _ _) (PySem.list_append l its.toArray n u (by rw [List.size_toArray]; omega)) ⟨e, ?_⟩
  refine ⟨.non, _, I.lset (its' := its ++ [u]) hH e (by simp) (r.append (.cons ru .nil)) ?_, rfl, q⟩
  rw [List.length_append, List.length_singleton]
  omega

def rExtend : V → List V → Hp → VK → Prop := fun x vs H Q => ∃ l b xs zs, x = .ref l ∧ vs = [.ref b] ∧ H l = some (.lst xs) ∧ H b = some (.lst zs) ∧ xs.length + zs.length ≤ sizeLine ∧ Q .non (upd H l (.lst (xs ++ zs)))
def rPop : V → List V → Hp → VK → Prop := fun x vs H Q => ∃ l xs y, x = .ref l ∧ vs = [] ∧ H l = some (.lst xs) ∧ xs[xs.length - 1]? = some y ∧ Q y (upd H l (.lst xs.dropLast))
theorem mt_pop : MtM X "list.pop" rPop := by
  intro pins s σ H x vs v us Q I rx rv h
  obtain ⟨l, xs, y, rfl, rfl, hH, hy, q⟩ := h
  cases rx
  have hus := rv.zero
  subst hus
  obtain ⟨z, its, n, r, hl, e⟩ := I.lstM hH
  obtain ⟨u, hu, ru⟩ := r.get hy
  have hy' : its.toArray[its.toArray.size - 1]? = some u := by
    show its.toArray[its.length - 1]? = some u
    rw [← Array.getElem?_toList, ← hl]
    exact hu
  refine call_meets F.slot_list_pop ⟨_, e, rfl⟩ F.entry_list_pop (F.args_list_pop_1 _) (MeetsSeq.list_pop_last l its.toArray n u hy' (by rw [List.size_toArray]; omega)) ⟨e, ?_⟩
  refine ⟨y, _, I.lset (its' := its.dropLast) hH e ?_ r.dropLast ?_, ru, q⟩
  · show its.toArray.eraseIdxIfInBounds (its.toArray.size - 1) = its.dropLast.toArray
    rw [List.size_toArray, List.eraseIdxIfInBounds_toArray, erase_last]
  · rw [List.length_dropLast]
    omega

def rPopAt : V → List V → Hp → VK → Prop := fun x vs H Q => ∃ l xs i k y, x = .ref l ∧ vs = [.int i] ∧ H l = some (.lst xs) ∧ -(2 ^ 63) ≤ i ∧ i < 2 ^ 63 ∧ seqIndex? i xs.length = some k ∧ xs[k]? = some y ∧ Q y (upd H l (.lst (xs.eraseIdx k)))
def rReverse : V → List V → Hp → VK → Prop := fun x vs H Q => ∃ l xs, x = .ref l ∧ vs = [] ∧ H l = some (.lst xs) ∧ Q .non (upd H l (.lst xs.reverse))
def rClear : V → List V → Hp → VK → Prop := fun x vs H Q => ∃ l xs, x = .ref l ∧ vs = [] ∧ H l = some (.lst xs) ∧ Q .non (upd H l (.lst []))
/-! ### list + list, list += list, list * int -/
def rCat : R2 := fun x y H Q => ∃ l b xs zs, x = .ref l ∧ y = .ref b ∧ H l = some (.lst xs) ∧ H b = some (.lst zs) ∧ xs.length + zs.length ≤ sizeLine ∧ ∀ p, H p = none → Q (.ref p) (upd H p (.lst (xs ++ zs)))
theorem op_cat : OpR X (binaryOp .Add) rCat := by
  intro pins s σ H x y v u Q I rx ry h
  obtain ⟨l, b, xs, zs, rfl, rfl, hH, hB, hz, q⟩ := h
  cases rx
  cases ry
  obtain ⟨z, its, n, r, hl, e⟩ := I.lstM hH
  obtain ⟨z2, its2, n2, r2, hl2, e2⟩ := I.lstM hB
  refine PySem.P.add_list e e2 ?_ (by rw [List.size_toArray, List.size_toArray]; omega)
  have ea : its.toArray ++ its2.toArray = (its ++ its2).toArray := by simp
  rw [ea]
  exact ⟨.ref _, _, I.lnew (t' := s.toks) (r.append r2) (by rw [List.length_append]; omega), rfl, q _ I.fresh⟩
/-- a list times an int (a negative one is nothing) -/
def rRep : R2 := fun x y H Q => ∃ l k xs, x = .ref l ∧ y = .int k ∧ H l = some (.lst xs) ∧ -(2 ^ 63) ≤ k ∧ k < 2 ^ 63 ∧ xs.length * k.toNat ≤ sizeLine ∧
  ∀ p, H p = none → Q (.ref p) (upd H p (.lst (List.replicate k.toNat xs).flatten))
/-! ### del xs[i] -/
end

/-! ### xs[a:b] = ys -/
section
variable {prog : Program} {w : World} {A : Around} {E : Value → Shared → Prop} {s : Shared}
set_option maxRecDepth 100000 in
end

section
variable {X : Cx}
end
end L2

namespace Att
open PySem PySem.W PySem.Calls PyProof.Rows

/-! ### the script -/
theorem ints_of_wellAll {P : Params} {h : Heap} : ∀ (ns : List Int) (vs : List Value), WellAll P h vs (ns.map WData.int) → IntsAre vs ns := by
  intro ns
  induction ns with
  | nil =>
    intro vs w
    rw [List.map_nil] at w
    cases w
    exact .nil
  | cons n ns ih =>
    intro vs w
    rw [List.map_cons] at w
    cases w with
    | cons a b =>
      cases a
      exact .cons _ _ (ih _ b)

theorem script_of {l : OpenLaw} {n : Nat} (hn : l.most = some n) {P : Params} {h : Heap} {args : List WData} {vals : List Value}
    (hpre : l.row.toRowW.claim.pre args = true) (hwl : WellAll P h vals args) :
    ∃ a vs ns, vals = [Value.ref a] ∧ args = [WData.list (ns.map WData.int)] ∧ h.get? a = some { cls := .type "list", data := .seq vs.toArray } ∧ IntsAre vs ns ∧ ns.length ≤ n := by
  have hsh : WShape.hasAll [] args [.list .int] = true := (pre_splitW hpre).1
  have hc : l.pre.holds [] { args := args } = true := (pre_splitW hpre).2
  obtain ⟨d, r, rfl, h1, h2⟩ := hasAllW_cons hsh
  obtain rfl := hasAllW_nil h2
  obtain ⟨xs, rfl, h3⟩ := hasW_list h1
  obtain ⟨ns, rfl⟩ := items_int h3
  have hlen : ns.length ≤ n := by
    unfold OpenLaw.pre at hc
    have h4 : (WTm.not (.lt (.lit (.int (n : Int))) (.len (.arg 0)))).holds [] { args := [.list (ns.map .int)] } = true := by
      have h4 := (holds_andW hc).1
      rw [hn] at h4
      exact h4
    have h5 := condW_of h4 (w_not (w_lt w_lit (w_len_list (w_arg rfl))))
    rw [List.length_map] at h5
    refine Nat.le_of_not_lt fun q => ?_
    have q' : (n : Int) < ((ns.length : Nat) : Int) := by omega
    first
      | (rw [decide_eq_true q'] at h5; exact absurd h5 (by decide))
      | (simp at h5; omega)
  cases hwl with
  | cons w1 w2 =>
    cases w2
    cases w1 with
    | list ho hall => exact ⟨_, _, ns, rfl, rfl, ho, ints_of_wellAll ns _ hall, hlen⟩

theorem post_true (l : OpenLaw) (args : List WData) : l.row.toRowW.claim.post args (.bool true) args = true :=
  postW_of (r := l.row.toRowW) (X := (true == true))
    (show WShape.has [] (.bool true) .bool = true by first | rfl | decide | simp [WShape.has, WShape.arms, WShape.armsAll])
    (show (WTm.eq .res (.lit (.bool true))).value [] { args := args, res := some (.bool true), after := args } = some (.bool (true == true)) from w_eq_bool (w_res rfl) w_lit) rfl

/-! ### the attachment: holds_open's last premise (the goal 'hc' behind k_head) from a wpAny of the law's body -/
/-- the same from a codeAny of the CALL (for a layer whose function contracts speak of calls) -/
theorem attach_call {l : OpenLaw} {n : Nat} {q : Program} {loose : List Str} {XP : (Str → Option Value) → Heap → Prop} {YP : World → Heap → Prop} {d : DefRec}
    (hn : l.most = some n) (hdf : d.params.defaults = [])
    (call : ∀ (w : World) (s₀ s₁ : Shared) (mg mb : Str → Option Value) (fa : Addr) (o : Obj) (pm cd doc : Value) (a : Addr) (vs : List Value) (ns : List Int),
      Ground q loose [] XP w s₀ mg mb s₁.heap → YP w s₁.heap →
      s₁.heap.get? fa = some o → o.data = .func (docDef d.name d.params d.body d.scope pm cd doc) → s₁.heap.CodeRec cd d.name → mg d.name = some (.ref fa) →
      s₁.heap.get? a = some { cls := .type "list", data := .seq vs.toArray } → IntsAre vs ns → ns.length ≤ n → s₁.gens = #[] →
      codeAny (model l.prog w) callerA (.call (.ref fa) ⟨[.ref a], []⟩) (fun r s' => r = .ok (.ret (.bool true)) ∧ OldK s₁.heap s'.heap ∧ s'.os = s₁.os ∧ AllBare s'.gens) s₁) :
    WalkO q loose XP YP l.row.toRowW d [] (fun f vs => PySem.call f vs) := by
  intro w s₀ s₁ mg mb G Y fa o pm cd doc dV kV ho hd hcd hD hmg hg args vals as hpre hlay hrd hwl hlo
  obtain rfl : dV = .none := Dflts.none hD hdf
  obtain rfl : kV = .none := Dflts.noKw hD
  obtain ⟨a, vs, ns, rfl, rfl, hobj, hints, hlen⟩ := script_of hn hpre hwl
  refine enter_call (codeAny_mono (call w s₀ s₁ mg mb fa o pm cd doc a vs ns G Y ho (fd_plain hd) hcd hmg hobj hints hlen hg) fun r s' hq => ?_)
  obtain ⟨rfl, h2, h3, h4⟩ := hq
  exact ⟨.inl ⟨.bool true, .bool true, [], rfl, fun _ => rfl, .bool true, post_true l _, fun _ => ⟨List.Pairwise.nil, fun _ hm => (nomatch hm)⟩⟩, h2, h3, h4⟩

/-! ### rules over ANY heap (no ledger) from facts about the written part K: the library's own take a ledger (News) for what they write -/
section
variable {prog : Program} {w : World} {A : Around} {E : Value → Shared → Prop} {s : Shared} {K : Frag}

/-! the whole heap as the ledger: makes every rule that writes through a ledger a rule over any heap -/
def noObjs (h : Heap) : Heap := { h with objs := #[] }
def ledger (h : Heap) (L d : Addr) : List (Addr × Obj) := (List.range h.objs.size).filterMap fun a => if a = L ∨ a = d then none else (h.get? a).map fun o => (a, o)
end
end Att

namespace L2
open PySem PySem.Spec PyProof.Rows

theorem vals_ints : ∀ {vs : List Value} {ns : List Int}, IntsAre vs ns → Vals (ns.map V.int) vs
  | _, _, .nil => .nil
  | _, _, .cons n t h => .cons ⟨t, rfl⟩ (vals_ints h)

/-- nothing is tracked but the script, known to the object (or it is an object of the module) -/
def Only (H : Hp) : Prop := ∀ b, H b = none ∨ ∃ o xs, H b = some (.frz o (.lst xs))

/-- THE HEAD: the law's promise, at the heap behind the top. F, the promise of the law's def, may use that base is part of the heap (so K.In base, base.Ns mainGlobals mg stand in Mod) -/
theorem law_call {P : Program} {w : World} {K : PySem.W.Frag} {mg mb : Str → Option Value} {CX : CXT} {k : Nat} {fa a : Addr} {fd : FuncData} {x : Str} {sp : Sp} {s₁ : Shared} {vs : List Value} {ns : List Int}
    (KX : K.In s₁.heap) (hns : s₁.heap.Ns mainGlobals mg) (hb : s₁.heap.Ns builtinsNs mb) (hbb : ∀ x : Str, x ≠ "__name__" → mb x = bootBuiltins x) (hlim : s₁.heap.NoLimit) (hg : s₁.gens = #[])
    (ha : s₁.heap.get? a = some { cls := .type "list", data := .seq vs.toArray }) (hi : IntsAre vs ns) (hl : ns.length ≤ sizeLine) (hr : Room k callerA)
    (F : ∀ base : Heap, K.In base → base.Ns mainGlobals mg → FnOk P w K mg base CX k fa fd [x] sp) (hbind : ∀ (s : Shared) (u : Value), BindsTo s fd ⟨[u], []⟩ [(x, u)])
    (hsp : ∀ H : Hp, Only H → SqL K H a (ns.map V.int) → sp [.ref a] H (fun v _ => v = .bl true) fun _ _ _ => False)
    (hCX : ∀ H e s', CX [] H s₁ (fun _ _ _ => False) e s' → False) :
    codeAny (model P w) callerA (.call (.ref fa) ⟨[.ref a], []⟩) (fun r s' => r = .ok (.ret (.bool true)) ∧ OldK s₁.heap s'.heap ∧ s'.os = s₁.os ∧ AllBare s'.gens) s₁ := by
  have rv := vals_ints hi
  have lenV := hi.length
  -- from an abstract heap in which nothing but the script may be tracked
  have core : ∀ H : Hp, Only H → SqL K H a (ns.map V.int) → HOk P w H s₁.heap → (∀ b, H b ≠ none → b = a) → (H a ≠ none → K.lookup a = none) →
      codeAny (model P w) callerA (.call (.ref fa) ⟨[.ref a], []⟩) (fun r s' => r = .ok (.ret (.bool true)) ∧ OldK s₁.heap s'.heap ∧ s'.os = s₁.os ∧ AllBare s'.gens) s₁ := by
    intro H hO hS hok hA hK
    have base_of : ∀ {b : Addr} {o : Obj}, s₁.heap.get? b = some o → H b = none → (hidT s₁.heap H).get? b = some o := fun e n => hidT_get e n
    have noA : ∀ {b : Addr} {o : Obj} {es : Array DictEntry} {ep : Nat}, s₁.heap.get? b = some o → o.data = .dict es ep → H b = none := fun {b o es ep} e d => by
      cases q : H b with
      | none => rfl
      | some u =>
        have e' : b = a := hA b (by rw [q]; simp)
        subst e'
        rw [ha] at e; cases e
        have d' : Data.seq vs.toArray _ = Data.dict es ep := d
        cases d'
    have nsK : ∀ {b : Addr} {m : Str → Option Value}, s₁.heap.Ns b m → (hidT s₁.heap H).Ns b m := fun {b m} ⟨o, es, ep, e, d, r⟩ => ⟨o, es, ep, base_of e (noA e d), d, r⟩
    have hKb : K.In (hidT s₁.heap H) := fun b o e => base_of (KX b o e) (by
      cases q : H b with
      | none => rfl
      | some u =>
        have e' : b = a := hA b (by rw [q]; simp)
        subst e'
        rw [hK (by rw [q]; simp)] at e; cases e)
    have hM : Mod K mg (hidT s₁.heap H) := ⟨hKb, nsK hns, ⟨mb, nsK hb, hbb⟩, let ⟨mc, h1, h2⟩ := hlim; ⟨mc, nsK h1, h2⟩⟩
    have e0 : Env0 P w K mg (hidT s₁.heap H) callerA [] s₁ H := ⟨rfl, hM, fun b o e => of_hidT e, Nat.le_of_eq (hidT_size _ _), trivial, fun b hb => absurd (show b ∈ ([] : List Addr) from hb) (by simp), hok, .of_eq hg⟩
    refine codeAny_mono ((F _ hKb (nsK hns)).run callerA [] s₁ H ⟨[.ref a], []⟩ [.ref a] [.ref a] _ _ hr e0 (hbind s₁ (.ref a)) (.cons rfl .nil) (hsp H hO hS)) fun r s' h => ?_
    cases r with
    | error e => exact (hCX H e s' h).elim
    | ok fl =>
      cases fl with
      | next => exact False.elim h
      | brk => exact False.elim h
      | cont => exact False.elim h
      | ret u =>
        obtain ⟨v, H', os, bare, un, hok', r', q⟩ := h
        have q' : v = .bl true := q
        subst q'
        obtain rfl : u = Value.bool true := r'
        refine ⟨rfl, OldK.of_keep fun b o e => ?_, os, bare⟩
        cases q : H b with
        | none => exact un.keep b o e q (by intro z; exact absurd (show b ∈ ([] : List Addr) from z) (by simp)) (by simp)
        | some u =>
          rcases hO b with z | ⟨ob, xs, z⟩
          · rw [q] at z; cases z
          · have z2 := un.frzs b ob _ z
            obtain ⟨e1, _⟩ := hok b _ z
            obtain ⟨e2, _⟩ := hok' b _ z2
            rw [e] at e1; cases e1
            exact e2
  cases hk : K.lookup a with
  | some o =>
    -- the script is one of the module's own objects
    have e := KX a o hk
    rw [ha] at e
    cases e
    refine core (fun _ => none) (fun _ => .inl rfl) (.inr ⟨_, vs.toArray, _, hk, rfl, rfl, rfl, by rw [List.size_toArray, lenV]; exact hl, by simpa using rv⟩) (fun b u z => by have z' : (none : Option HO) = some u := z; cases z') (fun b z => absurd rfl z) fun z => absurd rfl z
  | none =>
    refine core (fun b => if b = a then some (.frz { cls := .type "list", data := .seq vs.toArray } (.lst (ns.map V.int))) else none) (fun b => ?_) (.inl (.inr ⟨{ cls := .type "list", data := .seq vs.toArray }, if_pos rfl⟩)) (fun b u z => ?_) (fun b z => ?_) fun _ => hk
    · by_cases hb : b = a
      · exact .inr ⟨_, _, if_pos hb⟩
      · exact .inl (if_neg hb)
    · by_cases hb : b = a
      · have z' := (if_pos hb).symm.trans z
        cases z'
        subst hb
        exact ⟨ha, by rw [List.length_map]; exact hl, vs, _, rv, ha⟩
      · have z' := (if_neg hb).symm.trans z
        cases z'
    · by_cases hb : b = a
      · exact hb
      · exact absurd (if_neg hb) z
end L2

namespace L2
open PySem PySem.Spec PyProof.Rows

abbrev KOf {K : PySem.W.Frag} {h : Heap} (_ : K.In h) : PySem.W.Frag := K

/-- the goal that k_head leaves (case hc), from the law's promise. F gives the function object fd (K's own) once, then the promise over every base -/
theorem walk_of {l : PySem.W.OpenLaw} {n k : Nat} {q : Program} {loose : List Str} {XP : (Str → Option Value) → Heap → Prop} {YP : World → Heap → Prop} {d : DefRec} {K : Params → PySem.W.Frag} {CX : World → CXT} {sp : World → Sp} {x : Str}
    (hn : l.most = some n) (hn2 : n ≤ sizeLine) (hdf : d.params.defaults = []) (hr : Room k callerA)
    (hY : ∀ (w : World) (h : Heap), YP w h → (K w.params).In h)
    (F : ∀ (w : World) (mg : Str → Option Value) (fa : Addr) (h : Heap), (K w.params).In h → h.Ns mainGlobals mg → mg d.name = some (.ref fa) →
      ∃ fd : FuncData, (∀ (s : Shared) (u : Value), BindsTo s fd ⟨[u], []⟩ [(x, u)]) ∧
        ∀ base : Heap, (K w.params).In base → base.Ns mainGlobals mg → FnOk l.prog w (K w.params) mg base (CX w) k fa fd [x] (sp w))
    (hsp : ∀ (w : World) (H : Hp) (a : Addr) (ns : List Int), ns.length ≤ n → Only H → SqL (K w.params) H a (ns.map V.int) → sp w [.ref a] H (fun v _ => v = .bl true) fun _ _ _ => False)
    (hCX : ∀ (w : World) (H : Hp) (s : Shared) (e : Value) (s' : Shared), CX w [] H s (fun _ _ _ => False) e s' → False) :
    PySem.W.WalkO q loose XP YP l.row.toRowW d [] (fun f vs => PySem.call f vs) := by
  refine Att.attach_call hn hdf fun w s₀ s₁ mg mb fa o pm cd doc a vs ns G Y ho hd hcd hmg hobj hints hlen hg => ?_
  have KX := hY w _ Y
  obtain ⟨fd, hb, hF⟩ := F w mg fa _ KX G.T.g hmg
  exact law_call KX G.T.g G.T.b G.T.builtins G.T.nolimit hg hobj hints (Nat.le_trans hlen hn2) hr hF hb (fun H hO hS => hsp w H a ns hlen hO hS) fun H e s' => hCX w H s₁ e s'
/-- the same where the promise hangs on the written part alone: (sp := My.sp_law), no hole under a binder -/
theorem walk_ofK {l : PySem.W.OpenLaw} {n k : Nat} {q : Program} {loose : List Str} {XP : (Str → Option Value) → Heap → Prop} {YP : World → Heap → Prop} {d : DefRec} {K : Params → PySem.W.Frag} {CX : CXT} {sp : PySem.W.Frag → Sp} {x : Str}
    (hn : l.most = some n) (hn2 : n ≤ sizeLine) (hdf : d.params.defaults = []) (hr : Room k callerA)
    (hY : ∀ (w : World) (h : Heap), YP w h → (K w.params).In h)
    (F : ∀ (w : World) (mg : Str → Option Value) (fa : Addr) (h : Heap), (K w.params).In h → h.Ns mainGlobals mg → mg d.name = some (.ref fa) →
      ∃ fd : FuncData, (∀ (s : Shared) (u : Value), BindsTo s fd ⟨[u], []⟩ [(x, u)]) ∧
        ∀ base : Heap, (K w.params).In base → base.Ns mainGlobals mg → FnOk l.prog w (K w.params) mg base CX k fa fd [x] (sp (K w.params)))
    (hsp : ∀ (K : PySem.W.Frag) (H : Hp) (a : Addr) (ns : List Int), ns.length ≤ n → Only H → SqL K H a (ns.map V.int) → sp K [.ref a] H (fun v _ => v = .bl true) fun _ _ _ => False)
    (hCX : ∀ (H : Hp) (s : Shared) (e : Value) (s' : Shared), CX [] H s (fun _ _ _ => False) e s' → False) :
    PySem.W.WalkO q loose XP YP l.row.toRowW d [] (fun f vs => PySem.call f vs) :=
  walk_of (K := K) (CX := fun _ => CX) (sp := fun w => sp (K w.params)) hn hn2 hdf hr hY F (fun w H a ns h1 h2 h3 => hsp (K w.params) H a ns h1 h2 h3) fun _ H s e s' => hCX H s e s'
end L2


/-! SHORT WORDS over the layer: a def of the text, its body, what a loop and a test want. -/
namespace L2
open PySem PySem.Spec PyProof.Rows

/-! ### the text by places -/
/-- the j-th statement of a class's body -/
def inClass (s : Stmt) (j : Nat) : Stmt := match s with
  | .ClassDef _ _ _ body _ _ _ _ _ _ _ => body.getD j (.Pass ⟨0, 0, 0, 0⟩)
  | _ => .Pass ⟨0, 0, 0, 0⟩
def defArgs (s : Stmt) : Arguments := match s with
  | .FunctionDef _ a _ _ _ _ _ _ _ _ => a
  | _ => { posonlyargs := [], args := [], vararg := none, kwonlyargs := [], kw_defaults := [], kwarg := none, defaults := [] }
def defBody (s : Stmt) : List Stmt := match s with
  | .FunctionDef _ _ b _ _ _ _ _ _ _ => b
  | _ => []
def defScope (s : Stmt) : Scope := match s with
  | .FunctionDef _ _ _ _ _ _ sc _ _ _ => sc
  | _ => { kind := .function, names := [], isGenerator := false, isCoroutine := false }

/-! ### no exception leaves a def -/
abbrev CX0 : CXT := fun _ _ _ _ _ _ => False
abbrev E0 : XK := fun _ _ _ => False
theorem pass0 {X : Cx} : Passes CX0 X E0 := fun _ _ _ _ _ _ _ h => h.elim

/-! ### a def (or method) of the text as it stands behind the top -/
structure Fun (K : PySem.W.Frag) (x qual : Str) (st : Stmt) (f : Addr) (fd : FuncData) : Prop where
  ex : ∃ (oc : Value) (od : Option Addr) (kV doc pm : Value) (an : Option Addr) (cdv ct : Value) (osl : Array (Option Value)),
    fd = PySem.W.fnOf x qual (defArgs st) (defBody st) (defScope st) .none kV doc pm an cdv ct ∧ K.lookup f = some ⟨oc, od, .func fd, osl⟩ ∧ PySem.W.codeIn K cdv qual = true
  kp : PySem.W.keepIn K (.ref f) = true
section
variable {P : Program} {w : World} {K : PySem.W.Frag} {mg : Str → Option Value} {base : Heap}
/-- THE RULE for a def: its body as a term of rules, and the reading of that term -/
theorem Fun.ok {x qual : Str} {st : Stmt} {f : Addr} {fd : FuncData} {N ps : List Str} {k : Nat} {sp : Sp} (F : Fun K x qual st f fd) (S : FnScope N ps (defScope st)) (len : ∀ vs H Q E, sp vs H Q E → vs.length = ps.length)
    (hbody : ∀ (cdv : Value) (A : Around) (outer : List Env) (s : Shared) (H : Hp) (vs : List V) (Q : VK) (E : XK), Room k (A.deeper (envOfC qual (defScope st) s.heap.objs.size f cdv)) → sp vs H Q E →
      ∃ t, PSs (cxOf CX0 P w K mg base N qual (defScope st) f cdv A outer s H E).nox (defBody st) t ∧ t { nx := fun _ H' => Q .non H', rt := Q } (start N vs) H) : FnOk P w K mg base CX0 (k + 1) f fd ps sp := by
  obtain ⟨oc, od, kV, doc, pm, an, cdv, ct, osl, rfl, lk, hcd⟩ := F.ex
  refine fn_of lk hcd S len fun A outer s H vs Q E hr hsp => ?_
  obtain ⟨t, h, q⟩ := hbody cdv A outer s H vs Q E hr hsp
  exact ⟨t, h.nox, q⟩
/-- how its arguments bind (no defaults): h is «fun _ _ _ _ _ _ us hl => match us, hl with | [_, _], _ => rfl», one _ a parameter -/
theorem Fun.binds {x qual : Str} {st : Stmt} {f : Addr} {fd : FuncData} {ps : List Str} (F : Fun K x qual st f fd)
    (h : ∀ (kV doc pm : Value) (an : Option Addr) (cdv ct : Value) (us : List Value), us.length = ps.length → bindArgs (PySem.W.fnOf x qual (defArgs st) (defBody st) (defScope st) .none kV doc pm an cdv ct) ⟨us, []⟩ = pure (ps.zip us)) : Binds K fd ps [] := by
  obtain ⟨oc, od, kV, doc, pm, an, cdv, ct, osl, rfl, lk, hcd⟩ := F.ex
  exact .all (h kV doc pm an cdv ct)
theorem fun_mk {x qual : Str} {st : Stmt} {f : Addr} {oc : Value} {od an : Option Addr} {osl : Array (Option Value)} {kV doc pm cdv ct : Value} (l : K.lookup f = some ⟨oc, od, .func (PySem.W.fnOf x qual (defArgs st) (defBody st) (defScope st) .none kV doc pm an cdv ct), osl⟩)
    (c : PySem.W.codeIn K cdv qual = true) (k : PySem.W.keepIn K (.ref f) = true) : Fun K x qual st f (PySem.W.fnOf x qual (defArgs st) (defBody st) (defScope st) .none kV doc pm an cdv ct) := ⟨⟨oc, od, kV, doc, pm, an, cdv, ct, osl, rfl, l, c⟩, k⟩
end
theorem small1000 {n : Nat} (h : n ≤ 1000) : n < sizeLine := Nat.lt_of_le_of_lt h (by decide)

/-! ### expressions in short: the name that stands in the i-th slot -/
section
variable {X : Cx}
end

/-! ### tests -/
theorem iteF {A B : Prop} (h : B) : if false = true then A else B := by
  rw [if_neg Bool.false_ne_true]
  exact h
theorem iteT {A B : Prop} (h : A) : if true = true then A else B := by
  rw [if_pos rfl]
  exact h
theorem ite2 {c A B : Prop} [Decidable c] (h1 : c → A) (h2 : ¬ c → B) : if c then A else B := by
  by_cases h : c
  · rw [if_pos h]
    exact h1 h
  · rw [if_neg h]
    exact h2 h
/-! ### heaps -/
/-- all that was tracked is as it was -/
def Same (H H' : Hp) : Prop := ∀ b o, H b = some o → H' b = some o
theorem Same.refl (H : Hp) : Same H H := fun _ _ h => h
theorem Same.trans {H H1 H2 : Hp} (a : Same H H1) (b : Same H1 H2) : Same H H2 := fun c o h => b c o (a c o h)
theorem Same.free {H H' : Hp} (e : Same H H') {l : Addr} (h : H' l = Option.none) : H l = Option.none := by
  cases q : H l with
  | none => rfl
  | some o =>
    rw [e l o q] at h
    cases h
theorem Same.seq {K : PySem.W.Frag} {H H' : Hp} {a : Addr} {xs : List V} (e : Same H H') (h : SqL K H a xs) : SqL K H' a xs := by
  rcases h with (h | ⟨o, h⟩) | h
  · exact .inl (.inl (e _ _ h))
  · exact .inl (.inr ⟨o, e _ _ h⟩)
  · exact .inr h

end L2

set_option maxRecDepth 100000
set_option maxHeartbeats 4000000
/-! An exception under way: its class and its own dict are known all along. -/
namespace L2
open PySem

structure Flt (B : Heap) (l : List Env) (e : Addr) (cls : Value) (d : Option Addr) (fl : Value) (h : Heap) : Prop where
  stays : B.StaysIn h
  new : B.get? e = none
  frames : h.FunFrames B l
  tr : ∃ ox ws T oT ts, h.get? e = some ox ∧ ox.cls = cls ∧ ox.dict = d ∧ ox.data = .fields ws ∧ ws[1]? = some (.ref T) ∧
    B.get? T = none ∧ T ≠ e ∧ h.get? T = some oT ∧ oT.data = .fields ts ∧ ts[3]? = some fl

theorem dict_mapF (o : Obj) (f : Array Value → Array Value) : (o.mapFields f).dict = o.dict := by
  unfold Obj.mapFields
  split <;> rfl

section
variable {M : Model} {A : Around} {E : Value → Shared → Prop} {s : Shared} {B : Heap} {env : Env} {outer l : List Env} {L e : Addr} {cls fl : Value} {d : Option Addr} {Q : Unit → Shared → Prop}

theorem Flt.obj {h : Heap} (x : Flt B l e cls d fl h) : ∃ ox ws, h.get? e = some ox ∧ ox.cls = cls ∧ ox.dict = d ∧ ox.data = .fields ws := by
  obtain ⟨ox, ws, _, _, _, a1, a2, a3, a4, _⟩ := x.tr
  exact ⟨ox, ws, a1, a2, a3, a4⟩

/-- the entry of the frame at hand is laid -/
theorem note_tail {ox : Obj} {ws : Array Value} {head : Value} {more : Bool} (hA : A.frames = some (env :: outer)) (hF : s.heap.FunFrames B (env :: outer)) (hL : env.frame = some L)
    (h1 : s.heap.get? e = some ox) (hB : B.StaysIn s.heap) (hn : B.get? e = none) (hw : ox.data = .fields ws) (hz : 1 < ws.size)
    (k : ∀ h', Flt B (env :: outer) e ox.cls ox.dict (rawInt L) h' → s.heap.UpToSlots h' → Q () { s with heap := h' }) :
    wpAny M A (do let a ← frameOf env; let pl ← entryPlaceOf L more; let b ← EntryCells.newEntry head a .none (rawInt L) .none pl; setField (.ref e) 1 b) Q E s := by
  have nf : e ∉ (env :: outer).filterMap (·.frame) := by
    intro z
    obtain ⟨_, o, q, r⟩ := hF.mem z
    rw [h1] at q
    cases q
    exact r ws hw
  refine wpAny_bind (wpAny_frameOf_fun hA hF hL ?_)
  intro g1 k1
  refine wpAny_bind (wpAny_entryPlaceOf ?_)
  intro pl hp
  unfold EntryCells.newEntry newFields
  refine wpAny_bind (wpAny_newObj_type ?_ (hp.sizeOk5 _ _ _ _ _))
  have e1 : g1.get? e = some ox := (k1.2.1 e nf).trans h1
  have B1 : B.StaysIn g1 := by
    intro b o q
    refine (k1.2.1 b ?_).trans (hB b o q)
    intro z
    rw [(hF.mem z).1] at q
    cases q
  generalize hR : ({ cls := .type "traceback", dict := none, data := .fields ([head, .ref L, .none, rawInt L, .none] ++ (if pl.isEmpty then List.replicate 6 Value.none else pl)).toArray } : Obj) = R
  have R3 : ∃ ts, R.data = .fields ts ∧ ts[3]? = some (rawInt L) := by
    subst hR
    exact ⟨_, rfl, by simp⟩
  have Rf : R.isFreed = false := by subst hR; rfl
  have e2 := Heap.get?_push_of_some (h := g1) R e1
  refine wpAny_setField e2 hw hz (k _ ?_ ?_)
  · have hT : g1.objs.size ≠ e := Nat.ne_of_gt (Heap.lt_size e1)
    have w3 := Obj.data_mapFields hw (·.setIfInBounds 1 (Value.ref g1.objs.size))
    have e3 := Heap.get?_update_self (Obj.mapFields (·.setIfInBounds 1 (Value.ref g1.objs.size))) e2 (Obj.isFreed_of_fields w3)
    have T3 := (Heap.get?_update_other (g1.push R) (Obj.mapFields (·.setIfInBounds 1 (Value.ref g1.objs.size))) (Ne.symm hT)).trans (Heap.get?_push_size g1 Rf)
    refine ⟨?_, hn, ?_, ?_⟩
    · intro b o q
      have ne : e ≠ b := by intro z; subst z; rw [hn] at q; cases q
      rw [Heap.get?_update_other _ _ ne]
      exact Heap.get?_push_of_some _ (B1 b o q)
    · refine hF.of_keeps ?_
      intro b o q r
      obtain ⟨sl, z⟩ := k1.2.2 b o q
      have ne : e ≠ b := by intro y; subst y; rw [h1] at q; cases q; exact r ws hw
      refine ⟨{ o with slots := sl }, ?_, rfl⟩
      rw [Heap.get?_update_other _ _ ne]
      exact Heap.get?_push_of_some _ z
    · obtain ⟨ts, r1, r2⟩ := R3
      exact ⟨_, _, g1.objs.size, R, ts, e3, Obj.cls_mapFields _ _, dict_mapF _ _, w3, by simp [hz], B1.fresh, hT, T3, r1, r2⟩
  · intro b o q r
    obtain ⟨sl, z⟩ := k1.2.2 b o q
    have ne : e ≠ b := by intro y; subst y; rw [h1] at q; cases q; exact r ws hw
    refine ⟨sl, ?_⟩
    rw [Heap.get?_update_other _ _ ne]
    exact Heap.get?_push_of_some _ z

/-- a new exception: the first frame notes it -/
theorem note_first {ox : Obj} {ws : Array Value} (hA : A.frames = some (env :: outer)) (hF : s.heap.FunFrames B (env :: outer)) (hL : env.frame = some L)
    (h1 : s.heap.get? e = some ox) (hB : B.StaysIn s.heap) (hn : B.get? e = none) (hw : ox.data = .fields ws) (hz : ws[1]? = some .none)
    (k : ∀ h', Flt B (env :: outer) e ox.cls ox.dict (rawInt L) h' → s.heap.UpToSlots h' → Q () { s with heap := h' }) : wpAny M A (noteFrame (.ref e) env) Q E s := by
  unfold noteFrame
  simp only [hL]
  refine wpAny_bind (wpAny_field h1 hw hz ?_)
  rw [if_neg (by decide)]
  exact note_tail hA hF hL h1 hB hn hw (Array.getElem?_eq_some_iff.mp hz).1 k

/-- one that flies: the next frame notes it -/
theorem note_next (hA : A.frames = some (env :: outer)) (hL : env.frame = some L) (x : Flt B (env :: outer) e cls d .none s.heap)
    (k : ∀ h', Flt B (env :: outer) e cls d (rawInt L) h' → s.heap.UpToSlots h' → Q () { s with heap := h' }) : wpAny M A (noteFrame (.ref e) env) Q E s := by
  obtain ⟨ox, ws, T, oT, ts, a1, a2, a3, a4, a5, a6, a7, a8, a9, a10⟩ := x.tr
  subst a2 a3
  unfold noteFrame
  simp only [hL]
  refine wpAny_bind (wpAny_field a1 a4 a5 ?_)
  rw [if_pos (show (Value.ref T != Value.none) = true by simp)]
  refine wpAny_bind (wpAny_field a8 a9 a10 ?_)
  rw [if_neg (show ¬ ((Value.none == rawInt L) = true) by simp [rawInt])]
  refine wpAny_bind (wpAny_setField a8 a9 (Array.getElem?_eq_some_iff.mp a10).1 ?_)
  have oth : ∀ b, b ≠ T → (s.heap.update T (Obj.mapFields (·.setIfInBounds 3 Value.none))).get? b = s.heap.get? b := by
    intro b z
    exact Heap.get?_update_other _ _ (Ne.symm z)
  have nT : ∀ b o, s.heap.get? b = some o → (∀ us, o.data ≠ .fields us) → b ≠ T := by
    intro b o q r z
    rw [z, a8] at q
    cases q
    exact r ts a9
  refine note_tail hA ?_ hL ((oth e (Ne.symm a7)).trans a1) ?_ x.new a4 (Array.getElem?_eq_some_iff.mp a5).1 ?_
  · refine x.frames.of_keeps ?_
    intro b o q r
    exact ⟨o, (oth b (nT b o q r)).trans q, rfl⟩
  · intro b o q
    refine (oth b ?_).trans (x.stays b o q)
    intro z
    rw [z, a6] at q
    cases q
  · intro h' y1 y2
    refine k h' y1 ?_
    intro b o q r
    exact y2 b o ((oth b (nT b o q r)).trans q) r

/-- it goes on: nothing of it is held -/
theorem fly_on (x : Flt B l e cls d fl s.heap) (k : ∀ h', Flt B l e cls d .none h' → s.heap.UpToSlots h' → Q () { s with heap := h' }) : wpAny M A (setFlight (.ref e) none) Q E s := by
  obtain ⟨ox, ws, T, oT, ts, a1, a2, a3, a4, a5, a6, a7, a8, a9, a10⟩ := x.tr
  have z3 : 3 < ts.size := (Array.getElem?_eq_some_iff.mp a10).1
  have oth : ∀ b, b ≠ T → (s.heap.update T (Obj.mapFields (·.setIfInBounds 3 ((none : Option Addr).elim Value.none fun f => rawInt f)))).get? b = s.heap.get? b := by
    intro b z
    exact Heap.get?_update_other _ _ (Ne.symm z)
  have nT : ∀ b o, s.heap.get? b = some o → (∀ us, o.data ≠ .fields us) → b ≠ T := by
    intro b o q r z
    rw [z, a8] at q
    cases q
    exact r ts a9
  unfold setFlight
  refine wpAny_bind (wpAny_field a1 a4 a5 ?_)
  rw [if_pos (show (Value.ref T != Value.none) = true by simp)]
  refine wpAny_setField a8 a9 z3 (k _ ⟨?_, x.new, ?_, ?_⟩ ?_)
  · intro b o q
    refine (oth b ?_).trans (x.stays b o q)
    intro z
    rw [z, a6] at q
    cases q
  · refine x.frames.of_keeps ?_
    intro b o q r
    exact ⟨o, (oth b (nT b o q r)).trans q, rfl⟩
  · have w3 := Obj.data_mapFields a9 (·.setIfInBounds 3 ((none : Option Addr).elim Value.none fun f => rawInt f))
    exact ⟨ox, ws, T, _, _, (oth e (Ne.symm a7)).trans a1, a2, a3, a4, a5, a6, a7, Heap.get?_update_self _ a8 (Obj.isFreed_of_fields w3), w3, by simp [z3]⟩
  · intro b o q r
    exact ⟨o.slots, (oth b (nT b o q r)).trans q⟩

theorem Flt.out {h : Heap} (x : Flt B (env :: outer) e cls d fl h) : Flt B outer e cls d fl h := by
  obtain ⟨a1, a2, ⟨_, _, a3⟩, a4⟩ := x
  exact ⟨a1, a2, a3, a4⟩

/-- it leaves the frame that it was made in -/
theorem leave_first {ox : Obj} {ws : Array Value} (hA : A.frames = some (env :: outer)) (hF : s.heap.FunFrames B (env :: outer)) (hL : env.frame = some L)
    (h1 : s.heap.get? e = some ox) (hB : B.StaysIn s.heap) (hn : B.get? e = none) (hw : ox.data = .fields ws) (hz : ws[1]? = some .none)
    (k : ∀ h', Flt B outer e ox.cls ox.dict .none h' → s.heap.UpToSlots h' → Q () { s with heap := h' }) : wpAny M A (leaving env (.ref e)) Q E s := by
  unfold leaving
  refine wpAny_bind (note_first hA hF hL h1 hB hn hw hz ?_)
  intro h' x y
  refine fly_on x ?_
  intro h'' x' y'
  exact k h'' x'.out (y.trans y')
/-- it leaves a frame through which it flies -/
theorem leave_next (hA : A.frames = some (env :: outer)) (hL : env.frame = some L) (x : Flt B (env :: outer) e cls d .none s.heap)
    (k : ∀ h', Flt B outer e cls d .none h' → s.heap.UpToSlots h' → Q () { s with heap := h' }) : wpAny M A (leaving env (.ref e)) Q E s := by
  unfold leaving
  refine wpAny_bind (note_next hA hL x ?_)
  intro h' x y
  refine fly_on x ?_
  intro h'' x' y'
  exact k h'' x'.out (y.trans y')
end
end L2

set_option linter.all false
set_option maxRecDepth 100000
set_option maxHeartbeats 4000000
/-! Exceptions of the text's own classes over the layer: raised, passed on, caught. -/
namespace L2
open PySem PySem.Spec PyProof.Rows

/-- how an exception lies behind a call: it flies; all that was there before and all that is tracked stands in B, which stays -/
def CX1 (P : Program) (w : World) : CXT := fun outer H s E e s' =>
  ∃ (a : Addr) (cls : Value) (d : Option Addr) (B : Heap) (H' : Hp), e = .ref a ∧ s'.os = s.os ∧ AllBare s'.gens ∧ Un (frs outer) [] H H' s.heap s'.heap ∧ HOk P w H' s'.heap ∧
    Flt B outer a cls d .none s'.heap ∧ H' a = none ∧
    (∀ b o, s.heap.get? b = some o → b ∉ frs outer → H b = none → B.get? b = some o) ∧
    (∀ b u, H' b = some u → ∃ o, B.get? b = some o) ∧
    (∀ b o, s.heap.get? b = some o → b ∈ frs outer ∨ ∃ o', B.get? b = some o') ∧ E cls d H'

theorem frs_cons {env : Env} {outer : List Env} {L : Addr} (h : env.frame = some L) : frs (env :: outer) = L :: frs outer := by
  unfold frs
  rw [List.filterMap_cons, h]

/-- every tracked object is there -/
theorem ObjOk.ex {P : Program} {w : World} {H : Hp} {h : Heap} {a : Addr} {o : HO} (x : ObjOk P w H h a o) : ∃ ob, h.get? a = some ob := by
  cases o with
  | lst xs => obtain ⟨_, _, _, _, e⟩ := x; exact ⟨_, e⟩
  | tup xs => obtain ⟨_, _, _, ob, e, _⟩ := x; exact ⟨_, e⟩
  | dK kvs => obtain ⟨_, _, _, _, o, _, _, e, _⟩ := x; exact ⟨_, e⟩
  | dT kvs => obtain ⟨_, _, _, _, o, _, _, e, _⟩ := x; exact ⟨_, e⟩
  | set S n => obtain ⟨o, _, _, _, e, _⟩ := x; exact ⟨_, e⟩
  | ins C dx fs => obtain ⟨_, _, _, e, _⟩ := x; exact ⟨_, e⟩
  | own y => exact x
  | xd fs => obtain ⟨_, ⟨_, _, _, e, _⟩, _⟩ := x; exact ⟨_, e⟩
  | rng lo hi => obtain ⟨_, _, _, e⟩ := x; exact ⟨_, e⟩
  | frz ob u => obtain ⟨e, _⟩ := x; exact ⟨_, e⟩
  | tbl ps => exact ⟨_, (show h.get? a = some _ from x)⟩
  | met f y => exact ⟨_, (show h.get? a = some _ from x)⟩
  | ext φ => obtain ⟨_, e, _⟩ := x; exact e

section
variable {X : Cx} {pins : List (Addr × Obj)} {σ : St} {H H' : Hp} {s s1 : Shared} {B h' : Heap}

/-- behind a flight: the state of the frame to which it came, whatever records it turned -/
theorem Inv.flown (I : Inv X pins σ H s) (os : s1.os = s.os) (bare : AllBare s1.gens) (un : Un (frs X.stack) [] H H' s.heap s1.heap) (hok : HOk X.prog X.w H' s1.heap) (bs : B.StaysIn s1.heap)
    (b1 : ∀ b o, s.heap.get? b = some o → b ∉ frs X.stack → H b = none → B.get? b = some o) (b2 : ∀ b u, H' b = some u → ∃ o, B.get? b = some o)
    (b3 : ∀ b o, s.heap.get? b = some o → b ∈ frs X.stack ∨ ∃ o', B.get? b = some o') (st : B.StaysIn h') (up : s1.heap.UpToSlots h') : Inv X pins σ H' { s1 with heap := h' } := by
  have nf : ∀ b ∈ frs X.stack, ∀ o, s.heap.get? b = some o → ∀ vs, o.data ≠ .fields vs := fun b hb o e => by
    obtain ⟨_, o', e', r⟩ := I.stack.mem hb
    rw [e] at e'
    cases e'
    exact r
  have sl : ∀ b o, s.heap.get? b = some o → b ∈ frs X.stack → ∃ sl, h'.get? b = some { o with slots := sl } := fun b o e hb => by
    obtain ⟨s2, e2⟩ := un.slot b o e (I.stkFree b hb) hb (by simp)
    obtain ⟨s3, e3⟩ := up b _ e2 (nf b hb o e)
    exact ⟨s3, e3⟩
  refine I.call' (s' := { s1 with heap := h' }) os ⟨fun b o e n hb _ => st b o (b1 b o e hb n), fun b o e n hb _ => sl b o e hb, un.free, fun b o e hx => ?_, un.tups, un.frzs, un.tbls⟩ (fun b u e => ?_) bare fun b z => nomatch z
  · rcases b3 b o e with z | ⟨o', z⟩
    · obtain ⟨_, q⟩ := sl b o e z
      exact ⟨_, q⟩
    · exact ⟨o', st b o' z⟩
  · refine (hok b u e).stay (fun c v hc q => ?_) (fun _ q => q) fun _ _ q => q
    have ht : ∃ u', H' c = some u' := by
      rcases hc with rfl | hc
      · exact ⟨u, e⟩
      · exact ⟨_, hc⟩
    obtain ⟨u', hu⟩ := ht
    obtain ⟨o, ho⟩ := b2 c u' hu
    have q' := bs c o ho
    rw [q] at q'
    cases q'
    exact st c v ho
end

section
variable {P : Program} {w : World} {K : PySem.W.Frag} {mg : Str → Option Value} {base : Heap} {N : List Str} {qual : Str} {scope : Scope} {f : Addr} {cd : Value} {A : Around} {outer : List Env} {s₀ : Shared} {H₀ : Hp} {E : XK}

/-- what leaves a called def leaves this one too -/
theorem passX : Passes (CX1 P w) (cxOf (CX1 P w) P w K mg base N qual scope f cd A outer s₀ H₀ E) E := by
  intro pins σ H s e s1 I h
  obtain ⟨a, cls, d, B, H', rfl, os, bare, un, hok, fl, ha, b1, b2, b3, q⟩ := h
  have hfr : (envOfC qual scope s₀.heap.objs.size f cd).frame = some s₀.heap.objs.size := rfl
  refine leave_next (B := B) (outer := outer) I.ok.frames hfr fl fun h' x y => ?_
  have J := I.flown (s1 := s1) os bare un hok fl.stays b1 b2 b3 x.stays y
  have nL : ∀ b o, s₀.heap.get? b = some o → b ∉ frs outer → b ∉ frs (envOfC qual scope s₀.heap.objs.size f cd :: outer) := fun b o e hb z => by
    rw [frs_cons hfr] at z
    rcases List.mem_cons.mp z with z | z
    · exact absurd (Heap.lt_size e) (by rw [z]; exact Nat.lt_irrefl _)
    · exact hb z
  refine ⟨a, cls, d, B, H', rfl, J.os, J.bare, J.base, J.hok, x, ha, fun b o e hb n => ?_, b2, fun b o e => ?_, q⟩
  · exact b1 b o (I.base.keep b o e n hb (by intro z; cases z)) (nL b o e hb) (I.base.free b o e n (by intro z; cases z))
  · obtain ⟨o', e'⟩ := I.base.there b o e (by intro z; cases z)
    by_cases hb : b ∈ frs outer
    · exact .inl hb
    · rcases b3 b o' e' with z | z
      · exact absurd z (nL b o e hb)
      · exact .inr z

end

/-! ### a def whose exceptions leave it -/
theorem Fun.okX {P : Program} {w : World} {K : PySem.W.Frag} {mg : Str → Option Value} {base : Heap} {x qual : Str} {st : Stmt} {f : Addr} {fd : FuncData} {N ps : List Str} {k : Nat} {sp : Sp} (F : Fun K x qual st f fd) (S : FnScope N ps (defScope st))
    (len : ∀ vs H Q E, sp vs H Q E → vs.length = ps.length)
    (hbody : ∀ (cdv : Value) (A : Around) (outer : List Env) (s : Shared) (H : Hp) (vs : List V) (Q : VK) (E : XK), Room k (A.deeper (envOfC qual (defScope st) s.heap.objs.size f cdv)) → sp vs H Q E →
      ∃ t, PSs (cxOf (CX1 P w) P w K mg base N qual (defScope st) f cdv A outer s H E) (defBody st) t ∧ t { nx := fun _ H' => Q .non H', rt := Q } (start N vs) H) : FnOk P w K mg base (CX1 P w) (k + 1) f fd ps sp := by
  obtain ⟨oc, od, kV, doc, pm, an, cdv, ct, osl, rfl, lk, hcd⟩ := F.ex
  exact fn_of lk hcd S len fun A outer s H vs Q E hr hsp => hbody cdv A outer s H vs Q E hr hsp
end L2

set_option linter.all false
set_option maxRecDepth 100000
set_option maxHeartbeats 4000000
namespace L2
open PySem PySem.Spec PyProof.Rows

abbrev bmVE : List Value := [.type "ValueError", .type "Exception", .type "BaseException", .type "object"]

/-! ### raise C(e, ..) -/
def tRaise (C : Addr) (E : XK) (t : TA) : TS := fun _ σ H => t σ H fun vs H1 => vs.length ≤ sizeLine ∧ E (.ref C) none H1
section
variable {P : Program} {w : World} {K : PySem.W.Frag} {mg : Str → Option Value} {base : Heap} {N : List Str} {qual : Str} {scope : Scope} {f : Addr} {cd : Value} {A : Around} {outer : List Env} {s₀ : Shared} {H₀ : Hp} {E : XK}
end

/-! ### an exception that is caught: its object -/
def excO (a : Addr) (cls : Value) (d : Option Addr) : HO := .ext fun h => ∃ ox ws, h.get? a = some ox ∧ ox.cls = cls ∧ ox.dict = d ∧ ox.data = .fields ws
theorem excO_ok {P : Program} {w : World} {H : Hp} {h : Heap} {a : Addr} {cls : Value} {d : Option Addr} (x : ∃ ox ws, h.get? a = some ox ∧ ox.cls = cls ∧ ox.dict = d ∧ ox.data = .fields ws) : ObjOk P w H h a (excO a cls d) := by
  obtain ⟨ox, ws, e1, e2, e3, e4⟩ := x
  refine ⟨⟨ox, ws, e1, e2, e3, e4⟩, ⟨ox, e1⟩, ?_⟩
  rintro h1 h2 ⟨o, us, f1, f2, f3, f4⟩ k
  exact ⟨o, us, k o f1, f2, f3, f4⟩

section
variable {X : Cx} {pins : List (Addr × Obj)} {σ : St} {H : Hp} {s : Shared}
/-- an untracked object of ours is tracked from here on -/
theorem Inv.track {a : Addr} {o : HO} (I : Inv X pins σ H s) (n : H a = none) (nL : a ≠ X.env.locals) (nC : ∀ x c, X.env.cells.lookup x = some c → c ≠ a) (nP : ∀ p ∈ X.pn ++ pins, p.1 ≠ a) (n0 : X.s₀.heap.get? a = none)
    (new : ObjOk X.prog X.w (upd H a o) s.heap a o) : Inv X pins σ (upd H a o) s := by
  have ne : ∀ b u, H b = some u → b ≠ a := fun b u e z => by rw [z, n] at e; cases e
  refine ⟨I.ok, I.os, I.bare, ⟨I.base.keep, I.base.slot, fun b ob e m hx => ?_, I.base.there, fun b xs e => ?_, fun b ob u e => ?_, fun b ps e => ?_⟩, I.loc, I.cell, ?_, fun x c e => ?_, fun p hp => ?_, fun b u e => ?_, I.len⟩
  · rw [upd_ne (by intro z; rw [z, n0] at e; cases e)]
    exact I.base.free b ob e m hx
  · have e1 := I.base.tups b xs e
    rw [upd_ne (ne _ _ e1)]
    exact e1
  · have e1 := I.base.frzs b ob u e
    rw [upd_ne (ne _ _ e1)]
    exact e1
  · obtain ⟨m, e1⟩ := I.base.tbls b ps e
    exact ⟨m, by rw [upd_ne (ne _ _ e1)]; exact e1⟩
  · rw [upd_ne (Ne.symm nL)]
    exact I.free
  · rw [upd_ne (nC x c e)]
    exact I.freeC x c e
  · obtain ⟨e1, e2, e3⟩ := I.pin p hp
    exact ⟨e1, by rw [upd_ne (nP p hp)]; exact e2, e3⟩
  · by_cases hb : b = a
    · subst hb
      rw [upd_same] at e
      cases e
      exact new
    · rw [upd_ne hb] at e
      refine (I.hok b u e).stay (fun _ _ _ q => q) (fun c q => ?_) fun c xs q => ?_
      · rw [upd_ne (ne _ _ q)]
        exact q
      · rw [upd_ne (ne _ _ q)]
        exact q

/-- the name of an except clause goes behind its suite -/
theorem Inv.unname {M : Model} {A : Around} {E : Value → Shared → Prop} {i : Nat} {n : Str} {pos : Pos} {Q : Unit → Shared → Prop} (I : Inv X pins σ H s) (hN : X.N.Nodup) (hi : X.N[i]? = some n) (hk : X.env.scope.names.lookup n = some .local)
    (k : ∀ s', Inv X pins (σ.set i none) H s' → Q () s') : wpAny M A (do bindName X.env n .none; unbindBehindTheSuite X.env n pos) Q E s := by
  obtain ⟨m, hn, hl⟩ := id I.loc
  obtain ⟨oL, _, _, hoL, _⟩ := id hn
  refine wpAny_nameGoes_keeps hk hn (by rw [I.ok.kind]; rfl) fun h' v hn' sb => k _ ?_
  have ne0 : ∀ b o, X.s₀.heap.get? b = some o → b ≠ X.env.locals := fun b o e => Nat.ne_of_lt (Nat.lt_of_lt_of_le (Heap.lt_size e) I.ok.above)
  refine ⟨I.ok, I.os, I.bare, ⟨fun b o e m hb hx => (sb.2 b (ne0 b o e)).trans (I.base.keep b o e m hb hx), fun b o e m hb hx => ?_, I.base.free, fun b o e hx => ?_, I.base.tups, I.base.frzs, I.base.tbls⟩, ⟨_, hn', fun j y w e1 e2 e3 => ?_⟩, fun y c e => ?_, I.free, I.freeC, fun p hp => ?_, fun b u e => ?_, ?_⟩
  · obtain ⟨sl, e1⟩ := I.base.slot b o e m hb hx
    exact ⟨sl, (sb.2 b (ne0 b o e)).trans e1⟩
  · obtain ⟨o', e1⟩ := I.base.there b o e hx
    exact ⟨o', (sb.2 b (ne0 b o e)).trans e1⟩
  · have hj : j ≠ i := by
      intro z
      subst z
      have hz : j < σ.length := by rw [I.len]; exact (List.getElem?_eq_some_iff.mp hi).1
      rw [List.getElem?_set_self hz] at e2
      cases e2
    rw [List.getElem?_set_ne (Ne.symm hj)] at e2
    obtain ⟨u, r, l⟩ := hl j y w e1 e2 e3
    have hy : y ≠ n := by
      intro z
      subst z
      exact hj (nodup_ix hN e1 hi)
    refine ⟨u, r, ?_⟩
    rcases l with ⟨l1, l2⟩ | ⟨l1, c, l2, l3⟩
    · exact .inl ⟨l1, (if_neg hy).trans l2⟩
    · exact .inr ⟨l1, c, l2, l3.sameBut sb (I.cne y c l2)⟩
  · obtain ⟨w, z⟩ := I.cell y c e
    exact ⟨w, z.sameBut sb (I.cne y c e)⟩
  · obtain ⟨e1, e2, e3, e4⟩ := I.pin p hp
    exact ⟨(sb.2 p.1 e3).trans e1, e2, e3, e4⟩
  · refine (I.hok b u e).stay (fun c w hc q => (sb.2 c ?_).trans q) (fun _ q => q) fun _ _ q => q
    intro z
    subst z
    rcases hc with hc | hc
    · rw [← hc, I.free] at e
      cases e
    · rw [I.free] at hc
      cases hc
  · rw [List.length_set]
    exact I.len
end

/-! ### calls that may raise -/
/-- an exception has come to this frame -/
def XP (X : Cx) (pins : List (Addr × Obj)) (σ : St) (Ex : XK) (e : Value) (s' : Shared) : Prop := ∃ H s, Inv X pins σ H s ∧ CX1 X.prog X.w X.stack H s Ex e s'
abbrev TX := St → Hp → VK → XK → Prop
def PEX (X : Cx) (e : Expr) (t : TX) : Prop :=
  ∀ (pins : List (Addr × Obj)) (s : Shared) (σ : St) (H : Hp) (Q : VK) (Ex : XK), Inv X pins σ H s → t σ H Q Ex → wpAny (model X.prog X.w) X.A (eval e X.env) (EP X pins σ Q) (XP X pins σ Ex) s
def tCallX (sp : Sp) (dvs : List V) (t : TA) : TX := fun σ H Q Ex => t σ H fun vs H1 => sp (vs ++ dvs) H1 Q Ex
section
variable {X : Cx} {k : Nat} {f : Addr} {fd : FuncData} {ps : List Str} {sp : Sp} {dvs : List V} {ds : List Value} {x : Str} {p pos : Pos} {e : Expr} {es : List Expr} {t : TA}
theorem PA.nox' {es : List Expr} {t : TA} (h : PA X.nox es t) {pos : Pos} {pins : List (Addr × Obj)} {s : Shared} {σ : St} {H : Hp} {Q : List V → Hp → Prop} {E : Value → Shared → Prop} (I : Inv X pins σ H s) (q : t σ H Q) :
    wpAny (model X.prog X.w) X.A (spliced (backTo pos (starEach es X.env))) (AP X pins σ Q) E s :=
  wpAny_mono (h pos pins s σ H Q (I.wish _) q) (fun _ _ ⟨vs, H', I', r, z⟩ => ⟨vs, H', I'.unwish, r, z⟩) fun _ _ z => False.elim z
theorem pex_call (F : FnOk X.prog X.w X.K X.mg X.base (CX1 X.prog X.w) k f fd ps sp) (hr : Room k X.A) (hg : Gl X x) (hm : X.mg x = some (.ref f)) (hk : PySem.W.keepIn X.K (.ref f) = true) (hb : Binds X.K fd ps ds) (hd : Vals dvs ds)
    (ha : PA X.nox (e :: es) t) (hdb : (x == ("__debug__" : Str)) = false := by decide) (he : starEach (e :: es) X.env = (false, eval e X.env) :: starEach es X.env := by rfl) (hpl : (backTo pos (starEach es X.env)).any (·.1) = false := by rfl) :
    PEX X (.Call (.Name x p) (e :: es) [] pos) (tCallX sp dvs t) := by
  intro pins s σ H Q Ex I h
  refine wpAny_Call_Name_kw (ld_glob I hg hm ?_ hdb)
  refine PySem.W.callWith_K (h₀ := X.base) I.ok.mod.kin hk (thn (ha.nox' I h) ?_) he hpl
  rintro us s1 ⟨vs, H1, I1, r, q⟩
  refine ⟨I1.kIn, ?_⟩
  have r2 : Vals (vs ++ dvs) (us ++ ds) := r.append hd
  have hl : (us ++ ds).length = ps.length := by rw [← r2.length]; exact F.len _ _ _ _ q
  refine wpAny_call (codeAny_mono (F.run X.A X.stack s1 H1 ⟨us, []⟩ (us ++ ds) (vs ++ dvs) Q Ex hr I1.env0 (hb s1 us I1.kIn hl) r2 q) ?_)
  intro r s' z
  cases r with
  | error e => exact ⟨H1, s1, I1, z⟩
  | ok fl =>
    cases fl with
    | ret u => exact I1.after z
    | next => exact False.elim z
    | brk => exact False.elim z
    | cont => exact False.elim z
end

/-! ### try: .. except S as n: .. -/
/-- the context of an except suite -/
abbrev Cx.caught (X : Cx) (a : Addr) : Cx := { X with A := X.A.mark (some (.ref a)), calm := false }
theorem Inv.caught {X : Cx} {pins : List (Addr × Obj)} {σ : St} {H : Hp} {s : Shared} (I : Inv X pins σ H s) (a : Addr) : Inv (X.caught a) pins σ H s :=
  ⟨⟨I.ok.mod, I.ok.kind, I.ok.glob, I.ok.blt, I.ok.above, I.ok.inj, I.ok.has, I.ok.cab, (fun z => nomatch z), I.ok.frames, I.ok.stk, I.ok.exf, I.ok.bs, I.ok.bsz, I.ok.noex, I.ok.exfs, I.ok.funs, I.ok.frf⟩, I.os, I.bare, I.base, I.loc, I.cell, I.free, I.freeC, I.pin, I.hok, I.len⟩
theorem Inv.uncaught {X : Cx} {pins : List (Addr × Obj)} {σ : St} {H : Hp} {s : Shared} {a : Addr} (ok : X.Ok) (I : Inv (X.caught a) pins σ H s) : Inv X pins σ H s :=
  ⟨ok, I.os, I.bare, I.base, I.loc, I.cell, I.free, I.freeC, I.pin, I.hok, I.len⟩

/-- a class of the text catches an exception of a class under it -/
theorem matches_up {M : Model} {A : Around} {E : Value → Shared → Prop} {nm q nm' q' : Str} {C N S N' : Addr} {bs bm bs' bm' : List Value} {hd hd' : Bool} {sn sn' : List Str} {sub sub' : List Value} {ab ab' : Bool} {col col' : Option Bool} {dd dd' : Option Addr}
    {k0 k1 k2 k3 k5 l0 l1 l2 l3 l5 : Option Value} {id id' : String} {s : Shared} {e : Addr} {oe : Obj} {Q : Bool → Shared → Prop}
    (hC : s.heap.get? C = some (excClassObj nm q C N bs bm hd sn sub ab col dd k0 k1 k2 k3 k5 id)) (hS : s.heap.get? S = some (excClassObj nm' q' S N' bs' bm' hd' sn' sub' ab' col' dd' l0 l1 l2 l3 l5 id'))
    (he : s.heap.get? e = some oe) (hc : oe.cls = .ref C) (hb : bm'.contains (.type "BaseException") = true) (hup : (Value.ref C :: bm).contains (.ref S) = true) (k : Q true s) : wpAny M A (excMatches (.ref e) (.ref S)) Q E s := by
  obtain ⟨h, g, d, t, os⟩ := s
  have hcB : (Value.ref S :: bm').contains (.type "BaseException") = true := by rw [List.contains_cons, hb, Bool.or_true]
  have nt := tc_notTuple
  unfold excMatches
  repeat (first | (with_reducible refine wpAny_loadPart_at he ?_; rw [hc]) | with_reducible refine wpAny_loadPart_at hS ?_ | (with_reducible refine wpAny_isSubtype_exc hS ?_; rw [hcB]) | (with_reducible refine wpAny_isSubtype_exc hC ?_; rw [hup]) | wp_step)
  exact k

/-- the object of an own exception class, in the written part -/
def ExcC (K : PySem.W.Frag) (C : Addr) (bm : List Value) (nid : String) : Prop :=
  ∃ nm qn N bs hd sn sub ab col dd k0 k1 k2 k3 k5, K.lookup C = some (excClassObj nm qn C N bs bm hd sn sub ab col dd k0 k1 k2 k3 k5 nid)
theorem ExcC.mk {K : PySem.W.Frag} {C N : Addr} {bm bs sub : List Value} {nid : String} {nm qn : Str} {hd ab : Bool} {sn : List Str} {col : Option Bool} {dd : Option Addr} {k0 k1 k2 k3 k5 : Option Value}
    (h : K.lookup C = some (excClassObj nm qn C N bs bm hd sn sub ab col dd k0 k1 k2 k3 k5 nid)) : ExcC K C bm nid := ⟨nm, qn, N, bs, hd, sn, sub, ab, col, dd, k0, k1, k2, k3, k5, h⟩

def tTryAs (K : PySem.W.Frag) (i j : Nat) (S : Addr) (tx : TX) (ts : Addr → TS) : TS := fun D σ H =>
  tx σ H (fun v H1 => D.nx (σ.set i (some v)) H1) fun cls d H1 => ∃ C bm nid, cls = .ref C ∧ ExcC K C bm nid ∧ (Value.ref C :: bm).contains (.ref S) = true ∧
    ∀ a, H1 a = none → ts a { nx := fun σ' H' => D.nx (σ'.set j none) H', rt := D.rt, bk := fun σ' H' => D.bk (σ'.set j none) H', ct := fun σ' H' => D.ct (σ'.set j none) H' } (σ.set j (some (.ref a))) (upd H1 a (excO a cls d))

section
variable {X : Cx}
theorem fresh_exc {pins : List (Addr × Obj)} {σ : St} {H H' : Hp} {s s1 : Shared} {B : Heap} {a : Addr} {cls fl : Value} {d : Option Addr} {l : List Env} (I : Inv X pins σ H s) (un : Un (frs X.stack) [] H H' s.heap s1.heap) (x : Flt B l a cls d fl s1.heap)
    (b3 : ∀ b o, s.heap.get? b = some o → b ∈ frs X.stack ∨ ∃ o', B.get? b = some o') : s.heap.get? a = none := by
  cases e : s.heap.get? a with
  | none => rfl
  | some o =>
    rcases b3 a o e with z | ⟨o', z⟩
    · obtain ⟨_, o2, e2, r⟩ := I.stack.mem z
      rw [e] at e2
      cases e2
      obtain ⟨sl, e3⟩ := un.slot a o e (I.stkFree a z) z (by simp)
      obtain ⟨ox, ws, e4, _, _, e5⟩ := x.obj
      rw [e3] at e4
      cases e4
      exact absurd e5 (r ws)
    · rw [x.new] at z
      cases z

theorem ps_tryas {i j : Nat} {y n S' : Str} {S : Addr} {bmS : List Value} {idS : String} {ce : Expr} {b0 : Stmt} {suite : List Stmt} {py np apos hpos pos : Pos} {tx : TX} {ts : Addr → TS}
    (hN : X.N.Nodup) (hi : X.N[i]? = some y) (hy : Loc X.env.scope y) (hj : X.N[j]? = some n) (hn : X.env.scope.names.lookup n = some .local) (hfr : X.env.frame = some X.env.locals) (hst : X.stack = X.env :: X.outer) (hex : X.ex = [])
    (hgS : Gl X S') (hmS : X.mg S' = some (.ref S)) (cS : ExcC X.K S bmS idS) (hbS : bmS.contains (.type "BaseException") = true) (hx : PEX X ce tx) (hs : ∀ a, PSs (X.caught a).nox (b0 :: suite) (ts a))
    (hf : X.fn y = true ∨ X.env.scope.names.lookup y = some .local := by first | exact .inl rfl | exact .inr rfl | assumption)
    (hsw : swapsWith ce (some (.Name y py)) apos.line X.env = pure false := by rfl) (hdb : (S' == ("__debug__" : Str)) = false := by decide) :
    PS X (.Try [.Assign [.Name y py] ce apos] [.ExceptHandler (some (.Name S' np)) (some n) (b0 :: suite) hpos] [] [] pos) (tTryAs X.K i j S tx ts) := by
  intro pins s σ H D I h
  refine wpAny_Try_except (wpAny_execs_cons (wpAny_Assign_Name (wpAny_mono (hx pins s σ H _ _ I h) ?ok ?err) hsw))
  case ok =>
    rintro v s1 ⟨x, H1, I1, r1, q1⟩
    refine store_ok I1 hN hi hy r1 (fun s2 I2 => ?_) hf
    exact wpAny_execs_nil (wpAny_execs_nil ⟨_, H1, I2, q1⟩)
  case err =>
    rintro e s1 ⟨H0, s0, I0, a, cls, d, B, H', rfl, os, bare, un, hok, fl, ha, b1, b2, b3, C, bm, nid, rfl, cC, hup, q⟩
    have fl' := fl
    rw [hst] at fl'
    have hA : X.A.frames = some (X.env :: X.outer) := by rw [I.ok.frames, hst]
    have fr0 := fresh_exc I0 un fl b3
    refine note_next (B := B) hA hfr fl' fun h4 x4 y4 => ?_
    refine fly_on (s := { s1 with heap := h4 }) x4 fun h5 x5 y5 => ?_
    have I5 : Inv X pins σ H' { s1 with heap := h5 } := I0.flown os bare un hok fl.stays b1 b2 b3 x5.stays (y4.trans y5)
    refine wpAny_handleBy_cons (codeAny_handlers_test ?_) (by intro z; cases z)
    refine Calls.Name_function_global I5.ok.kind hgS (Calls.loadGlobal_global (by rw [I5.ok.glob]; exact I5.mod.glob.keeps I5.bk) hmS ?_) hdb
    obtain ⟨ox, ws, e1, e2, e3, e4⟩ := x5.obj
    obtain ⟨_, _, _, _, _, _, _, _, _, _, _, _, _, _, _, lC⟩ := cC
    obtain ⟨_, _, _, _, _, _, _, _, _, _, _, _, _, _, _, lS⟩ := cS
    refine matches_up (s := { s1 with heap := h5 }) (I5.kIn _ _ lC) (I5.kIn _ _ lS) e1 e2 hbS hup ?_
    show codeAny _ _ (.handlers (.ref a) [.ExceptHandler none (some n) (b0 :: suite) hpos] X.env) _ _
    refine codeAny_handlers_suite_as ?_
    refine fly_on (s := { s1 with heap := h5 }) x5 fun h6 x6 y6 => ?_
    have I6 : Inv X pins σ H' { s1 with heap := h6 } := I0.flown os bare un hok fl.stays b1 b2 b3 x6.stays ((y4.trans y5).trans y6)
    have I7 : Inv X pins σ (upd H' a (excO a (.ref C) d)) { s1 with heap := h6 } := by
      refine I6.track ha ?_ ?_ ?_ ?_ (excO_ok x6.obj)
      · obtain ⟨m, ⟨o, _, _, ho, _⟩, _⟩ := I0.loc
        intro z
        rw [← z, fr0] at ho
        cases ho
      · intro x c ec z
        obtain ⟨v, o, ho, _⟩ := I0.cell x c ec
        rw [z, fr0] at ho
        cases ho
      · intro p hp z
        have ho := (I0.pin p hp).1
        rw [z, fr0] at ho
        cases ho
      · cases z : X.s₀.heap.get? a with
        | none => rfl
        | some o =>
          obtain ⟨o', ho⟩ := I0.base.there a o z (by rw [hex]; simp)
          rw [fr0] at ho
          cases ho
    have I8 := (I7.caught a).wish fun _ _ => False
    refine store_ok (X := (X.caught a).nox) (M := model X.prog X.w) (i := j) (v := .ref a) I8 hN hj (.inl hn) rfl (fun s7 I9 => ?_) (.inr hn)
    refine wpAny_mono (hs a pins s7 _ _ _ I9 (q a ha)) ?_ fun _ _ z => False.elim z
    intro f s8 z
    show wpAny _ _ (do bindName X.env n .none; unbindBehindTheSuite X.env n hpos) _ _ _
    cases f with
    | next =>
      obtain ⟨σ', H8, J, z⟩ := z
      exact Inv.unname (J.unwish.uncaught I.ok) hN hj hn fun s9 J9 => ⟨_, H8, J9, z⟩
    | brk =>
      obtain ⟨σ', H8, J, z⟩ := z
      exact Inv.unname (J.unwish.uncaught I.ok) hN hj hn fun s9 J9 => ⟨_, H8, J9, z⟩
    | cont =>
      obtain ⟨σ', H8, J, z⟩ := z
      exact Inv.unname (J.unwish.uncaught I.ok) hN hj hn fun s9 J9 => ⟨_, H8, J9, z⟩
    | ret u =>
      obtain ⟨v, σ', H8, J, r, z⟩ := z
      exact Inv.unname (J.unwish.uncaught I.ok) hN hj hn fun s9 J9 => ⟨v, _, H8, J9, r, z⟩
end
end L2

set_option linter.all false
set_option maxRecDepth 100000
set_option maxHeartbeats 4000000
/-! A list comprehension over the layer: one clause, no test, a plain name as its target. -/
namespace L2
open PySem PySem.Spec PyProof.Rows

theorem comp_loop {prog : Program} {w : World} {A : Around} {R : Result → Shared → Prop} {s : Shared} {elt target iter : Expr} {sc : Scope} {pos : Pos} {it acc : Value} {env : Env} (J : Nat → Shared → Prop)
    (turn : ∀ n s, J n s → wpAny (model prog w) A (pyNext it) (fun r s1 => match r with
      | none => R (.ok .next) s1
      | some v => wpAny (model prog w) A (letOwnedTupleGo target it v) (fun _ s2 => wpAny (model prog w) A (assign target env v) (fun _ s3 => wpAny (model prog w) A (eval elt env) (fun x s4 =>
          wpAny (model prog w) A (call (.builtin "list.append") [acc, x]) (fun _ s5 => ∃ m, m < n ∧ J m s5) (fun _ _ => False) s4) (fun _ _ => False) s3) (fun _ _ => False) s2) (fun _ _ => False) s1) (fun _ _ => False) s)
    (n : Nat) (h : J n s) : codeAny (model prog w) A (.compLoop (.ListComp elt [⟨target, iter, [], 0⟩] sc pos) 0 it acc env) R s := by
  refine codeAny_loop rfl J ?_ n h
  intro n s hJ
  show wpAny _ _ ((compTurn (.ListComp elt [⟨target, iter, [], 0⟩] sc pos) 0 it acc env).onRaise (fun x => do noteFrame x env; theTreesLotGoes x)) _ _ s
  refine wpAny_noted ?_
  rw [compTurn_list1]
  refine wpAny_bind (wpAny_standAt (wpAny_bind (wpAny_mono (turn n s hJ) ?_ fun _ _ z => False.elim z)))
  intro r s1 h1
  cases r with
  | none => exact wpAny_pure h1
  | some v =>
    refine wpAny_bind (wpAny_mono h1 ?_ fun _ _ z => False.elim z)
    intro _ s2 h2
    refine wpAny_bind (wpAny_mono h2 ?_ fun _ _ z => False.elim z)
    intro _ s3 h3
    refine wpAny_bind (wpAny_bind (wpAny_mono h3 ?_ fun _ _ z => False.elim z))
    intro x s4 h4
    refine wpAny_bind (wpAny_mono h4 ?_ fun _ _ z => False.elim z)
    intro _ s5 h5
    exact wpAny_pure (wpAny_pure ⟨rfl, h5⟩)

/-- the context of a comprehension's block -/
def compCx (X : Cx) (sc : Scope) (N' : List Str) (cl : List (Str × Addr)) (s2 : Shared) (H2 : Hp) (C : Addr) (ex : List Addr) : Cx :=
  { X with N := N', s₀ := s2, H₀ := H2, env := compEnvC sc cl C X.env, outer := X.stack, ex := ex, fn := fun _ => false, pn := [], xe := fun _ _ => False }

/-- the names that the block takes from around it: each in its slot there, a cell in both -/
def Caps (X : Cx) (sc : Scope) (cl : List (Str × Addr)) : List Str → List Nat → Prop
  | [], [] => True
  | y :: ys, j :: js => X.N[j]? = some y ∧ X.env.kindOf y = some .cell ∧ cl.lookup y = X.env.cells.lookup y ∧ (relabel sc X.env).names.lookup y = some .cell ∧ Caps X sc cl ys js
  | _, _ => False
theorem Caps.get {X : Cx} {sc : Scope} {cl : List (Str × Addr)} : ∀ {ys : List Str} {js : List Nat} {i : Nat} {y : Str}, Caps X sc cl ys js → ys[i]? = some y →
    ∃ j, js[i]? = some j ∧ X.N[j]? = some y ∧ X.env.kindOf y = some .cell ∧ cl.lookup y = X.env.cells.lookup y ∧ (relabel sc X.env).names.lookup y = some .cell
  | [], [], i, y, _, e => by simp at e
  | _ :: _, j :: _, 0, y, h, e => by
    simp at e
    subst e
    exact ⟨j, rfl, h.1, h.2.1, h.2.2.1, h.2.2.2.1⟩
  | _ :: _, _ :: _, i + 1, y, h, e => by
    have q := Caps.get (i := i) (y := y) h.2.2.2.2 (by simpa using e)
    simpa using q
  | [], _ :: _, _, _, h, _ => False.elim h
  | _ :: _, [], _, _, h, _ => False.elim h
theorem Caps.len {X : Cx} {sc : Scope} {cl : List (Str × Addr)} : ∀ {ys : List Str} {js : List Nat}, Caps X sc cl ys js → ys.length = js.length
  | [], [], _ => rfl
  | _ :: _, _ :: _, h => by simp [Caps.len h.2.2.2.2]
  | [], _ :: _, h => False.elim h
  | _ :: _, [], h => False.elim h
def capt (σ : St) (js : List Nat) : St := js.map fun j => (σ[j]?).join

/-- what the block is worth: W holds between its turns -/
def Comped (J : It) (cap : St) (te : TE) (Q : VK) (H1 : Hp) : Prop := ∀ D, H1 D = none → ∃ W : Nat → Nat → List V → Hp → Prop, (∃ m, W 0 m [] (upd H1 D (.lst []))) ∧ ∀ i m ys H2, W i m ys H2 → H2 D = some (.lst ys) ∧
  ((J.stop i H2 ∧ Q (.ref D) H2) ∨ (J.go i H2 ∧ ∀ x H3, J.yld i H2 x H3 → te (some x :: cap) H3 fun y H4 => H4 D = some (.lst ys) ∧ ys.length < sizeLine ∧ ∃ m', m' < m ∧ W (i + 1) m' (ys ++ [y]) (upd H4 D (.lst (ys ++ [y])))))
def tComp (wi : TI) (js : List Nat) (te : TE) : TE := fun σ H Q => wi σ H fun J H1 => Comped J (capt σ js) te Q H1

section
variable {X : Cx} {x : Str} {px pos : Pos} {elt iter : Expr} {sc : Scope} {ys : List Str} {js : List Nat} {cl : List (Str × Addr)}

theorem inv_comp {pins : List (Addr × Obj)} {σ : St} {H : Hp} {s s4 : Shared} {fp : List Addr} {C : Addr} {H4 : Hp} {m : Str → Option Value} (I : Inv X pins σ H s) (hf : ∀ b ∈ fp, FpOk X pins H b)
    (hkind : sc.kind = .function) (hcap : Caps X sc cl ys js) (hin : ∀ y c, cl.lookup y = some c → X.env.cells.lookup y = some c) (hhas : ∀ y, ((relabel sc X.env).names.lookup y = some .cell ∨ (relabel sc X.env).names.lookup y = some .free) → ∃ c, cl.lookup y = some c)
    (hfl : ∀ b ∈ fp, b < s.heap.objs.size) (hC : s.heap.objs.size ≤ C) (hos : s4.os = s.os) (hb : AllBare s4.gens) (un : Un (frs X.stack) fp H H4 s.heap s4.heap) (kp : ∀ b o, s.heap.get? b = some o → s4.heap.get? b = some o) (hn : s4.heap.Ns C m) (hC4 : H4 C = none)
    (hok : HOk X.prog X.w H4 s4.heap) : Inv (compCx X sc (x :: ys) cl s H C fp) [] (none :: capt σ js) H4 s4 := by
  have frb : ∀ b ∈ fp, b ∉ frs X.stack := fun b hb z => by
    rcases List.mem_cons.mp (I.stkSub b z) with q | q
    · exact (hf b hb).2.1 q
    · exact (hf b hb).2.2.1 q
  refine ⟨⟨I.ok.mod, hkind, I.ok.glob, I.ok.blt, hC, fun y z c h1 h2 => I.ok.inj y z c (hin y c h1) (hin z c h2), hhas, (fun _ _ z => nomatch z), I.ok.hd, I.ok.frames, .inl rfl, fun b z => ⟨?_, fun y c e => ?_⟩, I.bs, Nat.le_trans I.ok.bsz I.sz, fun b o e z => ?_, frb, I.stack, I.stkFree⟩,
    hos, hb, un, ⟨m, hn, fun i y v e1 e2 e3 => ?_⟩, fun y c e => ?_, hC4, fun y c e => ?_, fun p hp => ?_, hok, ?_⟩
  · exact Nat.ne_of_lt (Nat.lt_of_lt_of_le (hfl b z) hC)
  · exact (hf b z).2.2.2.2.1 y c (hin y c e)
  · rcases (hf b z).2.2.2.1 with q | q
    · exact I.ok.noex b o e q
    · exact absurd (Nat.lt_of_lt_of_le (Heap.lt_size e) (Nat.le_trans I.ok.bsz q)) (Nat.lt_irrefl _)
  · cases i with
    | zero =>
      have z : (none : Option V) = some v := by simpa using e2
      cases z
    | succ i =>
      have e1' : ys[i]? = some y := by simpa [compCx] using e1
      have e2' : (capt σ js)[i]? = some (some v) := by simpa using e2
      obtain ⟨j, q1, q2, q3, q4, q5⟩ := hcap.get e1'
      unfold capt at e2'
      rw [List.getElem?_map, q1] at e2'
      have e2'' : (σ[j]?).join = some v := by simpa using e2'
      have e3' : σ[j]? = some (some v) := by
        cases z : σ[j]? with
        | none => rw [z] at e2''; cases e2''
        | some o =>
          cases o with
          | none => rw [z] at e2''; cases e2''
          | some w' => rw [z] at e2''; cases e2''; rfl
      obtain ⟨m0, _, hl⟩ := I.loc
      obtain ⟨u, r, l⟩ := hl j y v q2 e3' (.inr (.inl q3))
      refine ⟨u, r, .inr ⟨.inl q5, ?_⟩⟩
      rcases l with ⟨l1, _⟩ | ⟨_, c, l2, l3⟩
      · rw [q3] at l1; cases l1
      · obtain ⟨o, ho, hd⟩ := l3
        exact ⟨c, q4.trans l2, o, kp c o ho, hd⟩
  · obtain ⟨v, o, ho, hd⟩ := I.cell y c (hin y c e)
    exact ⟨v, o, kp c o ho, hd⟩
  · obtain ⟨v, o, ho, hd⟩ := I.cell y c (hin y c e)
    exact un.free c o ho (I.freeC y c (hin y c e)) fun z => (hf c z).2.2.2.2.1 y c (hin y c e) rfl
  · exact absurd (show p ∈ ([] : List (Addr × Obj)) from hp) (by simp)
  · show (none :: capt σ js).length = (x :: ys).length
    unfold capt
    rw [List.length_cons, List.length_cons, List.length_map, hcap.len]

theorem pe_comp {wi : TI} {te : TE} (hclos : closureFor sc X.env = pure cl) (hcell : ∀ y ∈ sc.names, y.2 ≠ .cell) (hkind : sc.kind = .function) (hnames : ∀ y ∈ sc.names, y.2 = .local → sc.names.lookup y.1 = some .local)
    (hx : (relabel sc X.env).names.lookup x = some .local) (hcap : Caps X sc cl ys js) (hin : ∀ y c, cl.lookup y = some c → X.env.cells.lookup y = some c)
    (hhas : ∀ y, ((relabel sc X.env).names.lookup y = some .cell ∨ (relabel sc X.env).names.lookup y = some .free) → ∃ c, cl.lookup y = some c) (hnd : (x :: ys).Nodup) (hc : X.calm = true)
    (hi : PI X.nox (.Name x px) iter wi) (he : ∀ s2 H2 C ex, PE (compCx X sc (x :: ys) cl s2 H2 C ex) elt te) (hs : ∀ v, foldedSetIterable iter X.env v = pure v := by intro _; rfl) :
    PE X (.ListComp elt [⟨.Name x px, iter, [], 0⟩] sc pos) (tComp wi js te) := by
  intro pins s σ H Q I h
  rw [eval_ListComp]
  refine wpAny_mono (E := fun _ _ => False) (wpAny_comprehension_free (use := none) rfl hs hclos hkind hnames (wpAny_mono (hi pins s σ H _ (I.wish _) h) ?_ fun _ _ z => False.elim z)) (fun _ _ z => z) fun _ _ z => False.elim z
  intro v s1 h1
  refine wpAny_mono h1 ?_ fun _ _ z => False.elim z
  rintro itv s2 ⟨it, fp, tn, J, H2, rfl, I2w, T, st2, f2w, q⟩
  have I2 := I2w.unwish
  have f2 : ∀ b ∈ fp, FpOk X pins H2 b := f2w
  -- the list that grows, the block's own names
  refine wpAny_newObj_type (wpAny_newFunctionEnv hcell (by intro y hy; simp at hy) (fun h4 hns hsb => ?_) hkind)
  dsimp only at hns hsb ⊢
  generalize hE : s2.heap.push { cls := .type "list", dict := none, data := .seq ([] : List Value).toArray } = g3 at hns hsb ⊢
  have hsz : g3.objs.size = s2.heap.objs.size + 1 := by rw [← hE, Heap.size_push]
  have hDC : s2.heap.objs.size ≠ g3.objs.size := by omega
  have old : ∀ b o, s2.heap.get? b = some o → h4.get? b = some o := fun b o e => by
    have lt : b < s2.heap.objs.size := Heap.lt_size e
    rw [hsb.2 b (Nat.ne_of_lt (by rw [hsz]; exact Nat.lt_succ_of_lt lt))]
    exact Heap.get?_push_of_some _ (hE ▸ Heap.get?_push_of_some _ e)
  have hD0 : H2 s2.heap.objs.size = none := I2.hok.fresh (Nat.le_refl _)
  have hC0 : H2 g3.objs.size = none := I2.hok.fresh (by omega)
  have hDat : h4.get? s2.heap.objs.size = some { cls := .type "list", data := .seq ([] : List Value).toArray } := by
    rw [hsb.2 _ hDC]
    exact Heap.get?_push_of_some _ (hE ▸ Heap.get?_push_size _ rfl)
  obtain ⟨W, ⟨m0, w0⟩, turn⟩ := q s2.heap.objs.size hD0
  have hfl : ∀ b ∈ fp, b < s2.heap.objs.size := fun b hb => by
    obtain ⟨o, e, _⟩ := T.obj _ _ st2 b hb
    exact Heap.lt_size e
  have J0 : Inv (compCx X sc (x :: ys) cl s2 H2 g3.objs.size fp) [] (none :: capt σ js) (upd H2 s2.heap.objs.size (.lst [])) { s2 with heap := h4, toks := s2.toks + ([] : List (Str × Value)).length } := by
    refine inv_comp (m := fun y => ([] : List (Str × Value)).reverse.lookup y) I2 f2 hkind hcap hin hhas hfl (by omega) rfl I2.bare (Un.laid old (Nat.le_refl _) hD0) old hns ?_ ?_
    · rw [upd_ne (Ne.symm hDC)]; exact hC0
    · exact I2.hok.laid old (Nat.le_refl _) ⟨Nat.zero_le _, [], 0, .nil, hDat⟩
  have st4 : tn 0 h4 := T.keep _ _ _ st2 fun b hb o e => old b o e
  have xcell : ∀ y c, (compCx X sc (x :: ys) cl s2 H2 g3.objs.size fp).env.cells.lookup y = some c → X.env.cells.lookup y = some c := hin
  have stat : ∀ {H' : Hp}, (∀ b ∈ fp, H' b = none) → ∀ b ∈ fp, FpOk (compCx X sc (x :: ys) cl s2 H2 g3.objs.size fp) [] H' b := fun hn b hb => by
    refine ⟨hn b hb, ?_, ?_, .inl hb, fun y c e => (f2 b hb).2.2.2.2.1 y c (hin y c e), fun p hp => absurd (show p ∈ ([] : List (Addr × Obj)) from hp) (by simp)⟩
    · have lt : b < s2.heap.objs.size := hfl b hb
      exact Nat.ne_of_lt (by show b < g3.objs.size; rw [hsz]; exact Nat.lt_succ_of_lt lt)
    · intro z
      rcases List.mem_cons.mp (I2.stkSub b z) with q | q
      · exact (f2 b hb).2.1 q
      · exact (f2 b hb).2.2.1 q
  have fin : ∀ {σ' : St} {H' : Hp} {s' : Shared}, Inv (compCx X sc (x :: ys) cl s2 H2 g3.objs.size fp) [] σ' H' s' → Q (.ref s2.heap.objs.size) H' →
      compPost (model X.prog X.w) X.A (fun _ _ => False) none (EP X pins σ Q) (.ref s2.heap.objs.size) g3.objs.size (.ok .next) s' := fun {σ' H' s'} J' q' => by
    obtain ⟨m, hm, _⟩ := J'.loc
    refine ⟨m, hm, fun h' sb => ?_⟩
    have neC : ∀ b o, s2.heap.get? b = some o → b ≠ g3.objs.size := fun b o e => by
      have lt : b < s2.heap.objs.size := Heap.lt_size e
      exact Nat.ne_of_lt (by rw [hsz]; exact Nat.lt_succ_of_lt lt)
    have ub := J'.base
    refine ⟨.ref s2.heap.objs.size, H', ?_, rfl, q'⟩
    refine I2.call' (s' := { s' with heap := h' }) (ch := fp) J'.os ⟨fun b o e n hb hx => (sb.2 b (neC b o e)).trans (ub.keep b o e n hb hx), fun b o e n hb hx => ?_, ub.free, fun b o e hx => ?_, ub.tups, ub.frzs, ub.tbls⟩ (fun b u e => ?_) J'.bare fun b hb => ⟨(f2 b hb).2.2.2.1, (f2 b hb).2.1, (f2 b hb).2.2.2.2.1, (f2 b hb).2.2.2.2.2⟩
    · obtain ⟨sl, e1⟩ := ub.slot b o e n hb hx
      exact ⟨sl, (sb.2 b (neC b o e)).trans e1⟩
    · obtain ⟨o', e1⟩ := ub.there b o e hx
      exact ⟨o', (sb.2 b (neC b o e)).trans e1⟩
    · have hCn : H' g3.objs.size = none := J'.free
      refine (J'.hok b u e).stay (fun c v hc z => (sb.2 c ?_).trans z) (fun _ z => z) fun _ _ z => z
      rintro rfl
      rcases hc with hc | hc
      · rw [← hc, hCn] at e; cases e
      · rw [hCn] at hc; cases hc
  have loop : ∀ s4 : Shared, s4 = { s2 with heap := h4, toks := s2.toks + ([] : List (Str × Value)).length } →
      codeAny (model X.prog X.w) X.A (.compLoop (.ListComp elt [⟨.Name x px, iter, [], 0⟩] sc pos) 0 (.ref it) (.ref s2.heap.objs.size) (compEnvC sc cl g3.objs.size X.env))
        (compPost (model X.prog X.w) X.A (fun _ _ => False) none (EP X pins σ Q) (.ref s2.heap.objs.size) g3.objs.size) s4 := by
    rintro s4 rfl
    refine comp_loop (fun n s' => ∃ i xo ys' H', Inv (compCx X sc (x :: ys) cl s2 H2 g3.objs.size fp) [] (xo :: capt σ js) H' s' ∧ tn i s'.heap ∧ (∀ b ∈ fp, H' b = none) ∧ W i n ys' H') ?_ m0 ⟨0, none, [], _, J0, st4, fun b hb => ?_, w0⟩
    · rintro n s' ⟨i, xo, ys', H', J', st', fr', w'⟩
      obtain ⟨hD, alt⟩ := turn i n ys' H' w'
      rcases alt with ⟨stop, qn⟩ | ⟨go, step⟩
      · refine wpAny_mono (T.done (compCx X sc (x :: ys) cl s2 H2 g3.objs.size fp) rfl rfl rfl hc i [] s' _ H' (fun _ _ => False) J' (stat fr') st' stop) ?_ fun _ _ z => z
        rintro r s'' ⟨rfl, J''⟩
        exact fin J'' qn
      · refine wpAny_mono (T.item (compCx X sc (x :: ys) cl s2 H2 g3.objs.size fp) rfl rfl rfl hc i [] s' _ H' (fun _ _ => False) J' (stat fr') st' go) ?_ fun _ _ z => z
        rintro r s'' ⟨u, rfl, hu⟩
        refine wpAny_mono hu ?_ fun _ _ z => z
        rintro _ s5 ⟨xv, H5, J5, r5, y5, st5, fr5⟩
        have J5' := J5.pinned (stat fr5) (T.obj _ _ st5)
        refine wpAny_assign_Name (store_ok (X := compCx X sc (x :: ys) cl s2 H2 g3.objs.size fp) (i := 0) J5' hnd rfl (.inl hx) r5 (fun s6 J6 => ?_) (.inr hx))
        refine wpAny_mono (he s2 H2 g3.objs.size fp _ s6 _ H5 _ J6 (step xv H5 y5)) ?_ fun _ _ z => z
        rintro yv s7 ⟨yy, H7, J7, r7, hD7, hlen, m', hm', w7⟩
        refine wpAny_mono (mt_append (X := compCx X sc (x :: ys) cl s2 H2 g3.objs.size fp) _ s7 _ H7 (.ref s2.heap.objs.size) [yy] (.ref s2.heap.objs.size) [yv] (fun _ H8 => H8 = upd H7 s2.heap.objs.size (.lst (ys' ++ [yy]))) J7 rfl (.cons r7 .nil) ⟨_, ys', yy, rfl, rfl, hD7, hlen, rfl⟩) ?_ fun _ _ z => z
        rintro _ s8 ⟨_, H8, J8, _, rfl⟩
        have pinned : ∀ b ∈ fp, ∀ o, s5.heap.get? b = some o → s8.heap.get? b = some o ∧ (upd H7 s2.heap.objs.size (.lst (ys' ++ [yy]))) b = none := fun b hb o e => by
          obtain ⟨q1, q2, _⟩ := J8.pin (b, o) (List.mem_append_right _ (List.mem_append_right _ (mem_pinsAt hb e)))
          exact ⟨q1, q2⟩
        refine ⟨m', hm', i + 1, some xv, ys' ++ [yy], _, J8.unpinned, T.keep _ _ _ st5 fun b hb o e => (pinned b hb o e).1, fun b hb => ?_, w7⟩
        obtain ⟨o, e, _⟩ := T.obj _ _ st5 b hb
        exact (pinned b hb o e).2
    · rw [upd_ne (Nat.ne_of_lt (hfl b hb))]
      exact (f2 b hb).1
  exact codeAny_compStart_list (loop _ rfl) (T.self _ _ _ _ _ st4 (loop _ rfl))
end
end L2

set_option linter.all false
set_option maxRecDepth 100000
set_option maxHeartbeats 4000000
/-! Texts, their signs in a loop, all, int(text), isinstance, deep equality: more rules over the layer. -/
namespace L2
open PySem PySem.Spec PyProof.Rows

section
variable {X : Cx}
/-! ### texts -/
/-- x[lo:hi] of a text -/
def rSlS : V → Option Int → Option Int → Hp → VK → Prop := fun x lo hi H Q => ∃ z, x = .str z ∧ z.length ≤ sizeLine ∧ Q (.str (Txt.slice z lo hi)) H
theorem sl_str : SlR X rSlS := by
  intro pins s σ H x v vl vu lo hi sl Q I rx hs pl pu h
  obtain ⟨z, rfl, hz, q⟩ := h
  obtain ⟨t, rfl⟩ := rx
  refine ⟨"str", _, F.slot_str_getitem.lookup, typeIs_str _ _ _, ?_⟩
  cases pl with
  | none =>
    cases pu with
    | none => exact wpAny_getItem_str_slice (l := none) (u := none) (st := none) hs rfl (post_val_or_str ⟨Nat.le_trans (Txt.slice_le z _ _) hz, fun t' k => ⟨.str _, H, I.tok _, ⟨_, rfl⟩, q⟩⟩)
    | int j tj => exact wpAny_getItem_str_slice (l := none) (u := some (j, tj)) (st := none) hs rfl (post_val_or_str ⟨Nat.le_trans (Txt.slice_le z _ _) hz, fun t' k => ⟨.str _, H, I.tok _, ⟨_, rfl⟩, q⟩⟩)
  | int i ti =>
    cases pu with
    | none => exact wpAny_getItem_str_slice (l := some (i, ti)) (u := none) (st := none) hs rfl (post_val_or_str ⟨Nat.le_trans (Txt.slice_le z _ _) hz, fun t' k => ⟨.str _, H, I.tok _, ⟨_, rfl⟩, q⟩⟩)
    | int j tj => exact wpAny_getItem_str_slice (l := some (i, ti)) (u := some (j, tj)) (st := none) hs rfl (post_val_or_str ⟨Nat.le_trans (Txt.slice_le z _ _) hz, fun t' k => ⟨.str _, H, I.tok _, ⟨_, rfl⟩, q⟩⟩)
def rZfill : V → List V → Hp → VK → Prop := fun x vs H Q => ∃ z k, x = .str z ∧ vs = [.int k] ∧ PadOk k = true ∧ Q (.str (Txt.zfill z k)) H
theorem call_int_text : CallR X (.type "int") (fun xs H Q => ∃ z n, xs = [.str z] ∧ PySem.intText? z = some n ∧ z.length ≤ 640 ∧ Q (.int n) H) := by
  intro pins s σ H xs us Q I r h
  obtain ⟨z, n, rfl, hn, hl, q⟩ := h
  obtain ⟨u, rfl, t, rfl⟩ := vals1 r
  exact PySem.W.KIN.call_text hn hl ⟨.int n, H, I.tok _, ⟨_, rfl⟩, q⟩

/-! ### the signs of a text -/
def Its (x : Str) : It := ⟨fun i _ => i < x.cps.size, fun i H v H' => H' = H ∧ ∃ c, x.cps[i]? = some c ∧ v = .str ⟨#[c]⟩, fun i _ => x.cps.size ≤ i⟩
theorem walks_signs {P : Program} {w : World} {A : Around} (hh : A.handled = none) (it : Addr) (x : Str) (t : Tok) : Walks P w A it [it] [it] x.cps.size (SignAt x) (fun i h => h.IsStrIter it (strIterType x) x t i) := by
  unfold strIterType
  cases x.cps.all (· < 128)
  · exact Walks.strWide hh it x t
  · exact Walks.strAscii hh it x t
theorem turn_str {P : Program} {w : World} {K : PySem.W.Frag} {tg : Expr} (x : Str) (t : Tok) (it : Addr) : Turn P w K tg (Its x) [it] it (fun i h => i ≤ x.cps.size ∧ h.IsStrIter it (strIterType x) x t i) where
  mem := by simp
  obj := fun i h st b hb => by
    have e : b = it := by simpa using hb
    subst e
    obtain ⟨_, o, e, c, d⟩ := st
    exact ⟨o, e, fun v z => by rw [d] at z; cases z⟩
  keep := fun i h h' st k => ⟨st.1, (walks_signs (P := P) (w := w) (A := {}) rfl it x t).frame i h h' st.2 k⟩
  item := by
    intro X hP hw hK hc i pins s σ H E I hf st hg
    subst hP hw hK
    obtain ⟨f0, f1, f2, f3, f4, f5⟩ := hf it (by simp)
    refine (walks_signs (I.ok.hd hc) it x t).item i s _ E hg st.2 fun v h' tk hv st' kp => ?_
    obtain ⟨c, u, hx, rfl⟩ := hv
    have I1 : Inv X pins σ H { s with heap := h', toks := tk } := I.turned (fun b o hb e => kp b o (by simpa using hb) e) f0 f1 f3 f4 f5
    obtain ⟨o, e, cc, d⟩ := id st'
    refine ⟨_, rfl, go_of (s := { s with heap := h', toks := tk }) e cc d ?_ ⟨.str ⟨#[c]⟩, H, I1, ⟨_, rfl⟩, ⟨rfl, c, hx, rfl⟩, ⟨hg, st'⟩, fun b hb => (hf b hb).1⟩⟩
    unfold strIterType
    cases x.cps.all (· < 128) <;> decide
  done := by
    intro X hP hw hK hc i pins s σ H E I hf st hg
    subst hP hw hK
    obtain ⟨f0, f1, f2, f3, f4, f5⟩ := hf it (by simp)
    have e : i = x.cps.size := Nat.le_antisymm st.1 hg
    subst e
    exact (walks_signs (I.ok.hd hc) it x t).done s _ E st.2 fun h' tk kp => ⟨rfl, I.turned (fun b o hb e => kp b o (by simpa using hb) e) f0 f1 f3 f4 f5⟩
  self := fun A i s Q E st h => by
    have hh := st.2
    unfold strIterType at hh
    cases ha : x.cps.all (· < 128) with
    | true => rw [ha] at hh; exact wpAny_pyIter_striter_ascii hh h
    | false => rw [ha] at hh; exact wpAny_pyIter_striter_wide hh h
def iStr (tl : TE) : TI := fun σ H R => tl σ H fun v H1 => ∃ x, v = .str x ∧ R (Its x) H1
theorem pi_str {tg l : Expr} {tl : TE} (hl : PE X l tl) : PI X tg l (iStr tl) := by
  intro pins s σ H R I h
  refine thn (hl pins s σ H _ I h) fun v s1 ⟨y, H1, I1, r1, q1⟩ => ?_
  obtain ⟨x, rfl, q⟩ := q1
  obtain ⟨t, rfl⟩ := r1
  refine wpAny_pyIter_strU ?_
  have I2 : Inv X pins σ H1 { s1 with heap := s1.heap.push { cls := .type (strIterType x), data := .fields #[.str x t, .int 0 0] } } := I1.kept (t' := s1.toks) fun b o e => Heap.get?_push_of_some _ e
  refine ⟨s1.heap.objs.size, [s1.heap.objs.size], _, Its x, H1, rfl, I2, turn_str x t _, ⟨Nat.zero_le _, _, Heap.get?_push_size _ rfl, rfl, rfl⟩, fun b hb => ?_, q⟩
  have e : b = s1.heap.objs.size := by simpa using hb
  subst e
  exact I1.fpOk (Nat.le_refl _) (I1.hok.fresh (Nat.le_refl _))

/-! ### all(a list of bools) -/
theorem call_all : CallR X (.builtin "all") (fun xs H Q => ∃ (a : Addr) (bs : List Bool), xs = [.ref a] ∧ SqL X.K H a (bs.map V.bl) ∧ X.calm = true ∧ Q (.bl (bs.all id)) H) := by
  intro pins s σ H xs us Q I r h
  obtain ⟨a, bs, rfl, hS, hc, q⟩ := h
  obtain ⟨u, rfl, rx⟩ := vals1 r
  cases rx
  obtain ⟨its, rv, pl, hz⟩ := I.list hS
  have hlen : its.length = bs.length := by rw [← rv.length, List.length_map]
  refine call_all_walk (wpAny_pyIter_list pl.isList ?_)
  have ne : a ≠ s.heap.objs.size := by
    obtain ⟨o, e, _⟩ := pl.isList
    exact Nat.ne_of_lt (Heap.lt_size e)
  have hh : X.A.in1.handled = none := I.ok.hd hc
  refine ⟨s.heap.objs.size, _, _, _, _, _, fun i => bs.getD i true, rfl, Walks.list hh s.heap.objs.size a ne its.toArray, ⟨⟨_, Heap.get?_push_size _ rfl, rfl, rfl⟩, ?_⟩, ?_, ?_⟩
  · obtain ⟨o, e, r⟩ := pl.isList
    exact ⟨o, Heap.get?_push_of_some _ e, r⟩
  · intro i v s' Q' E' hv hq
    have hv' : its[i]? = some v := by simpa using hv
    have hi : i < its.length := (List.getElem?_eq_some_iff.mp hv').1
    have hb : bs[i]? = some bs[i] := List.getElem?_eq_getElem (by omega)
    obtain ⟨u, hu, ru⟩ := rv.get (i := i) (x := V.bl bs[i]) (by rw [List.getElem?_map, hb]; rfl)
    rw [hv'] at hu
    cases hu
    cases ru
    refine wpAny_truthy_bool ?_
    have e : bs.getD i true = bs[i] := by rw [List.getD_eq_getElem?_getD, hb]; rfl
    exact e ▸ hq
  · intro h' tk kp
    have e : (List.range its.toArray.size).all (fun i => bs.getD i true) = bs.all id := by
      rw [List.size_toArray, hlen]
      clear q hS rv hz hlen pl
      induction bs with
      | nil => rfl
      | cons b r ih =>
        rw [List.length_cons, List.range_succ_eq_map, List.all_cons, List.all_cons, ← ih, List.all_map]
        rfl
    rw [e]
    refine ⟨.bl _, H, ?_, rfl, q⟩
    refine I.kept (h' := h') fun b o e => kp b o ?_ (Heap.get?_push_of_some _ e)
    have lt : b < s.heap.objs.size := Heap.lt_size e
    rw [List.mem_singleton]
    exact Nat.ne_of_lt lt
end

/-! ### data: what a value is worth, whatever its places -/
mutual
inductive Den (K : PySem.W.Frag) (H : Hp) : V → PyData → Prop
  | non : Den K H .non .none
  | bl (b : Bool) : Den K H (.bl b) (.bool b)
  | int (i : Int) : Den K H (.int i) (.int i)
  | str (x : Str) : Den K H (.str x) (.str x)
  | lst {a : Addr} {xs : List V} {ds : List PyData} : SqL K H a xs → DenAll K H xs ds → Den K H (.ref a) (.list ds)
  | tup {a : Addr} {xs : List V} {ds : List PyData} : SqT K H a xs → DenAll K H xs ds → Den K H (.ref a) (.tuple ds)
inductive DenAll (K : PySem.W.Frag) (H : Hp) : List V → List PyData → Prop
  | nil : DenAll K H [] []
  | cons {x : V} {xs : List V} {d : PyData} {ds : List PyData} : Den K H x d → DenAll K H xs ds → DenAll K H (x :: xs) (d :: ds)
end
section
variable {X : Cx} {pins : List (Addr × Obj)} {σ : St} {H : Hp} {s : Shared}
mutual
theorem Den.reads (I : Inv X pins σ H s) : ∀ {v : V} {d : PyData} {u : Value}, Den X.K H v d → RelV v u → ∃ as, Reads s.heap u d as
  | _, _, _, .non, r => by cases r; exact ⟨_, .none⟩
  | _, _, _, .bl b, r => by cases r; exact ⟨_, .bool b⟩
  | _, _, _, .int i, r => by obtain ⟨t, rfl⟩ := r; exact ⟨_, .int i t⟩
  | _, _, _, .str x, r => by obtain ⟨t, rfl⟩ := r; exact ⟨_, .str x t⟩
  | _, _, _, .lst hS ha, r => by
    cases r
    obtain ⟨its, rv, ⟨o, n, e, c, _, d⟩, _⟩ := I.list hS
    obtain ⟨as, ra⟩ := DenAll.reads I ha rv
    exact ⟨_, .list e c d (by simpa using ra)⟩
  | _, _, _, .tup hS ha, r => by
    cases r
    obtain ⟨its, rv, ⟨o, e, c, n, d⟩, _⟩ := I.tuple hS
    obtain ⟨as, ra⟩ := DenAll.reads I ha rv
    exact ⟨_, .tuple e c d (by simpa using ra)⟩
theorem DenAll.reads (I : Inv X pins σ H s) : ∀ {vs : List V} {ds : List PyData} {us : List Value}, DenAll X.K H vs ds → Vals vs us → ∃ as, ReadsAll s.heap us ds as
  | _, _, _, .nil, r => by cases r; exact ⟨_, .nil⟩
  | _, _, _, .cons h t, r => by
    cases r with
    | cons r1 r2 =>
      obtain ⟨as, ra⟩ := Den.reads I h r1
      obtain ⟨bs, rb⟩ := DenAll.reads I t r2
      exact ⟨_, .cons ra rb⟩
end
end
section
variable {X : Cx}
def rEqD (K : PySem.W.Frag) : R2 := fun x y H Q => ∃ da db, Den K H x da ∧ Den K H y db ∧ da.canLay0 = true ∧ db.canLay0 = true ∧ min da.depth db.depth ≤ 60 ∧ Q (.bl (PyData.eqv da db)) H
def rNeD (K : PySem.W.Frag) : R2 := fun x y H Q => ∃ da db, Den K H x da ∧ Den K H y db ∧ da.canLay0 = true ∧ db.canLay0 = true ∧ min da.depth db.depth ≤ 60 ∧ Q (.bl (!PyData.eqv da db)) H
theorem op_eqD {k : Nat} (hr : Room k X.A) : OpR X (compareOp .Eq) (rEqD X.K) := by
  intro pins s σ H x y v u Q I rx ry h
  obtain ⟨da, db, ha, hb, ca, cb, hd, q⟩ := h
  obtain ⟨as, ra⟩ := ha.reads I rx
  obtain ⟨bs, rb⟩ := hb.reads I ry
  have hu := hr.units
  exact PySem.SeqAt.compareEq_reads ra rb ca cb (by omega) ⟨.bl _, H, I, rfl, q⟩
theorem op_neD {k : Nat} (hr : Room k X.A) : OpR X (compareOp .NotEq) (rNeD X.K) := by
  intro pins s σ H x y v u Q I rx ry h
  obtain ⟨da, db, ha, hb, ca, cb, hd, q⟩ := h
  obtain ⟨as, ra⟩ := ha.reads I rx
  obtain ⟨bs, rb⟩ := hb.reads I ry
  have hu := hr.units
  exact PySem.SeqAt.compareNe_reads ra rb ca cb (by omega) ⟨.bl _, H, I, rfl, q⟩

/-! ### isinstance -/
def valOf : V → Value
  | .ref a => .ref a
  | .ty n => .type n
  | _ => .none
theorem call_isinst : CallR X (.builtin "isinstance") (fun xs H Q => ∃ x c t b, xs = [x, c] ∧ TyOf X.K H x t ∧ (c = .ref (match c with | .ref a => a | _ => 0) ∨ ∃ n, c = .ty n) ∧ PySem.W.kitOne X.K t (valOf c) = some b ∧ Q (.bl b) H) := by
  intro pins s σ H xs us Q I r h
  obtain ⟨x, c, t, b, rfl, ty, hc, hk, q⟩ := h
  obtain ⟨u, w', rfl, rx, rc⟩ := vals2 r
  have e : w' = valOf c := by
    cases c with
    | ref a => exact rc
    | ty n => exact rc
    | _ => rcases hc with z | ⟨n, z⟩ <;> cases z
  subst e
  exact isinst_ok I rx ty hk fun tk => ⟨.bl b, H, I.tok _, rfl, q⟩
end
end L2

set_option maxRecDepth 100000
set_option maxHeartbeats 4000000
/-! An attribute of an exception of an own class: through BaseException's own road. -/
namespace L2
open PySem PySem.W

section
variable {prog : Program} {w : World} {A : Around} {E : Value → Shared → Prop} {K : Frag} {x C : Addr} {ox : Obj} {od : Option Obj} {name : Str}

/-- where the road goes behind the look -/
def foundGoes (prog : Program) (w : World) (A : Around) (x C : Addr) (Q : Value → Shared → Prop) (s : Shared) : Builtin.ObjectAttr.Found → Prop
  | .value v => handedIn v = true ∧ Q v s
  | .bind g a => wpAny (model prog w) A (call g [a, .ref x, .ref C]) (fun v s' => handedIn v = true ∧ Q v s') (fun _ _ => False) s
  | .missing => False

theorem exc_entry {s : Shared} {tk : Tok} {r : Builtin.ObjectAttr.Found} {Q : Value → Shared → Prop} (X : K.In s.heap) (I : InstAt s.heap x ox C od) (hf : findObj K C od name = some r) (h : foundGoes prog w A x C Q s r) :
    wpAny (model prog w) A (Builtin.«object.__getattribute__» ⟨[.ref x, .str name tk], []⟩) (fun fin s' => match fin with | .done (.ret v) => handedIn v = true ∧ Q v s' | _ => False) (fun _ _ => False) s := by
  obtain ⟨hh, g, d, t, os⟩ := s
  have L0 := I.type (M := model prog w)
  have L1 := looks_find (M := model prog w) X I hf
  unfold Builtin.«object.__getattribute__»
  refine wpAny_bind (wpAny_pure ?_)
  dsimp only
  refine wpAny_bind (wpAny_pure ?_)
  refine wpAny_bind (L0.at ?_)
  refine wpAny_bind (L1.at ?_)
  cases r with
  | value v => exact wpAny_pure h
  | bind g a =>
    dsimp only
    unfold Builtin.ObjectAttr.bindTo
    exact wpAny_bind (wpAny_holding (wpAny_mono h (fun v s' q => wpAny_pure q) fun _ _ z => z))
  | missing => exact False.elim h

theorem exc_call {s : Shared} {tk : Tok} {r : Builtin.ObjectAttr.Found} {Q : Value → Shared → Prop} (X : K.In s.heap) (I : InstAt s.heap x ox C od) (hm : mroIn K C (.type "BaseException") = some true) (hf : findObj K C od name = some r)
    (h : foundGoes prog w A.in1 x C Q s r) :
    wpAny (model prog w) A (call (.builtin "BaseException.__getattribute__") [.ref x, .str name tk]) (fun v s' => handedIn v = true ∧ Q v s') (fun _ _ => False) s := by
  have hk : builtinKind "BaseException.__getattribute__" = some .slot := by decide +kernel
  have hsplit : splitId "BaseException.__getattribute__" = some ("BaseException", "__getattribute__") := by decide +kernel
  have ha := PySem.F.args_bexc_ga (.ref x) (.str name tk)
  have L0 := I.type (M := model prog w)
  have L1 := looks_mroIn (M := model prog w) X hm
  refine wpAny_call (codeAny_call_builtin PySem.F.attr_ValueError.ga.plain PySem.F.entry_bexc_ga ?_)
  simp only [checkBuiltinCall, hk, hsplit]
  refine wpAny_bind ?_
  unfold isInstance
  refine wpAny_bind (L0.here (L1.here ?_))
  rw [if_neg (by decide)]
  unfold argsOk at ha
  have go := wpAny_mono (exc_entry (tk := tk) X I hf h) (Q' := fun fin s' => match fin with
    | .done f => (match (Except.ok f : Result) with | .ok (.ret v) => handedIn v = true ∧ Q v s' | .ok _ => False | .error _ => False)
    | .again c' => c'.quiet = true ∧ codeAny (model prog w) A c' (fun r s' => match r with | .ok (.ret v) => handedIn v = true ∧ Q v s' | .ok _ => False | .error _ => False) s') (fun fin s' z => by
      rcases fin with (_ | _ | _ | _) | _ <;> first | exact z | exact False.elim z) fun _ _ z => z
  cases hs : Manifest.signature? "BaseException.__getattribute__" with
  | none => exact wpAny_pure go
  | some sg =>
    rw [hs] at ha
    dsimp only at ha ⊢
    rw [ha]
    exact wpAny_pure go

theorem exc_by {s : Shared} {tk : Tok} {fill expr : Bool} {r : Builtin.ObjectAttr.Found} {Q : Value → Shared → Prop} (X : K.In s.heap) (I : InstAt s.heap x ox C od) (hm : mroIn K C (.type "BaseException") = some true) (hf : findObj K C od name = some r)
    (hga : findIn K (.ref C) "__getattribute__" = some (some (.builtin "BaseException.__getattribute__"))) (hgn : findIn K (.ref C) "__getattr__" = some none) (h : foundGoes prog w A.in1 x C Q s r) :
    wpAny (model prog w) A (getAttrBy (.ref x) (.str name tk) fill expr) Q E s := by
  have L0 := I.type (M := model prog w)
  have L1 := looks_findIn (M := model prog w) X hga
  have L2 := looks_findIn (M := model prog w) X hgn
  have hx2 : (Value.builtin "BaseException.__getattribute__" == Value.builtin "object.__getattribute__") = false := by decide +kernel
  unfold getAttrBy
  refine wpAny_holding (wpAny_bind (L0.here (wpAny_bind (L1.here ?_))))
  dsimp only
  rw [hx2, Bool.and_false, if_neg (by decide)]
  unfold getAttrByItsOwn hookBefore
  rw [if_pos (show onTheHeap (Value.ref C) = true from rfl)]
  refine wpAny_bind (L2.here (wpAny_bind (wpAny_attempt (wpAny_holding ?_))))
  unfold callGetattribute
  rw [show (expr && onTheHeap (Value.builtin "BaseException.__getattribute__")) = false by cases expr <;> rfl, if_neg (by decide)]
  unfold boundAndCalled
  rw [PySem.F.attr_ValueError.ga.bind (.ref x)]
  refine wpAny_bind (wpAny_pure (wpAny_mono (exc_call X I hm hf h) ?_ fun _ _ z => False.elim z))
  rintro v s' ⟨hv, q⟩
  exact handed_on hv q

theorem exc_attr {s : Shared} {expr : Bool} {r : Builtin.ObjectAttr.Found} {Q : Value → Shared → Prop} (X : K.In s.heap) (I : InstAt s.heap x ox C od) (hm : mroIn K C (.type "BaseException") = some true) (hf : findObj K C od name = some r)
    (hga : findIn K (.ref C) "__getattribute__" = some (some (.builtin "BaseException.__getattribute__"))) (hgn : findIn K (.ref C) "__getattr__" = some none) (h : foundGoes prog w A.in1 x C Q { s with toks := s.toks + 1 } r) :
    wpAny (model prog w) A (getAttr (.ref x) name expr) Q E s := by
  unfold getAttr
  exact wpAny_bind (wpAny_mkText (exc_by (s := { s with toks := s.toks + 1 }) X I hm hf hga hgn h))
theorem exc_attrQ {s : Shared} {r : Builtin.ObjectAttr.Found} {Q : Option Value → Shared → Prop} (X : K.In s.heap) (I : InstAt s.heap x ox C od) (hm : mroIn K C (.type "BaseException") = some true) (hf : findObj K C od name = some r)
    (hga : findIn K (.ref C) "__getattribute__" = some (some (.builtin "BaseException.__getattribute__"))) (hgn : findIn K (.ref C) "__getattr__" = some none) (h : foundGoes prog w A.in1 x C (fun v s' => Q (some v) s') { s with toks := s.toks + 1 } r) :
    wpAny (model prog w) A (getAttr? (.ref x) name) Q E s := by
  unfold getAttr? getAttrBy?
  refine wpAny_bind (wpAny_mkText (wpAny_bind (wpAny_attempt (wpAny_mono (exc_by (E := fun _ _ => False) (s := { s with toks := s.toks + 1 }) X I hm hf hga hgn h) ?_ fun _ _ z => False.elim z))))
  intro v s' q
  exact wpAny_pure q
/-- __class__ of an exception -/
theorem exc_class {s : Shared} {Q : Option Value → Shared → Prop} (X : K.In s.heap) (I : InstAt s.heap x ox C od) (hm : mroIn K C (.type "BaseException") = some true) (hmo : mroIn K C (.type "object") = some true)
    (hga : findIn K (.ref C) "__getattribute__" = some (some (.builtin "BaseException.__getattribute__"))) (hgn : findIn K (.ref C) "__getattr__" = some none) (hdct : (clsIn K C).isSome = true)
    (ha : findIn K (.ref C) "__class__" = some (some (.builtin "object.__class__"))) (hn : specialIn K (.builtin "object.__class__") "__get__" = some (some (.builtin "getset_descriptor.__get__"))) (htk : takesIn K (.builtin "object.__class__") = some true)
    (q : Q (some (.ref C)) { s with toks := s.toks + 1 }) : wpAny (model prog w) A (getAttr? (.ref x) "__class__") Q E s := by
  have hf : findObj K C od "__class__" = some (.bind (.builtin "getset_descriptor.__get__") (.builtin "object.__class__")) := by
    obtain ⟨cd, hcd⟩ := Option.isSome_iff_exists.mp hdct
    unfold findObj
    rw [hcd, Option.bind_some, ha, Option.bind_some]
    simp [hn, htk]
  exact exc_attrQ X I hm hf hga hgn (wpAny_call (class_get (s := { s with toks := s.toks + 1 }) X I hmo ⟨rfl, q⟩))
end
end L2

set_option linter.all false
set_option maxRecDepth 100000
set_option maxHeartbeats 4000000
namespace L2
open PySem PySem.Spec PyProof.Rows

/-- what the written part says of a class whose exceptions are asked for their class -/
structure ExcK (K : PySem.W.Frag) (C : Addr) : Prop where
  hm : PySem.W.mroIn K C (.type "BaseException") = some true
  hmo : PySem.W.mroIn K C (.type "object") = some true
  hga : PySem.W.findIn K (.ref C) "__getattribute__" = some (some (.builtin "BaseException.__getattribute__"))
  hgn : PySem.W.findIn K (.ref C) "__getattr__" = some none
  hc : (PySem.W.clsIn K C).isSome = true
  ha : PySem.W.findIn K (.ref C) "__class__" = some (some (.builtin "object.__class__"))
  hn : PySem.W.specialIn K (.builtin "object.__class__") "__get__" = some (some (.builtin "getset_descriptor.__get__"))
  ht : PySem.W.takesIn K (.builtin "object.__class__") = some true

theorem kitx_exc {K : PySem.W.Frag} {x C : Addr} (k : ExcK K C) : PySem.W.KitX K (.ref x) (.ref C) (fun h => ∃ ox od, PySem.W.InstAt h x ox C od) where
  ty := fun _ _ _ ⟨_, _, I⟩ => I.type
  it := fun _ _ X _ => by
    obtain ⟨cd, hcd⟩ := Option.isSome_iff_exists.mp k.hc
    unfold PySem.W.clsIn at hcd
    split at hcd
    · rename_i c2 d2 cd2 sl2 ho
      intro A Q E s kp q
      unfold isType loadHead
      exact wpAny_bind (wpAny_loadPart (kp _ _ (X _ _ ho)) (wpAny_pure q))
    · cases hcd
  ne := fun h tp dd its n sl X htp => by
    obtain ⟨cd, hcd⟩ := Option.isSome_iff_exists.mp k.hc
    refine Bool.eq_false_iff.mpr fun q => ?_
    have e : C = tp := Value.ref.inj (beq_iff_eq.mp q)
    subst e
    unfold PySem.W.clsIn at hcd
    split at hcd
    · rename_i c2 d2 cd2 sl2 ho
      have z := (X _ _ ho).symm.trans htp
      cases z
    · cases hcd
  ca := fun X ⟨_, _, I⟩ q => exc_class X I k.hm k.hmo k.hga k.hgn k.hc k.ha k.hn k.ht q

section
variable {X : Cx}
end
end L2

set_option linter.all false
set_option maxRecDepth 100000
set_option maxHeartbeats 4000000
namespace L2
open PySem PySem.Spec PyProof.Rows

theorem Same.new {H : Hp} {p : Addr} (h : H p = none) (o : HO) : Same H (upd H p o) := fun b u q => by rw [upd_ne (ne_of_none q h)]; exact q
/-- a comprehension whose element is worth ys at its places -/
theorem comp_pure {J : It} {xs ys : List V} {H : Hp} {cap : St} {te : TE} {Q : VK} (hn : xs.length ≤ sizeLine) (hl : ys.length = xs.length)
    (go : ∀ i H', Same H H' → i < xs.length → J.go i H') (yld : ∀ i H' x H'', Same H H' → i < xs.length → J.yld i H' x H'' → H'' = H' ∧ xs[i]? = some x) (stop : ∀ H', Same H H' → J.stop xs.length H')
    (el : ∀ (i : Nat) x y H' (P : VK), Same H H' → xs[i]? = some x → ys[i]? = some y → (∀ H'', Same H' H'' → P y H'') → te (some x :: cap) H' P) (fin : ∀ D H', Same H H' → H' D = some (.lst ys) → Q (.ref D) H') :
    Comped J cap te Q H := by
  intro D hD
  refine ⟨fun i m zs H2 => m = xs.length - i ∧ i ≤ xs.length ∧ zs = ys.take i ∧ H2 D = some (.lst zs) ∧ Same H H2, ⟨xs.length, rfl, Nat.zero_le _, by simp, upd_same, Same.new hD _⟩, ?_⟩
  rintro i m zs H2 ⟨rfl, hi, hz, hDz, hS⟩
  refine ⟨hDz, ?_⟩
  by_cases h : i < xs.length
  · refine .inr ⟨go i H2 hS h, ?_⟩
    intro x H3 hy
    obtain ⟨rfl, hx⟩ := yld i H2 x H3 hS h hy
    obtain ⟨yv, hyi⟩ : ∃ yv, ys[i]? = some yv := ⟨ys[i]'(by omega), List.getElem?_eq_getElem (by omega)⟩
    have hzl : zs.length = i := by rw [hz, List.length_take]; omega
    refine el i x yv H3 _ hS hx hyi fun H4 hS4 => ⟨hS4 _ _ hDz, by omega, xs.length - (i + 1), by omega, rfl, h, ?_, upd_same, fun b u q => ?_⟩
    · rw [hz, List.take_add_one, hyi]
      rfl
    · rw [upd_ne (ne_of_none q hD)]
      exact hS4 _ _ (hS _ _ q)
  · have e : i = xs.length := by omega
    subst e
    refine .inl ⟨stop H2 hS, fin D H2 hS ?_⟩
    rw [hDz, hz, List.take_of_length_le (by omega)]

/-- .. over the signs of a text -/
theorem comp_signs {x : Str} {H : Hp} {cap : St} {te : TE} {Q : VK} (f : Nat → V) (hn : x.length ≤ sizeLine)
    (el : ∀ c H' (P : VK), Same H H' → (∀ H'', Same H' H'' → P (f c) H'') → te (some (.str ⟨#[c]⟩) :: cap) H' P) (fin : ∀ D H', Same H H' → H' D = some (.lst (x.cps.toList.map f)) → Q (.ref D) H') :
    Comped (Its x) cap te Q H := by
  have hs : x.cps.toList.length = x.cps.size := by simp
  have hlen : (x.cps.toList.map fun c => V.str ⟨#[c]⟩).length = x.cps.size := by rw [List.length_map, hs]
  refine comp_pure (xs := x.cps.toList.map fun c => V.str ⟨#[c]⟩) (ys := x.cps.toList.map f) (by rw [hlen]; exact hn) (by rw [List.length_map, List.length_map]) ?_ ?_ ?_ ?_ fin
  · intro i H' _ h
    rw [hlen] at h
    exact h
  · rintro i H' y H'' _ _ ⟨rfl, c, hc, rfl⟩
    refine ⟨rfl, ?_⟩
    have hc' : x.cps.toList[i]? = some c := by simpa using hc
    rw [List.getElem?_map, hc']
    rfl
  · intro H' _
    rw [hlen]
    exact Nat.le_refl _
  · intro i y z H' P hS h1 h2 hP
    rw [List.getElem?_map] at h1 h2
    cases hc : x.cps.toList[i]? with
    | none => rw [hc] at h1; cases h1
    | some c =>
      rw [hc] at h1 h2
      cases h1
      cases h2
      exact el c H' P hS hP
/-- .. over range(n) -/
theorem comp_range {lo : Int} {n : Nat} {H : Hp} {cap : St} {te : TE} {Q : VK} (f : Nat → V) (hn : n ≤ sizeLine)
    (el : ∀ (i : Nat) H' (P : VK), i < n → Same H H' → (∀ H'', Same H' H'' → P (f i) H'') → te (some (.int (lo + i)) :: cap) H' P) (fin : ∀ D H', Same H H' → H' D = some (.lst ((List.range n).map f)) → Q (.ref D) H') :
    Comped (Itr lo n) cap te Q H := by
  have hlen : ((List.range n).map fun (i : Nat) => V.int (lo + i)).length = n := by rw [List.length_map, List.length_range]
  refine comp_pure (xs := (List.range n).map fun (i : Nat) => V.int (lo + i)) (ys := (List.range n).map f) (by rw [hlen]; exact hn) (by rw [List.length_map, List.length_map]) ?_ ?_ ?_ ?_ fin
  · intro i H' _ h
    rw [hlen] at h
    exact h
  · rintro i H' y H'' _ h ⟨rfl, rfl⟩
    refine ⟨rfl, ?_⟩
    rw [hlen] at h
    rw [List.getElem?_map, List.getElem?_range h]
    rfl
  · intro H' _
    rw [hlen]
    exact Nat.le_refl _
  · intro i y z H' P hS h1 h2 hP
    rw [List.getElem?_map] at h1 h2
    cases hc : (List.range n)[i]? with
    | none => rw [hc] at h1; cases h1
    | some c =>
      obtain ⟨h3, h4⟩ := List.getElem?_eq_some_iff.mp hc
      rw [hc] at h1 h2
      rw [List.getElem_range] at h4
      subst h4
      cases h1
      cases h2
      rw [List.length_range] at h3
      exact el i H' P h3 hS hP
end L2

namespace L2
open PySem PySem.Spec PyProof.Rows
def ClIn (env : Env) : List (Str × Addr) → Prop
  | [] => True
  | p :: r => env.cells.lookup p.1 = some p.2 ∧ ClIn env r
theorem ClIn.mem {env : Env} : ∀ {cl : List (Str × Addr)} {p : Str × Addr}, ClIn env cl → p ∈ cl → env.cells.lookup p.1 = some p.2
  | [], _, _, h => by cases h
  | q :: r, p, k, h => by
    rcases List.mem_cons.mp h with z | z
    · subst z; exact k.1
    · exact ClIn.mem k.2 z
/-- a comprehension, its sides shown by computation -/
theorem pe_compR {X : Cx} {x : Str} {px pos : Pos} {elt iter : Expr} {sc : Scope} {wi : TI} {te : TE} (ys : List Str) (js : List Nat) (cl : List (Str × Addr)) (hclos : closureFor sc X.env = pure cl) (hcap : Caps X sc cl ys js) (hin : ClIn X.env cl)
    (hi : PI X.nox (.Name x px) iter wi) (he : ∀ s2 H2 C ex, PE (compCx X sc (x :: ys) cl s2 H2 C ex) elt te) (hc : X.calm = true := by rfl)
    (hcell : (sc.names.all fun p => p.2 != NameKind.cell) = true := by rfl) (hkind : sc.kind = .function := by rfl) (hnames : (sc.names.all fun p => p.2 != NameKind.local || sc.names.lookup p.1 == some NameKind.local) = true := by rfl)
    (hx : (relabel sc X.env).names.lookup x = some .local := by rfl) (hhas : ((relabel sc X.env).names.all fun p => p.2 == NameKind.local || p.2 == NameKind.globalImplicit || (cl.lookup p.1).isSome) = true := by rfl)
    (hnd : (x :: ys).Nodup := by decide +kernel) (hs : ∀ v, foldedSetIterable iter X.env v = pure v := by intro _; rfl) : PE X (.ListComp elt [⟨.Name x px, iter, [], 0⟩] sc pos) (tComp wi js te) := by
  refine pe_comp hclos (fun y hy z => ?_) hkind (fun y hy z => ?_) hx hcap (fun y c e => hin.mem (PySem.mem_of_lookup e)) (fun y h => ?_) hnd hc hi he hs
  · have := List.all_eq_true.mp hcell y hy
    rw [z] at this
    exact absurd this (by decide)
  · have := List.all_eq_true.mp hnames y hy
    rw [z] at this
    simpa using this
  · have hm : ∃ k, (y, k) ∈ (relabel sc X.env).names ∧ (k = .cell ∨ k = .free) := by
      rcases h with h | h
      · exact ⟨_, PySem.mem_of_lookup h, .inl rfl⟩
      · exact ⟨_, PySem.mem_of_lookup h, .inr rfl⟩
    obtain ⟨k, hk, hz⟩ := hm
    have := List.all_eq_true.mp hhas _ hk
    rcases hz with rfl | rfl
    · exact Option.isSome_iff_exists.mp (by simpa using this)
    · exact Option.isSome_iff_exists.mp (by simpa using this)
end L2

set_option linter.all false
set_option maxRecDepth 100000
set_option maxHeartbeats 4000000
namespace L2
open PySem PySem.Spec PyProof.Rows

/-! ### a def of the text with its promise, by its name -/
def Def (P : Program) (w : World) (K : PySem.W.Frag) (mg : Str → Option Value) (base : Heap) (CX : CXT) (x : Str) (k : Nat) (ps : List Str) (sp : Sp) : Prop :=
  ∃ f fd, FnOk P w K mg base CX k f fd ps sp ∧ Binds K fd ps [] ∧ PySem.W.keepIn K (.ref f) = true ∧ mg x = some (.ref f)
section
variable {X : Cx} {CX : CXT} {j k : Nat} {ps : List Str} {sp : Sp} {E : XK} {x : Str} {p pos : Pos} {e : Expr} {es : List Expr} {t : TA}
theorem pe_callD (D : Def X.prog X.w X.K X.mg X.base CX x j ps sp) (hr : Room k X.A) (hx : Passes CX X E) (ha : PA X (e :: es) t) (hj : j ≤ k := by decide) (hg : Gl X x := by rfl)
    (hdb : (x == ("__debug__" : Str)) = false := by decide) (he : starEach (e :: es) X.env = (false, eval e X.env) :: starEach es X.env := by rfl) (hpl : (backTo pos (starEach es X.env)).any (·.1) = false := by rfl) :
    PE X (.Call (.Name x p) (e :: es) [] pos) (tCall sp [] E t) := by
  obtain ⟨f, fd, F, b, kk, m⟩ := D
  exact pe_call F (hr.mono hj) hg m kk b .nil hx ha hdb he hpl
theorem pex_callD (D : Def X.prog X.w X.K X.mg X.base (CX1 X.prog X.w) x j ps sp) (hr : Room k X.A) (ha : PA X.nox (e :: es) t) (hj : j ≤ k := by decide) (hg : Gl X x := by rfl)
    (hdb : (x == ("__debug__" : Str)) = false := by decide) (he : starEach (e :: es) X.env = (false, eval e X.env) :: starEach es X.env := by rfl) (hpl : (backTo pos (starEach es X.env)).any (·.1) = false := by rfl) :
    PEX X (.Call (.Name x p) (e :: es) [] pos) (tCallX sp [] t) := by
  obtain ⟨f, fd, F, b, kk, m⟩ := D
  exact pex_call F (hr.mono hj) hg m kk b .nil ha hdb he hpl
/-! ### a cut: what holds behind a statement, said once -/
def tCut (t : TS) : TS := fun D σ H => ∃ P : St → Hp → Prop, t { D with nx := P } σ H ∧ ∀ σ' H', P σ' H' → D.nx σ' H'
theorem ps_cut {st : Stmt} {t : TS} (h : PS X st t) : PS X st (tCut t) := by
  rintro pins s σ H D I ⟨P, hp, hq⟩
  refine thn (h pins s σ H _ I hp) fun f s' q => ?_
  cases f with
  | next =>
    obtain ⟨σ', H', I', q⟩ := q
    exact ⟨σ', H', I', hq _ _ q⟩
  | brk => exact q
  | cont => exact q
  | ret v => exact q
def tCutE (t : TE) : TE := fun σ H Q => ∃ P : VK, t σ H P ∧ ∀ v H', P v H' → Q v H'
end
end L2

set_option linter.all false
set_option maxRecDepth 100000
set_option maxHeartbeats 4000000
namespace L2
open PySem PySem.Spec PyProof.Rows

/-- a def of the text as the written part has it -/
def FunIn (K : PySem.W.Frag) (x : Str) (st : Stmt) : Prop := ∃ f fd, PySem.W.nsIn K mainGlobals x = some (some (.ref f)) ∧ Fun K x x st f fd
theorem funIn_mk {K : PySem.W.Frag} {x : Str} {st : Stmt} {f : Addr} {oc : Value} {od an : Option Addr} {osl : Array (Option Value)} {kV doc pm cdv ct : Value} (a : PySem.W.nsIn K mainGlobals x = some (some (.ref f)))
    (l : K.lookup f = some ⟨oc, od, .func (PySem.W.fnOf x x (defArgs st) (defBody st) (defScope st) .none kV doc pm an cdv ct), osl⟩) (c : PySem.W.codeIn K cdv x = true) (k : PySem.W.keepIn K (.ref f) = true) : FunIn K x st :=
  ⟨f, _, a, fun_mk l c k⟩
theorem Def.of {P : Program} {w : World} {K : PySem.W.Frag} {mg : Str → Option Value} {base h : Heap} {CX : CXT} {x : Str} {k : Nat} {ps : List Str} {sp : Sp} {st : Stmt} (X : K.In h) (G : h.Ns mainGlobals mg) (FI : FunIn K x st)
    (ok : ∀ f fd, Fun K x x st f fd → FnOk P w K mg base CX k f fd ps sp)
    (hb : ∀ (kV doc pm : Value) (an : Option Addr) (cdv ct : Value) (us : List Value), us.length = ps.length → bindArgs (PySem.W.fnOf x x (defArgs st) (defBody st) (defScope st) .none kV doc pm an cdv ct) ⟨us, []⟩ = pure (ps.zip us)) :
    Def P w K mg base CX x k ps sp := by
  obtain ⟨f, fd, a, F⟩ := FI
  exact ⟨f, fd, ok f fd F, F.binds hb, F.kp, PySem.W.mg_of X G a⟩
end L2

set_option maxRecDepth 100000
set_option maxHeartbeats 4000000
/-! An attribute stored into an exception of an own class. -/
namespace L2
open PySem PySem.W Builtin Builtin.ObjectAttr

/-- own classes, then those of ValueError -/
def onlyVE : List Value → Bool
  | .ref _ :: r => onlyVE r
  | l => l == [.type "ValueError", .type "Exception", .type "BaseException", .type "object"]
theorem onlyVE_nil : onlyVE [] = false := by decide
theorem onlyVE_other {v : Value} {r : List Value} (h : ∀ c, v ≠ .ref c) (e : onlyVE (v :: r) = true) : v :: r = [.type "ValueError", .type "Exception", .type "BaseException", .type "object"] := by
  have z : onlyVE (v :: r) = (v :: r == [.type "ValueError", .type "Exception", .type "BaseException", .type "object"]) := by
    cases v <;> first | rfl | exact absurd rfl (h _)
  rw [z] at e
  exact beq_iff_eq.mp e
theorem refuse_VE (self : Value) : ∀ {l : List Value}, onlyVE l = true → refuseLoop self "__setattr__" l = pure ()
  | [], e => by rw [onlyVE_nil] at e; cases e
  | v :: r, e => by
    by_cases h : ∃ c, v = .ref c
    · obtain ⟨c, rfl⟩ := h
      rw [refuseLoop_ref]
      exact refuse_VE self (l := r) e
    · rw [onlyVE_other (fun c z => h ⟨c, z⟩) e]
      exact PySem.F.store_ValueError.passes self
theorem has_VE : ∀ {l : List Value}, onlyVE l = true → l.contains (.type "object") = true
  | [], e => by rw [onlyVE_nil] at e; cases e
  | v :: r, e => by
    by_cases h : ∃ c, v = .ref c
    · obtain ⟨c, rfl⟩ := h
      rw [List.contains_cons, has_VE (l := r) e, Bool.or_true]
    · rw [onlyVE_other (fun c z => h ⟨c, z⟩) e]
      decide

section
variable {prog : Program} {w : World} {A : Around} {E : Value → Shared → Prop} {K : Frag} {x C : Addr} {ox : Obj} {od : Option Obj} {name : Str} {s : Shared} {cd : ClassData} {v : Value} {R : Result → Shared → Prop}
theorem osa_exc {tk : Tok} (X : K.In s.heap) (I : InstAt s.heap x ox C od) (hc : clsIn K C = some cd) (ho : onlyVE cd.mro = true) (ht : takerIn K C name = some none)
    (h : ∀ b, wpAny (model prog w) A.in1 (storeInOwnDict (.ref x) (.ref C) (.str name tk) name v b)
      (fun fin s' => match fin with | .done f => R (.ok f) s' | .again c' => c'.quiet = true ∧ codeAny (model prog w) A c' R s') (fun e s' => R (.error e) s') s) :
    codeAny (model prog w) A (.call (.builtin "object.__setattr__") ⟨[.ref x, .str name tk, v], []⟩) R s := by
  have SF := PySem.F.store_object
  have ne : cd.mro.isEmpty = false := by cases q : cd.mro with | nil => rw [q, onlyVE_nil] at ho; cases ho | cons _ _ => rfl
  have sub : Looks (model prog w) s.heap (isInstance (.ref x) (.type "object")) true := I.type.andThen (looks_mroIn X (by unfold mroIn; rw [hc, Option.bind_some, if_neg (by rw [ne]; decide), has_VE ho]))
  refine codeAny_call_builtin SF.slot.plain SF.entry (@check_slot (model prog w) _ _ s "object.__setattr__" "object" "__setattr__" (.ref x) [.str name tk, v] [] _ SF.kind SF.split sub (SF.args (.ref x) (.str name tk) v) ?_)
  obtain ⟨attr, ha, hr⟩ := Option.bind_eq_some_iff.mp ht
  have hm : Looks (model prog w) s.heap (mroOf (.ref C)) cd.mro := (looks_clsIn X hc).andThen .now
  have L3 : Looks (model prog w) s.heap (storeTaker? attr) none := by
    cases attr with
    | none => exact .now
    | some a =>
      obtain ⟨b, hb, e⟩ := Option.map_eq_some_iff.mp hr
      refine (looks_takesIn X hb).andThen ?_
      cases b with
      | true => cases e
      | false => exact .now
  rw [osa_eq, refuse_eq]
  refine wpAny_bind (wpAny_bind (I.type.here (wpAny_bind (hm.here ?_))))
  rw [refuse_VE _ ho]
  refine wpAny_pure (wpAny_bind (I.type.here (wpAny_bind ((looks_findIn X ha).here (wpAny_bind (L3.here ?_))))))
  exact h _

/-- the first attribute: its dict is made -/
theorem exc_set_new {ws : Array Value} {Q : Unit → Shared → Prop} (X : K.In s.heap) (I : InstAt s.heap x ox C od) (hc : clsIn K C = some cd) (ho : onlyVE cd.mro = true) (ht : takerIn K C name = some none)
    (hs : findIn K (.ref C) "__setattr__" = some (some (.builtin "object.__setattr__"))) (hdd : cd.hasDict = true) (hn : ox.dict = none) (hf : ox.data = .fields ws)
    (h : ∀ h', h'.get? x = some { ox with dict := some s.heap.objs.size } → h'.Ns1 s.heap.objs.size (fun y => if y = name then some v else none) →
      (∀ b o, b ≠ x → s.heap.get? b = some o → h'.get? b = some o) → Q () { s with heap := h', toks := s.toks + 2 }) :
    wpAny (model prog w) A (setAttr (.ref x) name v) Q E s := by
  refine PySem.W.set_plain X I hs (osa_exc (s := { s with toks := s.toks + 1 }) X I hc ho ht fun b => ?_)
  obtain ⟨hx, hcl, _, _⟩ := I
  have hxs : x ≠ s.heap.objs.size := Nat.ne_of_lt (Heap.lt_size hx)
  unfold storeInOwnDict ownStreamTells
  refine wpAny_bind (wpAny_pure ?_)
  rw [if_neg (by intro z; cases (beq_iff_eq.mp z))]
  refine wpAny_bind ?_
  unfold ownDictForStores instanceDict
  refine wpAny_bind (wpAny_loadPart hx ?_)
  rw [hcl]
  dsimp only
  refine wpAny_bind (Looks.here (s := { s with toks := s.toks + 1 }) (looks_clsIn X hc) ?_)
  rw [hdd, hn, hf]
  dsimp only
  rw [if_neg (by decide), if_neg (show ¬ ((!true || !typeHasDict (Value.ref C)) = true) by simp [typeHasDict])]
  have hx1 : (s.heap.push { cls := .type "dict", data := .dict #[] }).get? x = some ox := Heap.get?_push_of_some _ hx
  refine wpAny_bind (wpAny_alloc' ?_)
  refine wpAny_bind (wpAny_update' hx1 ?_)
  refine wpAny_pure ?_
  have hgd : ((s.heap.push { cls := .type "dict", data := .dict #[] }).update x fun o => { cls := o.cls, dict := some s.heap.objs.size, data := o.data, slots := o.slots }).get? s.heap.objs.size = some { cls := .type "dict", data := .dict #[] } :=
    (Heap.get?_update_ne _ _ _ _ hxs.symm).trans (Heap.get?_push_at rfl rfl)
  have hnd : ((s.heap.push { cls := .type "dict", data := .dict #[] }).update x fun o => { cls := o.cls, dict := some s.heap.objs.size, data := o.data, slots := o.slots }).Ns s.heap.objs.size (fun _ => none) :=
    ⟨_, #[], _, hgd, rfl, fun e he => absurd he (by simp), fun _ => rfl⟩
  show wpAny _ _ (storeInDict s.heap.objs.size (.str name _) name v) _ _ _
  unfold storeInDict newKeyGuard
  refine wpAny_bind (wpAny_pure (wpAny_bind (wpAny_nsSet1 (Heap.Ns1.of_empty hnd) fun h' hn' hs' => ?_)))
  obtain ⟨oD, esD, epD, hoD, hdD, hcD⟩ := hn'.count (Within.cons name v Within.nil)
  refine wpAny_bind (wpAny_lookBehind hoD (by rw [hdD]; exact pastItsLine_dict (Nat.le_trans hcD (by rw [List.length_cons, List.length_nil, sizeLine_eq]; omega))) ?_)
  refine wpAny_pure (h h' ?_ hn' fun b ob hbx hb => ?_)
  · refine (hs'.2 x hxs).trans (Heap.get?_update_self _ hx1 ?_)
    exact Obj.isFreed_of_fields (o := { ox with dict := some s.heap.objs.size }) (by exact hf)
  · exact (hs'.2 b (Nat.ne_of_lt (Heap.lt_size hb))).trans ((Heap.get?_update_ne _ _ _ _ hbx).trans (Heap.get?_push_of_some _ hb))
/-- a later attribute -/
theorem exc_set_old {dx : Addr} {mA : Str → Option Value} {ns : List Str} {Q : Unit → Shared → Prop} (X : K.In s.heap) (I : InstAt s.heap x ox C od) (hc : clsIn K C = some cd) (ho : onlyVE cd.mro = true) (ht : takerIn K C name = some none)
    (hs : findIn K (.ref C) "__setattr__" = some (some (.builtin "object.__setattr__"))) (hdd : cd.hasDict = true) (hn : ox.dict = some dx) (hm : s.heap.Ns1 dx mA) (hw : PySem.Within mA ns) (hsz : ns.length ≤ 1000)
    (h : ∀ h', h'.Ns1 dx (fun y => if y = name then some v else mA y) → Heap.SameBut dx s.heap h' → Q () { s with heap := h', toks := s.toks + 2 }) :
    wpAny (model prog w) A (setAttr (.ref x) name v) Q E s := by
  refine PySem.W.set_plain X I hs (osa_exc (s := { s with toks := s.toks + 1 }) X I hc ho ht fun b => ?_)
  obtain ⟨hx, hcl, _, _⟩ := I
  unfold storeInOwnDict ownStreamTells
  refine wpAny_bind (wpAny_pure ?_)
  rw [if_neg (by intro z; cases (beq_iff_eq.mp z))]
  refine wpAny_bind ?_
  unfold ownDictForStores instanceDict
  refine wpAny_bind (wpAny_loadPart hx ?_)
  rw [hcl]
  dsimp only
  refine wpAny_bind (Looks.here (s := { s with toks := s.toks + 1 }) (looks_clsIn X hc) ?_)
  rw [hdd, hn]
  dsimp only
  rw [if_neg (by decide)]
  refine wpAny_pure ?_
  show wpAny _ _ (storeInDict dx (.str name _) name v) _ _ _
  unfold storeInDict newKeyGuard
  refine wpAny_bind (wpAny_pure (wpAny_bind (wpAny_nsSet1 hm fun h' hn' hs' => ?_)))
  obtain ⟨oD, esD, epD, hoD, hdD, hcD⟩ := hn'.count (Within.cons name v hw)
  refine wpAny_bind (wpAny_lookBehind hoD (by rw [hdD]; exact pastItsLine_dict (Nat.le_trans hcD (by rw [List.length_cons, sizeLine_eq]; omega))) ?_)
  exact wpAny_pure (h h' hn' hs')
end
end L2

set_option maxRecDepth 100000
set_option maxHeartbeats 4000000
/-! C(..) of an own exception class with an own __init__. -/
namespace L2
open PySem PySem.W
section
variable {prog : Program} {w : World} {A : Around} {E : Value → Shared → Prop} {h : Heap} {g : Array GenState} {d : Drawn} {t : Nat} {os : OsState}
variable {nm q : Str} {C N fI : Addr} {bs bm bmB : List Value} {hdct : Bool} {sn : List Str} {sub : List Value} {ab : Bool} {col : Option Bool} {dd : Option Addr} {k0 k1 k2 k3 k5 : Option Value} {B Bn newId nid initId inN : String} {bmN : List Value} {K : Frag}

abbrev excObj (C t : Addr) : Obj := { cls := .ref C, data := .fields #[.ref t, .none, .none, .none, .bool false, .none] }
abbrev excObjD (C t : Addr) (dO : Option Addr) : Obj := { cls := .ref C, dict := dO, data := .fields #[.ref t, .none, .none, .none, .bool false, .none] }
abbrev excHeap (h : Heap) (C : Addr) (rest : List Value) : Heap := (h.push { cls := .type "tuple", data := .seq rest.toArray }).push (excObj C h.objs.size)
theorem type_call_init (Fn : ExcBaseFacts Bn newId inN bmN) (hBn : bmB.contains (.type Bn) = true) (F : ExcBaseFacts B nid initId bmB) (T : OwnTail h bmB bm) {rest : List Value} {Q : Fin → Shared → Prop} (X : K.In h)
    (hC : h.get? C = some (excClassObj nm q C N bs bm hdct sn sub ab col dd k0 k1 k2 k3 k5 newId)) (hi : findIn K (.ref C) "__init__" = some (some (.ref fI))) (hf : typeIn K (.ref fI) = some (.type "function"))
    (hq : wpAny (model prog w) A (call (.ref fI) (.ref (h.objs.size + 1) :: rest)) (fun v s' => v = .none ∧ Q (.done (.ret (.ref (h.objs.size + 1)))) s') E ⟨excHeap h C rest, g, d, t, os⟩) (hrest : rest.length ≤ sizeLine) :
    wpAny (model prog w) A (Builtin.«type.__call__» ⟨.ref C :: rest, []⟩) Q E ⟨h, g, d, t, os⟩ := by
  repeat (first | with_reducible refine wpAny_loadPart_at hC ?_ | with_reducible refine wpAny_madeBy_exc hC ?_ | wp_step)
  refine codeAny_call_builtin_code (Code.quiet_builtin _ Fn.quiet) (wpAny_check_new_subU Fn hBn T hC ?_)
  refine codeAny_exc_new_subU Fn hBn F T hC ?_ hrest
  show wpAny _ _ _ _ _ _
  have hC₁ := Heap.get?_push_of_some { cls := .ref C, data := .fields #[.ref h.objs.size, .none, .none, .none, .bool false, .none] }
    (Heap.get?_push_of_some { cls := .type "tuple", data := .seq rest.toArray } hC)
  have hget : ((h.push { cls := .type "tuple", data := .seq rest.toArray }).push
      { cls := .ref C, data := .fields #[.ref h.objs.size, .none, .none, .none, .bool false, .none] }).get? (h.objs.size + 1) = some
      { cls := .ref C, data := .fields #[.ref h.objs.size, .none, .none, .none, .bool false, .none] } := by heap_get
  have hcC : (Value.ref C :: bm).contains (.ref C) = true := by simp
  have X₁ : K.In (excHeap h C rest) := X.keeps fun b o e => Heap.get?_push_of_some _ (Heap.get?_push_of_some _ e)
  unfold isInstance
  repeat (first | with_reducible refine wpAny_loadPart_at hget ?_ | (with_reducible refine wpAny_isSubtype_exc hC₁ ?_; rw [hcC]) | wp_step)
  show wpAny _ _ (typeLookup (.ref C) _) _ _ _
  refine (looks_findIn X₁ hi).at ?_
  refine wpAny_holding (wpAny_bind ((bind_fn X₁ _ hf).at ?_))
  refine wpAny_bind (wpAny_mono hq ?_ fun _ _ z => z)
  rintro v s' ⟨rfl, z⟩
  wp_walk
  exact z
theorem call_init (Fn : ExcBaseFacts Bn newId inN bmN) (hBn : bmB.contains (.type Bn) = true) (F : ExcBaseFacts B nid initId bmB) (T : OwnTail h bmB bm) {rest : List Value} {Q : Value → Shared → Prop} (X : K.In h)
    (hC : h.get? C = some (excClassObj nm q C N bs bm hdct sn sub ab col dd k0 k1 k2 k3 k5 newId)) (hi : findIn K (.ref C) "__init__" = some (some (.ref fI))) (hf : typeIn K (.ref fI) = some (.type "function"))
    (hq : wpAny (model prog w) (A.under (.builtin "type.__call__" ⟨.ref C :: rest, []⟩)) (call (.ref fI) (.ref (h.objs.size + 1) :: rest)) (fun v s' => v = .none ∧ Q (.ref (h.objs.size + 1)) s') E ⟨excHeap h C rest, g, d, t, os⟩) (hrest : rest.length ≤ sizeLine) :
    wpAny (model prog w) A (call (.ref C) rest) Q E ⟨h, g, d, t, os⟩ := by
  have f1 := tc_lookup
  have f2 := tc_bind (.ref C)
  have hT : (⟨h, g, d, t, os⟩ : Shared).TypeIs (.ref C) "type" := ⟨_, hC, rfl⟩
  refine wpAny_call (codeAny_of_tree ?_)
  show wpAny _ _ (callAny (.ref C) _) _ _ _
  repeat (any_goals (first | assumption | with_reducible refine wpAny_loadPart_at hC ?_ | wp_step))
  refine ⟨rfl, ?_⟩
  refine codeAny_call_builtin_at (Code.quiet_builtin _ (by decide +kernel)) entry_typeCall (wpAny_check_type_call_sub hC (type_call_init Fn hBn F T X hC hi hf ?_ hrest))
  exact hq
end
section
variable {prog : Program} {w : World} {A : Around} {E : Value → Shared → Prop} {s : Shared} {env : Env}
variable {nm q : Str} {C N fI : Addr} {bs bm bmB : List Value} {hdct : Bool} {sn : List Str} {sub : List Value} {ab : Bool} {col : Option Bool} {dd : Option Addr} {k0 k1 k2 k3 k5 : Option Value} {B Bn newId nid initId inN : String} {bmN : List Value} {K : Frag}

/-- what is raised may have a dict -/
theorem raiseStmt_any {M : Model} {x : Sem Value} {Q : Flow → Shared → Prop} (hbase : bm.contains (.type "BaseException") = true) (hh : A.handled = none)
    (h : wpAny M A x (fun v s₁ => ∃ e t dO, v = .ref e ∧ s₁.heap.get? C = some (excClassObj nm q C N bs bm hdct sn sub ab col dd k0 k1 k2 k3 k5 newId) ∧ s₁.heap.get? e = some (excObjD C t dO) ∧ E (.ref e) s₁) E s) :
    wpAny M A (raiseStmt env (some x) none) Q E s := by
  have hcB : (Value.ref C :: bm).contains (.type "BaseException") = true := by rw [List.contains_cons, hbase, Bool.or_true]
  unfold raiseStmt
  refine wpAny_bind (wpAny_mono h (fun v s₁ h₁ => ?_) fun _ _ x => x)
  obtain ⟨e, t, dO, rfl, hC, he, hE⟩ := h₁
  obtain ⟨hp, g, d, tk, os⟩ := s₁
  repeat (first | with_reducible refine wpAny_loadPart_at he ?_ | with_reducible refine wpAny_loadPart_at hC ?_ | (with_reducible refine wpAny_isSubtype_exc hC ?_; rw [hcB]) | wp_step)
  exact wpAny_raiseNew_none hh hE

theorem Raise_init (Fn : ExcBaseFacts Bn newId inN bmN) (hBn : bmB.contains (.type Bn) = true) (F : ExcBaseFacts B nid initId bmB) {x : Str} {np cpos pos : Pos} {args : List Expr} {Q : Flow → Shared → Prop}
    (hbase : bm.contains (.type "BaseException") = true) (hh : A.handled = none) (hplain : (backTo cpos (starEach args env)).any (·.1) = false) (hi : findIn K (.ref C) "__init__" = some (some (.ref fI))) (hf : typeIn K (.ref fI) = some (.type "function"))
    (h : wpAny (model prog w) A (eval (.Name x np) env) (fun f s₁ => f = .ref C ∧ wpAny (model prog w) A (evalArgs (.ref C) true (backTo cpos (starEach args env)) [])
      (fun a s₂ => a.kw = [] ∧ a.pos.length ≤ sizeLine ∧ s₂.heap.get? C = some (excClassObj nm q C N bs bm hdct sn sub ab col dd k0 k1 k2 k3 k5 newId) ∧ K.In s₂.heap ∧ OwnTail s₂.heap bmB bm ∧
        wpAny (model prog w) (A.under (.builtin "type.__call__" ⟨.ref C :: a.pos, []⟩)) (call (.ref fI) (.ref (s₂.heap.objs.size + 1) :: a.pos)) (fun v s' => v = .none ∧ s'.heap.get? C = some (excClassObj nm q C N bs bm hdct sn sub ab col dd k0 k1 k2 k3 k5 newId) ∧
          (∃ t dO, s'.heap.get? (s₂.heap.objs.size + 1) = some (excObjD C t dO)) ∧ E (.ref (s₂.heap.objs.size + 1)) s') E { s₂ with heap := excHeap s₂.heap C a.pos }) E s₁) E s) :
    wpAny (model prog w) A (exec (.Raise (some (.Call (.Name x np) args [] cpos)) none pos) env) Q E s := by
  rw [arm_exec_Raise]
  first
    | refine wpAny_bind (wpAny_standAt (raiseStmt_any (C := C) (nm := nm) (q := q) (N := N) (bs := bs) (bm := bm) (hdct := hdct) (sn := sn) (sub := sub) (ab := ab) (col := col) (dd := dd) (k0 := k0) (k1 := k1) (k2 := k2) (k3 := k3) (k5 := k5) (newId := newId) hbase hh (wpAny_bind (wpAny_mono (wpAny_Call_ofName (wpAny_mono h (fun f s₁ h₁ => ?_) fun _ _ x => x)) (fun v s₃ h₃ => wpAny_bind (wpAny_standAt (wpAny_pure h₃))) fun _ _ x => x))))
    | (simp only [evalOpt, Option.map]; refine wpAny_bind (wpAny_standAt (raiseStmt_any (C := C) (nm := nm) (q := q) (N := N) (bs := bs) (bm := bm) (hdct := hdct) (sn := sn) (sub := sub) (ab := ab) (col := col) (dd := dd) (k0 := k0) (k1 := k1) (k2 := k2) (k3 := k3) (k5 := k5) (newId := newId) hbase hh (wpAny_bind (wpAny_mono (wpAny_Call_ofName (wpAny_mono h (fun f s₁ h₁ => ?_) fun _ _ x => x)) (fun v s₃ h₃ => wpAny_bind (wpAny_standAt (wpAny_pure h₃))) fun _ _ x => x)))))
  obtain ⟨rfl, h₁⟩ := h₁
  unfold callWith
  refine wpAny_bind (wpAny_holding (wpAny_mono h₁ (fun a s₂ h₂ => wpAny_bind (wpAny_standAt ?_)) fun _ _ x => x))
  obtain ⟨apos, akw⟩ := a
  obtain ⟨hkw, hlen, hC, X, T, h₂⟩ := h₂
  obtain rfl : akw = [] := hkw
  obtain ⟨hp, g, d, tk, os⟩ := s₂
  simp only [hplain]
  refine wpAny_bind (wpAny_keeperOf_exc hC ?_)
  refine wpAny_bind (call_init Fn hBn F T X hC hi hf (wpAny_mono h₂ ?_ fun _ _ z => z) hlen)
  rintro v s' ⟨rfl, hC', ⟨t, dO, he⟩, hE⟩
  exact ⟨rfl, wpAny_bind (wpAny_holding (wpAny_point (wpAny_pure ⟨_, t, dO, rfl, hC', he, hE⟩)))⟩
end
end L2

set_option linter.all false
set_option maxRecDepth 100000
set_option maxHeartbeats 4000000
/-! Exceptions with fields over the layer: made with an own __init__, raised, caught, read. -/
namespace L2
open PySem PySem.Spec PyProof.Rows

/-- a new exception of the class at C, its dict at d -/
def newO (a C : Addr) (d : Option Addr) : HO := .ext fun h => ∃ t, h.get? a = some (excObjD C t d)
/-- an exception's dict, with these attributes -/
def xdO (a : Addr) (fs : List (Str × V)) : HO := .ext fun h => ∃ mA, h.Ns1 a mA ∧ ∀ f, RelO (fs.lookup f) (mA f)
section
variable {P : Program} {w : World} {H : Hp} {h : Heap} {a C : Addr} {d : Option Addr} {fs : List (Str × V)}
theorem newO_ok (x : ∃ t, h.get? a = some (excObjD C t d)) : ObjOk P w H h a (newO a C d) := by
  obtain ⟨t, e⟩ := x
  refine ⟨⟨t, e⟩, ⟨_, e⟩, ?_⟩
  rintro h1 h2 ⟨t, f⟩ k
  exact ⟨t, k _ f⟩
theorem newO_get (x : ObjOk P w H h a (newO a C d)) : ∃ t, h.get? a = some (excObjD C t d) := x.1
theorem xdO_ok (x : ∃ mA, h.Ns1 a mA ∧ ∀ f, RelO (fs.lookup f) (mA f)) : ObjOk P w H h a (xdO a fs) := by
  obtain ⟨mA, n, r⟩ := x
  refine ⟨⟨mA, n, r⟩, ?_, ?_⟩
  · obtain ⟨o, _, _, e, _⟩ := n
    exact ⟨o, e⟩
  · rintro h1 h2 ⟨mA, n, r⟩ k
    obtain ⟨o, es, ep, e, q⟩ := n
    exact ⟨mA, ⟨o, es, ep, k _ e, q⟩, r⟩
theorem xdO_get (x : ObjOk P w H h a (xdO a fs)) : ∃ mA, h.Ns1 a mA ∧ ∀ f, RelO (fs.lookup f) (mA f) := x.1
theorem within_of {mA : Str → Option Value} (r : ∀ f, RelO (fs.lookup f) (mA f)) : PySem.Within mA (fs.map (·.1)) := by
  intro g hg
  cases q : fs.lookup g with
  | none =>
    have z := r g
    rw [q] at z
    exact absurd z.none_of hg
  | some v =>
    exact List.mem_map.mpr ⟨(g, v), PySem.mem_of_lookup q, rfl⟩
end

/-- what the text says of a class whose exceptions bear attributes -/
structure XCls (K : PySem.W.Frag) (C : Addr) : Prop where
  cd : ∃ cd, PySem.W.clsIn K C = some cd ∧ onlyVE cd.mro = true ∧ cd.hasDict = true
  sa : PySem.W.findIn K (.ref C) "__setattr__" = some (some (.builtin "object.__setattr__"))
def XNo (K : PySem.W.Frag) (C : Addr) (f : Str) : Prop := PySem.W.findIn K (.ref C) f = some none
theorem XNo.taker {K : PySem.W.Frag} {C : Addr} {f : Str} (n : XNo K C f) : PySem.W.takerIn K C f = some none := by
  unfold PySem.W.takerIn
  rw [n]
  rfl

theorem get_push_ne {h : Heap} {o v : Obj} {b : Addr} (z : (h.push o).get? b = some v) (hb : b ≠ h.objs.size) : h.get? b = some v := by
  rw [← z]
  exact (Heap.get?_push_ne h b o hb).symm
def sX (K : PySem.W.Frag) (ta tv : TE) (f : Str) : TS := fun D σ H => tv σ H fun y H1 => ta σ H1 fun x H2 => ∃ a C, x = .ref a ∧ XCls K C ∧ XNo K C f ∧
  ((H2 a = some (newO a C none) ∧ ∀ dx, H2 dx = none → dx ≠ a → D.nx σ (upd (upd H2 dx (xdO dx [(f, y)])) a (newO a C (some dx)))) ∨
    (∃ dx fs, H2 a = some (newO a C (some dx)) ∧ H2 dx = some (xdO dx fs) ∧ fs.length < 1000 ∧ D.nx σ (upd H2 dx (xdO dx (putF f y fs)))))
section
variable {X : Cx} {o value : Expr} {f : Str} {pos pos' : Pos} {ta tv : TE}
theorem ps_xset (ha : PE X o ta) (hv : PE X value tv) (hs : swapsWith value (some (.Attribute o f pos')) pos.line X.env = pure false := by rfl) : PS X (.Assign [.Attribute o f pos'] value pos) (sX X.K ta tv f) := by
  intro pins s σ H D I h
  refine plainObj_wpAny_Assign_Attribute (thn (hv pins s σ H _ I h) fun u s1 ⟨y, H1, I1, ry, q⟩ => thn (ha pins s1 σ H1 _ I1 q) fun ov s2 ⟨x, H2, I2, rx, a, C, ex, c, n, q2⟩ => ?_) hs
  subst ex
  obtain rfl : ov = Value.ref a := rx
  obtain ⟨cd, c1, c2, c3⟩ := c.cd
  rcases q2 with ⟨ea, q2⟩ | ⟨dx, fs, ea, ed, hl, q2⟩
  · obtain ⟨t, et⟩ := newO_get (I2.hok a _ ea)
    have hI : PySem.W.InstAt s2.heap a (excObjD C t none) C none := ⟨et, rfl, rfl, trivial⟩
    refine exc_set_new I2.kIn hI c1 c2 n.taker c.sa c3 rfl rfl fun h' g1 g2 g3 => ?_
    have nd : H2 s2.heap.objs.size = none := I2.hok.fresh (Nat.le_refl _)
    have na : s2.heap.objs.size ≠ a := Ne.symm (Nat.ne_of_lt (Heap.lt_size et))
    obtain ⟨od, es, ep, e1, e2⟩ := id g2
    have hfr : od.isFreed = false := (Heap.get?_some_iff.mp e1).2
    have p1 : (s2.heap.push od).get? s2.heap.objs.size = some od := Heap.get?_push_size _ hfr
    have J1 := I2.laid (a := s2.heap.objs.size) (o := xdO s2.heap.objs.size [(f, y)]) (h' := s2.heap.push od) (t' := s2.toks) (fun b v z => Heap.get?_push_of_some _ z) (Nat.le_refl _) (xdO_ok ⟨_, ⟨od, es, ep, p1, e2⟩, fun g => by
      by_cases z : g = f
      · subst z
        simp only [List.lookup, beq_self_eq_true, if_pos]
        exact ry
      · have z' : (g == f) = false := beq_eq_false_iff_ne.mpr z
        simp only [List.lookup, z', if_neg z]
        trivial⟩)
    refine ⟨σ, _, J1.write (x := a) (e := a) (o := newO a C (some s2.heap.objs.size)) (h' := h') (t' := s2.toks + 2) ?_ (.inl rfl) ?_ ⟨_, g1⟩ (newO_ok ⟨t, g1⟩), q2 _ nd na⟩
    · rw [upd_ne (Ne.symm na), ea]
      exact True.intro
    · intro b v hb z
      by_cases hd : b = s2.heap.objs.size
      · subst hd
        rw [p1] at z
        cases z
        exact e1
      · refine g3 b v hb ?_
        exact get_push_ne z hd
  · obtain ⟨t, et⟩ := newO_get (I2.hok a _ ea)
    obtain ⟨mA, hm, r⟩ := xdO_get (I2.hok dx _ ed)
    obtain ⟨od, es, ep, e1, e2⟩ := id hm
    have hI : PySem.W.InstAt s2.heap a (excObjD C t (some dx)) C (some od) := ⟨et, rfl, rfl, e1⟩
    refine exc_set_old I2.kIn hI c1 c2 n.taker c.sa c3 rfl hm (within_of r) (by rw [List.length_map]; omega) fun h' g1 g2 => ?_
    refine ⟨σ, _, I2.write (x := dx) (e := dx) (o := xdO dx (putF f y fs)) (h' := h') (t' := s2.toks + 2) (by rw [ed]; exact True.intro) (.inl rfl) (fun b v hb z => (g2.2 b hb).trans z) (let ⟨o, _, _, e', _⟩ := g1; ⟨o, e'⟩) (xdO_ok ⟨_, g1, fun g => ?_⟩), q2⟩
    rw [lookup_putF]
    by_cases z : g = f
    · rw [if_pos z, if_pos z]; exact ry
    · rw [if_neg z, if_neg z]; exact r g
end
end L2

set_option linter.all false
set_option maxRecDepth 100000
set_option maxHeartbeats 4000000
namespace L2
open PySem PySem.Spec PyProof.Rows

def del (H : Hp) (a : Addr) : Hp := fun b => if b = a then none else H b
theorem del_same {H : Hp} {a : Addr} : del H a a = none := if_pos rfl
theorem del_ne {H : Hp} {a b : Addr} (h : b ≠ a) : del H a b = H b := if_neg h
theorem del_some {H : Hp} {a b : Addr} {u : HO} (h : del H a b = some u) : b ≠ a ∧ H b = some u := by
  by_cases e : b = a
  · subst e; rw [del_same] at h; cases h
  · rw [del_ne e] at h; exact ⟨e, h⟩
theorem del_none {H : Hp} {a b : Addr} (h : H b = none) : del H a b = none := by
  by_cases e : b = a
  · subst e; exact del_same
  · rw [del_ne e]; exact h
/-- what stays when an exception that was tracked is let go -/
theorem Same.del {H H' : Hp} {a : Addr} (e : Same H H') (n : H a = none) : Same H (del H' a) := fun b o q => by
  rw [del_ne (ne_of_none q n)]
  exact e b o q

section
variable {X : Cx} {pins : List (Addr × Obj)} {σ : St} {H H' : Hp} {s s1 : Shared} {B h' : Heap} {a C : Addr} {d : Option Addr}
theorem un_del {fs : List Addr} {φ : Heap → Prop} (e : H a = some (.ext φ)) : Un fs [] H (del H a) s.heap s.heap where
  keep := fun b o q _ _ _ => q
  slot := fun b o q _ _ _ => ⟨o.slots, q⟩
  free := fun b o q n _ => del_none n
  there := fun b o q _ => ⟨o, q⟩
  tups := fun b xs q => by rw [del_ne (by intro z; subst z; rw [e] at q; cases q)]; exact q
  frzs := fun b o u q => by rw [del_ne (by intro z; subst z; rw [e] at q; cases q)]; exact q
  tbls := fun b ps q => ⟨#[], by rw [del_ne (by intro z; subst z; rw [e] at q; cases q)]; simpa using q⟩
theorem hok_del {φ : Heap → Prop} {P : Program} {w : World} {h : Heap} (ok : HOk P w H h) (e : H a = some (.ext φ)) : HOk P w (del H a) h := fun b u q => by
  obtain ⟨hb, q⟩ := del_some q
  refine (ok b u q).stay (fun _ _ _ z => z) (fun c z => ?_) fun c xs z => ?_
  · rw [del_ne (by intro y; subst y; rw [e] at z; cases z)]; exact z
  · rw [del_ne (by intro y; subst y; rw [e] at z; cases z)]; exact z
/-- behind a flight, the exception itself being one of the objects -/
theorem Inv.flown2 (I : Inv X pins σ H s) (os : s1.os = s.os) (bare : AllBare s1.gens) (un : Un (frs X.stack) [] H H' s.heap s1.heap) (hok : HOk X.prog X.w H' s1.heap) (bs : B.StaysIn s1.heap)
    (b1 : ∀ b o, s.heap.get? b = some o → b ∉ frs X.stack → H b = none → B.get? b = some o) (b2 : ∀ b u, H' b = some u → ∃ o, B.get? b = some o)
    (b3 : ∀ b o, s.heap.get? b = some o → b ∈ frs X.stack ∨ (∃ o', B.get? b = some o') ∨ ∃ o', h'.get? b = some o') (st : B.StaysIn h') (up : s1.heap.UpToSlots h') : Inv X pins σ H' { s1 with heap := h' } := by
  have nf : ∀ b ∈ frs X.stack, ∀ o, s.heap.get? b = some o → ∀ vs, o.data ≠ .fields vs := fun b hb o e => by
    obtain ⟨_, o', e', r⟩ := I.stack.mem hb
    rw [e] at e'
    cases e'
    exact r
  have sl : ∀ b o, s.heap.get? b = some o → b ∈ frs X.stack → ∃ sl, h'.get? b = some { o with slots := sl } := fun b o e hb => by
    obtain ⟨s2, e2⟩ := un.slot b o e (I.stkFree b hb) hb (by simp)
    obtain ⟨s3, e3⟩ := up b _ e2 (nf b hb o e)
    exact ⟨s3, e3⟩
  refine I.call' (s' := { s1 with heap := h' }) os ⟨fun b o e n hb _ => st b o (b1 b o e hb n), fun b o e n hb _ => sl b o e hb, un.free, fun b o e hx => ?_, un.tups, un.frzs, un.tbls⟩ (fun b u e => ?_) bare fun b z => nomatch z
  · rcases b3 b o e with z | ⟨o', z⟩ | z
    · obtain ⟨_, q⟩ := sl b o e z
      exact ⟨_, q⟩
    · exact ⟨o', st b o' z⟩
    · exact z
  · refine (hok b u e).stay (fun c v hc q => ?_) (fun _ q => q) fun _ _ q => q
    have ht : ∃ u', H' c = some u' := by
      rcases hc with rfl | hc
      · exact ⟨u, e⟩
      · exact ⟨_, hc⟩
    obtain ⟨u', hu⟩ := ht
    obtain ⟨o, ho⟩ := b2 c u' hu
    have q' := bs c o ho
    rw [q] at q'
    cases q'
    exact st c v ho
end

section
variable {P : Program} {w : World} {K : PySem.W.Frag} {mg : Str → Option Value} {base : Heap} {N : List Str} {qual : Str} {scope : Scope} {f : Addr} {cd : Value} {A : Around} {outer : List Env} {s₀ : Shared} {H₀ : Hp} {E : XK}
/-- an exception with attributes leaves the def that made it -/
theorem leaves_any {pins : List (Addr × Obj)} {σ : St} {H : Hp} {s : Shared} {a C : Addr} {d : Option Addr} (I : Inv (cxOf (CX1 P w) P w K mg base N qual scope f cd A outer s₀ H₀ E) pins σ H s)
    (hd : H a = some (newO a C d)) (n0 : s₀.heap.get? a = none) (q : E (.ref C) d (del H a)) : (cxOf (CX1 P w) P w K mg base N qual scope f cd A outer s₀ H₀ E).xe (.ref a) s := by
  have hfr : (envOfC qual scope s₀.heap.objs.size f cd).frame = some s₀.heap.objs.size := rfl
  have hstk : s.heap.FunFrames base (envOfC qual scope s₀.heap.objs.size f cd :: outer) := I.stack
  obtain ⟨t, et⟩ := newO_get (I.hok a _ hd)
  have nfr : a ∉ frs (envOfC qual scope s₀.heap.objs.size f cd :: outer) := fun z => by
    have := I.stkFree a z
    rw [hd] at this
    cases this
  have hin : ∀ env ∈ (envOfC qual scope s₀.heap.objs.size f cd :: outer), ∀ b, env.frame = some b → b ∈ a :: frs (envOfC qual scope s₀.heap.objs.size f cd :: outer) := fun env he b hb => .tail _ (List.mem_filterMap.mpr ⟨env, he, hb⟩)
  have hB := PySem.W.funFrames_hide hstk hin
  have hBa : (PySem.W.hideAll s.heap (a :: frs (envOfC qual scope s₀.heap.objs.size f cd :: outer))).get? a = none := PySem.W.hideAll_none _ (.head _)
  generalize hBB : PySem.W.hideAll s.heap (a :: frs (envOfC qual scope s₀.heap.objs.size f cd :: outer)) = B at hB hBa
  have inB : ∀ b o, s.heap.get? b = some o → b ≠ a → b ∉ frs (envOfC qual scope s₀.heap.objs.size f cd :: outer) → B.get? b = some o := fun b o e n1 n => by
    rw [← hBB]
    refine PySem.W.hideAll_get _ e fun z => ?_
    rcases List.mem_cons.mp z with z | z
    · exact n1 z
    · exact n z
  have ofB : ∀ b o, B.get? b = some o → s.heap.get? b = some o := fun b o e => by rw [← hBB] at e; exact PySem.W.of_hideAll _ e
  show wpAny _ _ (leaving _ (.ref a)) _ _ _
  refine leave_first (B := B) (outer := outer) (s := s) I.ok.frames hB hfr et (fun b o e => ofB b o e) hBa rfl rfl fun h' x y => ?_
  have b2 : ∀ b u, del H a b = some u → ∃ o, B.get? b = some o := fun b u e => by
    obtain ⟨hb, e⟩ := del_some e
    obtain ⟨o, eo⟩ := (I.hok b u e).ex
    refine ⟨o, inB b o eo hb fun z => ?_⟩
    have := I.stkFree b z
    rw [this] at e
    cases e
  have J := I.flown2 (s1 := s) (H' := del H a) rfl I.bare (un_del hd) (hok_del I.hok hd) (fun b o e => ofB b o e) (fun b o e hb n => inB b o e (by intro z; subst z; rw [hd] at n; cases n) hb) b2 (fun b o e => by
    by_cases hb : b ∈ frs (envOfC qual scope s₀.heap.objs.size f cd :: outer)
    · exact .inl hb
    · by_cases hba : b = a
      · subst hba
        obtain ⟨ox, ws, e1, _⟩ := x.obj
        exact .inr (.inr ⟨ox, e1⟩)
      · exact .inr (.inl ⟨o, inB b o e hba hb⟩)) x.stays y
  have nL : ∀ b o, s₀.heap.get? b = some o → b ∉ frs outer → b ∉ frs (envOfC qual scope s₀.heap.objs.size f cd :: outer) := fun b o e hb z => by
    rw [frs_cons hfr] at z
    rcases List.mem_cons.mp z with z | z
    · exact absurd (Heap.lt_size e) (by rw [z]; exact Nat.lt_irrefl _)
    · exact hb z
  have nA : ∀ b o, s₀.heap.get? b = some o → b ≠ a := fun b o e z => by rw [z, n0] at e; cases e
  refine ⟨a, .ref C, d, B, del H a, rfl, J.os, J.bare, J.base, J.hok, x, del_same, fun b o e hb n => ?_, b2, fun b o e => ?_, q⟩
  · exact inB b o (I.base.keep b o e n hb (by intro z; cases z)) (nA b o e) (nL b o e hb)
  · obtain ⟨o', e'⟩ := I.base.there b o e (by intro z; cases z)
    by_cases hb : b ∈ frs outer
    · exact .inl hb
    · exact .inr ⟨o', inB b o' e' (nA b o e) (nL b o e hb)⟩

/-- what the text says of a class that is raised and has an own __init__ at fI -/
structure XRaise (K : PySem.W.Frag) (C fI : Addr) : Prop where
  obj : ∃ nm qn NN bs bm hd sn sub ab col dd k0 k1 k2 k3 k5, K.lookup C = some (excClassObj nm qn C NN bs bm hd sn sub ab col dd k0 k1 k2 k3 k5 "ValueError.__new__") ∧ PySem.W.tailIn K bmVE bm = true
  init : PySem.W.findIn K (.ref C) "__init__" = some (some (.ref fI))
  fn : PySem.W.typeIn K (.ref fI) = some (.type "function")
def tRaiseI (C : Addr) (sp : Sp) (E : XK) (t : TA) : TS := fun _ σ H => t σ H fun vs H1 => vs.length ≤ sizeLine ∧ ∀ a, H1 a = none →
  sp (.ref a :: vs) (upd H1 a (newO a C none)) (fun v H2 => v = .non ∧ ∃ d, H2 a = some (newO a C d) ∧ E (.ref C) d (del H2 a)) E0
theorem ps_raiseI {x : Str} {C fI : Addr} {fd : FuncData} {ps : List Str} {sp : Sp} {k : Nat} {e : Expr} {es : List Expr} {t : TA} {np cpos pos : Pos} (hg : Gl (cxOf (CX1 P w) P w K mg base N qual scope f cd A outer s₀ H₀ E) x) (hm : mg x = some (.ref C)) (R : XRaise K C fI)
    (G : FnOk P w K mg base CX0 k fI fd ps sp) (hr : Room (k + 1) (cxOf (CX1 P w) P w K mg base N qual scope f cd A outer s₀ H₀ E).A) (hb : Binds K fd ps [])
    (ha : PA (cxOf (CX1 P w) P w K mg base N qual scope f cd A outer s₀ H₀ E) (e :: es) t) (hdb : (x == ("__debug__" : Str)) = false := by decide)
    (he : starEach (e :: es) (cxOf (CX1 P w) P w K mg base N qual scope f cd A outer s₀ H₀ E).env = (false, eval e (cxOf (CX1 P w) P w K mg base N qual scope f cd A outer s₀ H₀ E).env) :: starEach es (cxOf (CX1 P w) P w K mg base N qual scope f cd A outer s₀ H₀ E).env := by rfl)
    (hpl : (backTo cpos (starEach es (cxOf (CX1 P w) P w K mg base N qual scope f cd A outer s₀ H₀ E).env)).any (·.1) = false := by rfl) :
    PS (cxOf (CX1 P w) P w K mg base N qual scope f cd A outer s₀ H₀ E) (.Raise (some (.Call (.Name x np) (e :: es) [] cpos)) none pos) (tRaiseI C sp E t) := by
  intro pins s σ H D I h
  obtain ⟨nm, qn, NN, bs, bm, hdd, sn, sub, ab, col, dd, k0, k1, k2, k3, k5, lC, ht⟩ := R.obj
  have hbase : bm.contains (.type "BaseException") = true := (PySem.W.tail_of_in I.kIn ht).hasType (by decide)
  refine Raise_init (K := K) (C := C) (nm := nm) (q := qn) (N := NN) (bs := bs) (bm := bm) (hdct := hdd) (sn := sn) (sub := sub) (ab := ab) (col := col) (dd := dd) (k0 := k0) (k1 := k1) (k2 := k2) (k3 := k3) (k5 := k5) (newId := "ValueError.__new__")
    PySem.F.excBase_ValueError (by decide : bmVE.contains (.type "ValueError") = true) PySem.F.excBase_ValueError hbase (I.ok.hd rfl) ?_ R.init R.fn (ld_glob I hg hm ⟨rfl, ?_⟩ hdb)
  · rw [he]
    show (false || (backTo cpos (starEach es _)).any (·.1)) = false
    rw [hpl]
    rfl
  · have hp := ha cpos pins s σ H _ I h
    rw [he] at hp ⊢
    refine Calls.evalArgs_plain (thn hp ?_)
    rintro us s2 ⟨vs, H1, I2, r, hz, q⟩
    refine ⟨rfl, by rw [← r.length]; exact hz, I2.kIn _ _ lC, I2.kIn, PySem.W.tail_of_in I2.kIn ht, ?_⟩
    have I3 : Inv (cxOf (CX1 P w) P w K mg base N qual scope f cd A outer s₀ H₀ E) pins σ (upd H1 (s2.heap.objs.size + 1) (newO (s2.heap.objs.size + 1) C none)) { s2 with heap := excHeap s2.heap C us } := by
      have J := I2.kept (h' := s2.heap.push { cls := .type "tuple", data := .seq us.toArray }) (t' := s2.toks) fun b o e => Heap.get?_push_of_some _ e
      refine J.laid (a := s2.heap.objs.size + 1) (h' := excHeap s2.heap C us) (t' := s2.toks) (fun b o e => Heap.get?_push_of_some _ e) (Nat.le_of_eq (Heap.size_push _ _)) (newO_ok ⟨s2.heap.objs.size, ?_⟩)
      exact Heap.get?_push_at (by rw [Heap.size_push]) rfl
    have nA : H1 (s2.heap.objs.size + 1) = none := I2.hok.fresh (Nat.le_succ _)
    have hq := q _ nA
    have r2 : Vals (V.ref (s2.heap.objs.size + 1) :: vs) (Value.ref (s2.heap.objs.size + 1) :: us) := .cons rfl r
    have hl : ((Value.ref (s2.heap.objs.size + 1) :: us) ++ []).length = ps.length := by
      rw [List.append_nil, ← r2.length]
      exact G.len _ _ _ _ hq
    have hbd := hb { s2 with heap := excHeap s2.heap C us } (Value.ref (s2.heap.objs.size + 1) :: us) I3.kIn hl
    rw [List.append_nil] at hbd
    refine wpAny_call (codeAny_mono (G.run _ (cxOf (CX1 P w) P w K mg base N qual scope f cd A outer s₀ H₀ E).stack _ _ ⟨Value.ref (s2.heap.objs.size + 1) :: us, []⟩ (Value.ref (s2.heap.objs.size + 1) :: us) _ _ _ (hr.make C us []) (I3.env0.make C us []) hbd r2 hq) fun r s' hq' => ?_)
    cases r with
    | error e => exact False.elim hq'
    | ok fl =>
      cases fl with
      | ret u =>
        obtain ⟨v, H4, I4, rv, ev, d, hd, q4⟩ := I3.after hq'
        subst ev
        have n0 : s₀.heap.get? (s2.heap.objs.size + 1) = none := Heap.get?_none_of_le (Nat.le_trans I2.sz (Nat.le_succ _))
        obtain ⟨t, et⟩ := newO_get (I4.hok _ _ hd)
        exact ⟨rv, I4.kIn _ _ lC, ⟨t, d, et⟩, leaves_any I4 hd n0 q4⟩
      | next => exact False.elim hq'
      | brk => exact False.elim hq'
      | cont => exact False.elim hq'
end

section
variable {X : Cx}
/-- the dict of an exception that is caught: it has none, or a tracked one -/
def XDict (H : Hp) (d : Option Addr) : Prop := d = none ∨ ∃ dx fs, d = some dx ∧ H dx = some (xdO dx fs)
theorem inst_exc {pins : List (Addr × Obj)} {σ : St} {H : Hp} {s : Shared} {a C : Addr} {d : Option Addr} (I : Inv X pins σ H s) (hH : H a = some (excO a (.ref C) d)) (hd : XDict H d) : ∃ ox od, PySem.W.InstAt s.heap a ox C od := by
  obtain ⟨⟨ox, ws, e1, e2, e3, e4⟩, _, _⟩ := (show ObjOk X.prog X.w H s.heap a (excO a (.ref C) d) from I.hok a _ hH)
  have hno : PySem.W.notCls ox = true := by unfold PySem.W.notCls; rw [e4]
  rcases hd with rfl | ⟨dx, fs, rfl, hx⟩
  · exact ⟨ox, none, e1, e2, hno, by rw [e3]; trivial⟩
  · obtain ⟨mA, ⟨od, es, ep, f1, f2⟩, r⟩ := xdO_get (I.hok dx _ hx)
    exact ⟨ox, some od, e1, e2, hno, by rw [e3]; exact f1⟩
theorem call_isinst_x : CallR X (.builtin "isinstance") (fun xs H Q => ∃ a C d c b, xs = [.ref a, c] ∧ H a = some (excO a (.ref C) d) ∧ XDict H d ∧ ExcK X.K C ∧ (c = .ref (match c with | .ref a => a | _ => 0) ∨ ∃ n, c = .ty n) ∧ PySem.W.kitOne X.K (.ref C) (valOf c) = some b ∧ Q (.bl b) H) := by
  intro pins s σ H xs us Q I r h
  obtain ⟨a, C, d, c, b, rfl, hH, hd, hk, hc, hb, q⟩ := h
  obtain ⟨u, w', rfl, rx, rc⟩ := vals2 r
  cases rx
  have e : w' = valOf c := by
    cases c with
    | ref a => exact rc
    | ty n => exact rc
    | _ => rcases hc with z | ⟨n, z⟩ <;> cases z
  subst e
  exact PySem.W.kia_one (kitx_exc hk) I.kIn (inst_exc I hH hd) hb (fun z => nomatch z) fun tk => ⟨.bl b, H, I.tok _, rfl, q⟩

/-- e.f of an exception that was caught -/
def tXFld (K : PySem.W.Frag) (ta : TE) (f : Str) : TE := fun σ H Q => ta σ H fun x H1 => ∃ a C dx fs v, x = .ref a ∧ H1 a = some (excO a (.ref C) (some dx)) ∧ H1 dx = some (xdO dx fs) ∧ ExcK K C ∧ XCls K C ∧ XNo K C f ∧ fs.lookup f = some v ∧ Q v H1
theorem pe_xfld {e : Expr} {f : Str} {pos : Pos} {ta : TE} (he : PE X e ta) (hb : attributeBase e f X.env (eval e X.env) = eval e X.env := by rfl) : PE X (.Attribute e f pos) (tXFld X.K ta f) := by
  intro pins s σ H Q I h
  refine attr_of hb (thn (he pins s σ H _ I h) ?_)
  rintro u s1 ⟨x, H1, I1, rx, a, C, dx, fs, v, rfl, hH, hx, k, c, n, l, q⟩
  obtain rfl : u = Value.ref a := rx
  obtain ⟨⟨ox, ws, e1, e2, e3, e4⟩, _, _⟩ := (show ObjOk X.prog X.w H1 s1.heap a (excO a (.ref C) (some dx)) from I1.hok a _ hH)
  obtain ⟨mA, hn, r⟩ := xdO_get (I1.hok dx _ hx)
  obtain ⟨od, ho, hl⟩ := lookIn_ns hn
  have hI : PySem.W.InstAt s1.heap a ox C (some od) := ⟨e1, e2, by unfold PySem.W.notCls; rw [e4], by rw [e3]; exact ho⟩
  obtain ⟨cd, c1, c2, c3⟩ := c.cd
  have rv := r f
  rw [l] at rv
  obtain ⟨u, hu, ru⟩ := rv.some_of
  have hf : PySem.W.findObj X.K C (some od) f = some (.value u) := by
    unfold PySem.W.findObj
    rw [c1, Option.bind_some, n, Option.bind_some]
    simp only [Option.bind_some, PySem.W.ownOf, c3, hl f, hu, if_true]
  exact exc_attr I1.kIn hI k.hm hf k.hga k.hgn ⟨handed_of ru, ⟨v, H1, I1.tok _, ru, q⟩⟩
end
end L2

set_option Elab.async false
set_option linter.all false
set_option maxRecDepth 100000
namespace L2
open PySem PySem.Spec PyProof.Rows

/-! ### lists of pairs as tables -/
section
variable {κ : Type} [DecidableEq κ]
def valV (kvs : List (κ × V)) (k : κ) : Option V := (kvs.find? fun kv => decide (kv.1 = k)).map (·.2)
/-- in its place, or at the end -/
def putK (kvs : List (κ × V)) (k : κ) (v : V) : List (κ × V) :=
  if (kvs.any fun kv => decide (kv.1 = k)) = true then kvs.map (fun kv => if kv.1 = k then (kv.1, v) else kv) else kvs ++ [(k, v)]
def dropK (kvs : List (κ × V)) (k : κ) : List (κ × V) := kvs.filter fun kv => decide (kv.1 ≠ k)

end


/-! ### a tracked dict, its keys ints and texts or tuples of these -/
/-- raw entries of a dict with tuple keys -/
abbrev KT (H : Hp) : List (List Key × V) → List (List Key × Addr × Value) → Prop := Paired fun p q => p.1 = q.1 ∧ H q.2.1 = some (.tup (p.1.map kV)) ∧ RelV p.2 q.2.2
section
variable {P : Program} {w : World} {H : Hp} {h : Heap} {a : Addr}
end

/-- what the dict at a holds at the key y -/
def DGet (H : Hp) (a : Addr) (y : V) (r : Option V) : Prop :=
  (∃ kvs k, Rd H a (.dK kvs) ∧ y = kV k ∧ r = valV kvs k) ∨ ∃ kvs k b, Rd H a (.dT kvs) ∧ y = .ref b ∧ H b = some (.tup (k.map kV)) ∧ r = valV kvs k
/-- the heap behind a[y] = v -/
def DPut (H : Hp) (a : Addr) (y v : V) (H' : Hp) : Prop :=
  (∃ kvs k, H a = some (.dK kvs) ∧ y = kV k ∧ kvs.length < sizeLine ∧ H' = upd H a (.dK (putK kvs k v))) ∨
  ∃ kvs k b, H a = some (.dT kvs) ∧ y = .ref b ∧ H b = some (.tup (k.map kV)) ∧ kvs.length < sizeLine ∧ H' = upd H a (.dT (putK kvs k v))
section
variable {X : Cx} {pins : List (Addr × Obj)} {σ : St} {H : Hp} {s : Shared} {a : Addr} {y v : V} {u r : Value} {o : Option V} {A : Around} {E : Value → Shared → Prop}

end

section
variable {X : Cx} {pins : List (Addr × Obj)} {σ : St} {H : Hp} {s : Shared} {a : Addr} {kvs : List (Key × V)} {k : Key} {u : Value} {A : Around} {E : Value → Shared → Prop}
end


/-! ### readings and rules -/
/-- the element of a subscription, not a slice -/
def NoSl (i : Expr) : Prop := ∀ ov iv, subscripted i false ov iv = operate [ov, iv] (getItem ov iv)
/-- d[y] -/
def tDGet (td ty : TE) : TE := fun σ H Q => td σ H fun x H1 => ty σ H1 fun y H2 => ∃ a v, x = .ref a ∧ DGet H2 a y (some v) ∧ Q v H2
/-- y in d, y not in d -/
def tDIn (ty td : TE) : TE := fun σ H Q => ty σ H fun y H1 => td σ H1 fun x H2 => ∃ a o, x = .ref a ∧ DGet H2 a y o ∧ Q (.bl o.isSome) H2
def tDNotIn (ty td : TE) : TE := fun σ H Q => ty σ H fun y H1 => td σ H1 fun x H2 => ∃ a o, x = .ref a ∧ DGet H2 a y o ∧ Q (.bl (!o.isSome)) H2
/-- d[y] = v -/
def sDPut (td ty tv : TE) : TS := fun D σ H => tv σ H fun v H1 => td σ H1 fun x H2 => ty σ H2 fun y H3 => ∃ a H4, x = .ref a ∧ DPut H3 a y v H4 ∧ D.nx σ H4
/-- d[y] op= v -/
def sDAug (td ty tv : TE) (rd : V → V → Hp → VK → Prop) : TS := fun D σ H => td σ H fun x H1 => ty σ H1 fun y H2 => ∃ a v, x = .ref a ∧ DGet H2 a y (some v) ∧
  tv σ H2 fun y2 H3 => rd v y2 H3 fun z H4 => ∃ H5, DPut H4 a y z H5 ∧ D.nx σ H5
/-- del d[y] -/
def sDDel (td ty : TE) : TS := fun D σ H => td σ H fun x H1 => ty σ H1 fun y H2 => ∃ a kvs k, x = .ref a ∧ H2 a = some (.dK kvs) ∧ y = kV k ∧ (valV kvs k).isSome = true ∧ D.nx σ (upd H2 a (.dK (dropK kvs k)))

section
variable {X : Cx} {o i e value : Expr} {pos pos' tpos : Pos} {td ty tv : TE}
end


/-! ### displays -/
/-- {}, to be a dict of the kind that is wanted -/
def tDNewK : TE := fun _ H Q => ∀ p, H p = none → Q (.ref p) (upd H p (.dK []))
def tDNewT : TE := fun _ H Q => ∀ p, H p = none → Q (.ref p) (upd H p (.dT []))
section
variable {X : Cx} {pos : Pos}
end

/-- the pairs of a display, from the left -/
def tPairs : List (TE × TE) → St → Hp → (List (V × V) → Hp → Prop) → Prop
  | [], _, H, Q => Q [] H
  | (tk, tv) :: r, σ, H, Q => tk σ H fun x H1 => tv σ H1 fun y H2 => tPairs r σ H2 fun ps H3 => Q ((x, y) :: ps) H3
abbrev VV : List (V × V) → List (Value × Value) → Prop := Paired fun p q => RelV p.1 q.1 ∧ RelV p.2 q.2
def PPs (X : Cx) (pos : Pos) (keys : List (Option Expr)) (values : List Expr) (trs : List (TE × TE)) : Prop :=
  ∀ (pins : List (Addr × Obj)) (s : Shared) (σ : St) (H : Hp) (Q : List (V × V) → Hp → Prop), Inv X pins σ H s → tPairs trs σ H Q →
    wpAny (model X.prog X.w) X.A (evalPairs (pairTrees keys values X.env pos)) (fun vs s' => ∃ ps H', Inv X pins σ H' s' ∧ VV ps vs ∧ Q ps H') X.xe s
def mergeK (kvs more : List (Key × V)) : List (Key × V) := more.foldl (fun acc kv => putK acc kv.1 kv.2) kvs
/-- {k: v, ..} with keys ints and texts; the new dict stands empty while the pairs are made -/
def tDisp (trs : List (TE × TE)) : TE := fun σ H Q => ∀ p, H p = none → tPairs trs σ (upd H p (.dK [])) fun ps H2 => H2 p = some (.dK []) ∧ ∃ kvs : List (Key × V), ps = kvs.map (fun kv => (kV kv.1, kv.2)) ∧ kvs.length ≤ 15 ∧ Q (.ref p) (upd H2 p (.dK (mergeK [] kvs)))
/-! ### methods -/
/-- a method call o.m(e) of a built-in, with one argument: what must be seen of the text -/
structure M1 (X : Cx) (o : Expr) (m : Str) (apos : Pos) (e : Expr) (cpos : Pos) : Prop where
  base : attributeBase o m X.env (eval o X.env) = eval o X.env
  few : ((backTo cpos (starEach [e] X.env)).all (fun x => !x.1) && (backToKw cpos (keywordEach [] X.env)).all (fun x => x.1.isSome)
    && decide (([e] : List Expr).length + ([] : List Keyword).length + (if ([] : List Keyword).isEmpty then 0 else 1) < 30)) = true
  line : (apos.endLine == cpos.line) = true
  trees : backTo cpos (starEach [e] X.env) = [(false, eval e X.env)]
structure M2 (X : Cx) (o : Expr) (m : Str) (apos : Pos) (e f : Expr) (cpos : Pos) : Prop where
  base : attributeBase o m X.env (eval o X.env) = eval o X.env
  few : ((backTo cpos (starEach [e, f] X.env)).all (fun x => !x.1) && (backToKw cpos (keywordEach [] X.env)).all (fun x => x.1.isSome)
    && decide (([e, f] : List Expr).length + ([] : List Keyword).length + (if ([] : List Keyword).isEmpty then 0 else 1) < 30)) = true
  line : (apos.endLine == cpos.line) = true
  trees : backTo cpos (starEach [e, f] X.env) = [(false, eval e X.env), (false, eval f X.env)]

/-- a is a dict, whatever its keys -/
def IsD (H : Hp) (a : Addr) : Prop := (∃ kvs, Rd H a (.dK kvs)) ∨ ∃ kvs, Rd H a (.dT kvs)
section
variable {X : Cx} {pins : List (Addr × Obj)} {σ : St} {H : Hp} {s : Shared} {a : Addr} {y d : V} {u r : Value} {o : Option V} {A : Around} {E : Value → Shared → Prop}
end

def tDGet1 (td ty : TE) : TE := fun σ H Q => td σ H fun x H1 => ∃ a, x = .ref a ∧ IsD H1 a ∧ ty σ H1 fun y H2 => ∃ o, DGet H2 a y o ∧ Q (o.getD .non) H2
def tDGet2 (td ty tx : TE) : TE := fun σ H Q => td σ H fun x H1 => ∃ a, x = .ref a ∧ IsD H1 a ∧ ty σ H1 fun y H2 => tx σ H2 fun z H3 => ∃ o, DGet H3 a y o ∧ Q (o.getD z) H3
/-- d.pop(k): there; d.pop(k, x): there or not -/
def tDPop1 (td ty : TE) : TE := fun σ H Q => td σ H fun x H1 => ∃ a, x = .ref a ∧ IsD H1 a ∧ ty σ H1 fun y H2 => ∃ kvs k v, H2 a = some (.dK kvs) ∧ y = kV k ∧ valV kvs k = some v ∧ Q v (upd H2 a (.dK (dropK kvs k)))
def tDPop2 (td ty tx : TE) : TE := fun σ H Q => td σ H fun x H1 => ∃ a, x = .ref a ∧ IsD H1 a ∧ ty σ H1 fun y H2 => tx σ H2 fun z H3 => ∃ kvs k, H3 a = some (.dK kvs) ∧ y = kV k ∧
  (∀ v, valV kvs k = some v → Q v (upd H3 a (.dK (dropK kvs k)))) ∧ (valV kvs k = none → Q z H3)
section
variable {X : Cx} {o e f : Expr} {apos cpos : Pos} {td ty tx : TE}
end

/-! ### dict(d): a copy -/
section
variable {X : Cx} {pins : List (Addr × Obj)} {σ : St} {H : Hp} {s : Shared} {a : Addr} {kvs : List (Key × V)} {A : Around} {E : Value → Shared → Prop}
end


section
variable {X : Cx} {pins : List (Addr × Obj)} {σ : St} {H : Hp} {s : Shared} {a : Addr} {y : V} {u : Value} {A : Around} {E : Value → Shared → Prop}
end
end L2

namespace L2
open PySem PySem.Spec PyProof.Rows
section
variable {X : Cx}
end
/-! ### a dict's pairs: keys that differ -/
section
variable {κ : Type} [DecidableEq κ]
end
end L2

set_option linter.all false
set_option maxRecDepth 100000
set_option maxHeartbeats 4000000
/-! for i, x in enumerate(a list); join. -/
namespace L2
open PySem PySem.Spec PyProof.Rows
section
variable {X : Cx} {pins : List (Addr × Obj)} {σ : St} {H : Hp} {s : Shared} {h' : Heap}
/-- untracked records of ours have turned -/
theorem Inv.turnedL {t' : Nat} {ch : List Addr} (I : Inv X pins σ H s) (k : ∀ b o, b ∉ ch → s.heap.get? b = some o → h'.get? b = some o) (hf : ∀ b ∈ ch, FpOk X pins H b) : Inv X pins σ H { s with heap := h', toks := t' } := by
  have nit : ∀ b u, H b = some u → b ∉ ch := fun b u e z => by rw [(hf b z).1] at e; cases e
  refine I.step (g' := s.gens) (d' := s.drawn) (ch := ch) (fun b hb => ⟨(hf b hb).2.2.2.1, (hf b hb).2.1, (hf b hb).2.2.2.2.1, (hf b hb).2.2.2.2.2⟩) (fun b o _ _ hc e _ => k b o hc e) (fun b o _ _ hc e _ => ⟨o.slots, k b o hc e⟩) (fun _ _ _ _ n => n)
    (fun b o hc e => ⟨o, k b o hc e⟩) (fun _ _ e => e) (fun _ _ _ e => e) (fun b ps e => ⟨#[], by rw [e]; simp⟩) (fun m hm => ?_) (fun b u e => ?_) I.bare
  · obtain ⟨o, es, ep, ho, r⟩ := hm
    exact ⟨o, es, ep, k _ o (fun z => (hf _ z).2.1 rfl) ho, r⟩
  · refine (I.hok b u e).stay (fun c v hc q => k c v ?_ q) (fun _ q => q) fun _ _ q => q
    rcases hc with z | z
    · rw [z]; exact nit b u e
    · exact nit c _ z
end

def Ite (K : PySem.W.Frag) (a : Addr) : It :=
  ⟨fun i H => ∃ xs x, SqL K H a xs ∧ xs[i]? = some x, fun i H x H' => ∃ p v, x = .ref p ∧ H p = none ∧ H' = upd H p (.tup [.int (i : Int), v]) ∧ ∀ xs, SqL K H a xs → xs[i]? = some v, fun i H => ∃ xs, SqL K H a xs ∧ xs.length ≤ i⟩
theorem turn_enum {P : Program} {w : World} {K : PySem.W.Frag} {elts : List Expr} {x1} {pos : Pos} (a e it : Addr) (hne : e ≠ it) :
    Turn P w K (.Tuple elts x1 pos) (Ite K a) [e, it] e (fun i h => ∃ old, IsEnum h e it (i : Int) old ∧ h.IsListIter it a i) where
  mem := by simp
  obj := fun i h st b hb => by
    obtain ⟨old, he, o, e1, c, d⟩ := st
    have hb' : b = e ∨ b = it := by simpa using hb
    rcases hb' with rfl | rfl
    · exact ⟨_, he, fun v z => by
        have z' : Data.fields _ = Data.cell v := z
        cases z'⟩
    · exact ⟨o, e1, fun v z => by rw [d] at z; cases z⟩
  keep := fun i h h' st k => by
    obtain ⟨old, he, hi⟩ := st
    exact ⟨old, k e (by simp) _ he, hi.at fun o q => k it (by simp) o q⟩
  item := by
    intro X hP hw hK hc i pins s σ H E I hf st hg
    subst hP hw hK
    obtain ⟨xs, x, hq, hx⟩ := hg
    obtain ⟨old, he, hit⟩ := st
    obtain ⟨its, rv, p, hz⟩ := I.list hq
    obtain ⟨u, hu, ru⟩ := rv.get hx
    refine wpAny_pyNext_enum_item he hit p.isList (x := u) (by simpa using hu) hne fun h1 eo hit1 ht hz1 hk1 => ?_
    refine ⟨_, rfl, wpAny_letOwnedTupleGo_enum (s := { s with heap := h1, toks := s.toks + 1 }) eo fun h2 he2 hs2 => ?_⟩
    have hs2' : Heap.SameBut e h1 h2 := hs2
    have nH : H s.heap.objs.size = none := I.hok.fresh (Nat.le_refl _)
    have eL : e < s.heap.objs.size := Heap.lt_size he
    obtain ⟨oi, hoi, ci, di⟩ := id hit
    have iL : it < s.heap.objs.size := Heap.lt_size hoi
    have ht2 : h2.get? s.heap.objs.size = some { cls := .type "tuple", data := .seq #[.int i s.toks, u] } := (hs2'.2 _ (Nat.ne_of_gt eL)).trans ht
    have pg : (s.heap.push { cls := .type "tuple", data := .seq #[.int i s.toks, u] }).get? s.heap.objs.size = some { cls := .type "tuple", data := .seq #[.int i s.toks, u] } := Heap.get?_push_size _ rfl
    have J1 := I.laid (a := s.heap.objs.size) (o := .tup [.int (i : Int), x]) (h' := s.heap.push { cls := .type "tuple", data := .seq #[.int i s.toks, u] }) (t' := s.toks) (fun b v z => Heap.get?_push_of_some _ z) (Nat.le_refl _)
      ⟨(by show 2 ≤ sizeLine; decide), [.int i s.toks, u], .cons ⟨_, rfl⟩ (.cons ru .nil), ⟨_, pg, rfl, _, rfl⟩⟩
    have fp' : ∀ b ∈ [e, it], FpOk X pins (upd H s.heap.objs.size (.tup [.int (i : Int), x])) b := fun b hb => by
      obtain ⟨f0, f1, f2, f3, f4, f5⟩ := hf b hb
      have hb' : b = e ∨ b = it := by simpa using hb
      refine ⟨?_, f1, f2, f3, f4, f5⟩
      rw [upd_ne (by rcases hb' with rfl | rfl; exact Nat.ne_of_lt eL; exact Nat.ne_of_lt iL)]
      exact f0
    have J2 := J1.turnedL (h' := h2) (t' := s.toks + 1) (ch := [e, it]) (fun b o hb z => by
      have n1 : b ≠ e := fun y => hb (by simp [y])
      have n2 : b ≠ it := fun y => hb (by simp [y])
      by_cases hp : b = s.heap.objs.size
      · subst hp
        have z' : s.heap.objs.size = s.heap.objs.size → (s.heap.push { cls := .type "tuple", data := .seq #[.int i s.toks, u] }).get? s.heap.objs.size = some o := fun _ => z
        rw [pg] at z'
        have := z' rfl
        cases this
        exact ht2
      · have z2 : s.heap.get? b = some o := get_push_ne z hp
        exact (hs2'.2 b n1).trans (hk1 b o n1 n2 z2)) fp'
    refine ⟨.ref s.heap.objs.size, _, J2, rfl, ⟨_, x, rfl, nH, rfl, fun ys hy => by rw [I.list_inj hy hq]; exact hx⟩, ⟨u, ?_, ?_⟩, fun b hb => (fp' b hb).1⟩
    · have e1 : ((i : Int) + 1) = ((i + 1 : Nat) : Int) := by omega
      rw [← e1]
      exact he2
    · exact hit1.at fun o q => (hs2'.2 it (Ne.symm hne)).trans q
  done := by
    intro X hP hw hK hc i pins s σ H E I hf st hg
    subst hP hw hK
    obtain ⟨xs, hq, hx⟩ := hg
    obtain ⟨old, he, hit⟩ := st
    obtain ⟨its, rv, p, hz⟩ := I.list hq
    have hl := rv.length
    refine wpAny_pyNext_enum_end (I.ok.hd hc) he hit p.isList (by simp; omega) fun h' eb => ⟨rfl, I.turnedL (t' := s.toks) (ch := [e, it]) (fun b o hb z => eb b o (fun y => hb (by simp [y])) z) hf⟩
  self := fun _ _ _ _ _ st h => by
    obtain ⟨old, he, _⟩ := st
    exact wpAny_pyIter_enum he h
def iEnum (K : PySem.W.Frag) (ta : TA) : TI := fun σ H R => ta σ H fun vs H1 => ∃ a, vs = [.ref a] ∧ (∃ xs, SqL K H1 a xs) ∧ R (Ite K a) H1
section
variable {X : Cx}
theorem pi_enum {elts : List Expr} {x1} {tpos p pos : Pos} {a : Expr} {ta : TA} (hg : Gl X "enumerate") (hm : X.mg "enumerate" = none) (hbt : bootBuiltins "enumerate" = some (.type "enumerate")) (ha : PA X [a] ta) (hs : starEach [a] X.env = [(false, eval a X.env)] := by rfl) :
    PI X (.Tuple elts x1 tpos) (.Call (.Name "enumerate" p) [a] [] pos) (iEnum X.K ta) := by
  intro pins s σ H R I h
  refine Call_ (ld_blt I hg hm hbt (PyProof.Rows.callWith_type1 (thn (ha pos pins s σ H _ I h) fun us s1 ⟨vs, H1, I1, r1, q1⟩ => ?_) hs rfl))
  obtain ⟨a, rfl, ⟨xs, hq⟩, q⟩ := q1
  obtain ⟨u, rfl, ru⟩ := vals1 r1
  cases ru
  obtain ⟨its, rv, pl, hz⟩ := I1.list hq
  refine call_enumerate_list pl.isList fun h' he hi hsz hk => ?_
  refine wpAny_pyIter_enum he ?_
  have I2 : Inv X pins σ H1 { s1 with heap := h' } := I1.kept (t' := s1.toks) hk
  refine ⟨s1.heap.objs.size + 1, [s1.heap.objs.size + 1, s1.heap.objs.size], _, _, H1, rfl, I2, turn_enum a _ _ (Nat.succ_ne_self _), ⟨_, he, hi⟩, fun b hb => ?_, q⟩
  have hb' : b = s1.heap.objs.size + 1 ∨ b = s1.heap.objs.size := by simpa using hb
  rcases hb' with rfl | rfl
  · exact I1.fpOk (Nat.le_succ _) (I1.hok.fresh (Nat.le_succ _))
  · exact I1.fpOk (Nat.le_refl _) (I1.hok.fresh (Nat.le_refl _))
theorem for_enum {K : PySem.W.Frag} {a : Addr} {xs : List V} {g : TG} {tb : TS} {D : Ends} {σ : St} {H : Hp} (Pv : Nat → St → Hp → Prop) (h0 : Pv 0 σ H) (hl : ∀ i σ H, i ≤ xs.length → Pv i σ H → SqL K H a xs)
    (hs : ∀ i x σ H p, xs[i]? = some x → Pv i σ H → H p = none → g (.ref p) σ (upd H p (.tup [.int (i : Int), x])) fun σ2 H2 => tb { D with nx := Pv (i + 1), ct := Pv (i + 1), bk := D.nx } σ2 H2) (hd : ∀ σ H, Pv xs.length σ H → D.nx σ H) :
    ∃ W : Nat → Nat → St → Hp → Prop, (∃ m, W 0 m σ H) ∧ ∀ i m σ H, W i m σ H →
      ((Ite K a).stop i H ∧ D.nx σ H) ∨ ((Ite K a).go i H ∧ ∃ N : St → Hp → Prop, (∀ σ' H', N σ' H' → ∃ m', m' < m ∧ W (i + 1) m' σ' H') ∧ ∀ x H', (Ite K a).yld i H x H' → g x σ H' fun σ2 H2 => tb { D with nx := N, ct := N, bk := D.nx } σ2 H2) := by
  refine ⟨fun i m σ H => m = xs.length - i ∧ i ≤ xs.length ∧ Pv i σ H, ⟨xs.length, by simp, Nat.zero_le _, h0⟩, ?_⟩
  rintro i m σ H ⟨rfl, hi, p⟩
  have q := hl i σ H hi p
  by_cases hlt : i < xs.length
  · refine .inr ⟨⟨xs, xs[i], q, by simp [hlt]⟩, Pv (i + 1), fun σ' H' p' => ⟨xs.length - (i + 1), by omega, rfl, hlt, p'⟩, fun x H' y => ?_⟩
    obtain ⟨pp, v, rfl, hn, rfl, y⟩ := y
    exact hs i v σ H pp (y xs q) p hn
  · have e : i = xs.length := by omega
    subst e
    exact .inl ⟨⟨xs, q, Nat.le_refl _⟩, hd σ H p⟩
end
end L2

set_option linter.all false
set_option maxRecDepth 100000
set_option maxHeartbeats 4000000
namespace L2
open PySem PySem.Spec PyProof.Rows
theorem strs_of : ∀ {l : List Str} {us : List Value}, Vals (l.map V.str) us → ∃ ts : List (Str × Tok), us = strValues ts ∧ ts.map (·.1) = l
  | [], _, r => by cases r; exact ⟨[], rfl, rfl⟩
  | x :: l, _, r => by
    cases r with
    | cons r1 r2 =>
      obtain ⟨t, rfl⟩ := r1
      obtain ⟨ts, rfl, e⟩ := strs_of r2
      exact ⟨(x, t) :: ts, rfl, by rw [List.map_cons, e]⟩
section
variable {X : Cx}
def rJoin (K : PySem.W.Frag) : V → List V → Hp → VK → Prop := fun x vs H Q => ∃ z p l, x = .str z ∧ vs = [.ref p] ∧ SqL K H p (l.map V.str) ∧ JoinOk z l = true ∧ Q (.str (Txt.join z l)) H
theorem mt_join : MtR X "str.join" (rJoin X.K) := by
  intro pins s σ H x vs v us Q I rx rv h
  obtain ⟨z, p, l, rfl, rfl, hS, hj, q⟩ := h
  obtain ⟨t, rfl⟩ := rx
  obtain ⟨u, rfl, ru⟩ := vals1 rv
  cases ru
  obtain ⟨its, r, pl, _⟩ := I.list hS
  obtain ⟨ts, rfl, e⟩ := strs_of r
  exact SC.join pl.isList e hj fun t' k => ⟨.str _, H, I.tok _, ⟨_, rfl⟩, q⟩
end
end L2

set_option linter.all false
set_option maxRecDepth 100000
namespace L2
open PySem PySem.Spec PyProof.Rows
def nostar : Expr → Bool
  | .Starred _ _ => false
  | _ => true
theorem star_plain {e : Expr} {es : List Expr} {env : Env} (h : nostar e = true) : starEach (e :: es) env = (false, eval e env) :: starEach es env := by
  cases e <;> first | rfl | cases h
theorem any_plain {env : Env} {pos : Pos} : ∀ {es : List Expr}, es.all nostar = true → (backTo pos (starEach es env)).any (·.1) = false
  | [], _ => rfl
  | e :: es, h => by
    rw [List.all_cons, Bool.and_eq_true] at h
    rw [star_plain h.1]
    show (false || (backTo pos (starEach es env)).any (·.1)) = false
    rw [any_plain h.2]
    rfl
section
variable {X : Cx}
/-- a name in its slot, a plain local: the kernel looks it up -/
theorem pw' (i : Nat) {x : Str} {pos : Pos} (hN : X.N[i]? = some x := by kernel_rfl) (hv : X.env.scope.names.lookup x = some .local := by kernel_rfl) (hd : (x == ("__debug__" : Str)) = false := by kernel_rfl)
    (hcd : (x == ("__classdict__" : Str)) = false := by kernel_rfl) : PE X (.Name x pos) (tVar i) := pe_var hN (.inl hv) hd hcd
/-- .. a cell -/
theorem pc' (i : Nat) {x : Str} {pos : Pos} (hN : X.N[i]? = some x := by kernel_rfl) (hv : X.env.scope.names.lookup x = some .cell := by kernel_rfl) (hd : (x == ("__debug__" : Str)) = false := by kernel_rfl)
    (hcd : (x == ("__classdict__" : Str)) = false := by kernel_rfl) : PE X (.Name x pos) (tVar i) := pe_var hN (.inr (.inl hv)) hd hcd
theorem ps_setL {i : Nat} {x : Str} {e : Expr} {te : TE} {pos pos' : Pos} (hN : X.N.Nodup) (he : PE X e te) (hi : X.N[i]? = some x := by kernel_rfl) (hx : X.env.scope.names.lookup x = some .local := by kernel_rfl)
    (hs : swapsWith e (some (.Name x pos')) pos.line X.env = pure false := by kernel_rfl) : PS X (.Assign [.Name x pos'] e pos) (tAsg te (gName i)) := ps_set (i := i) hN hi (.inl hx) he hs (.inr hx)
theorem ps_setC {i : Nat} {x : Str} {e : Expr} {te : TE} {pos pos' : Pos} (hN : X.N.Nodup) (hfn : X.fn x = true) (he : PE X e te) (hi : X.N[i]? = some x := by kernel_rfl) (hx : X.env.scope.names.lookup x = some .cell := by kernel_rfl)
    (hs : swapsWith e (some (.Name x pos')) pos.line X.env = pure false := by kernel_rfl) : PS X (.Assign [.Name x pos'] e pos) (tAsg te (gName i)) := ps_set (i := i) hN hi (.inr hx) he hs (.inl hfn)
theorem pg_nameL {i : Nat} {x : Str} {pos : Pos} (hN : X.N.Nodup) (hi : X.N[i]? = some x := by kernel_rfl) (hx : X.env.scope.names.lookup x = some .local := by kernel_rfl) : PG X (.Name x pos) (gName i) := pg_name hN hi (.inl hx) (.inr hx)
theorem pa' {e : Expr} {es : List Expr} {te : TE} {t : TA} (ha : PE X e te) (hr : PA X es t) (hs : nostar e = true := by rfl) : PA X (e :: es) (tCons te t) := pa_cons ha hr (star_plain hs)
theorem pe_callE {CX : CXT} {j k : Nat} {ps : List Str} {sp : Sp} {E : XK} {x : Str} {p pos : Pos} {e : Expr} {es : List Expr} {t : TA} (D : Def X.prog X.w X.K X.mg X.base CX x j ps sp) (hr : Room k X.A) (hx : Passes CX X E) (ha : PA X (e :: es) t) (hj : j ≤ k := by decide) (hg : X.env.kindOf x = some .globalImplicit := by kernel_rfl)
    (hdb : (x == ("__debug__" : Str)) = false := by kernel_rfl) (he : nostar e = true := by rfl) (hpl : es.all nostar = true := by rfl) :
    PE X (.Call (.Name x p) (e :: es) [] pos) (tCall sp [] E t) := pe_callD D hr hx ha hj hg hdb (star_plain he) (any_plain hpl)
theorem pex_callE {j k : Nat} {ps : List Str} {sp : Sp} {x : Str} {p pos : Pos} {e : Expr} {es : List Expr} {t : TA} (D : Def X.prog X.w X.K X.mg X.base (CX1 X.prog X.w) x j ps sp) (hr : Room k X.A) (ha : PA X.nox (e :: es) t) (hj : j ≤ k := by decide) (hg : X.env.kindOf x = some .globalImplicit := by kernel_rfl)
    (hdb : (x == ("__debug__" : Str)) = false := by kernel_rfl) (he : nostar e = true := by rfl) (hpl : es.all nostar = true := by rfl) :
    PEX X (.Call (.Name x p) (e :: es) [] pos) (tCallX sp [] t) := pex_callD D hr ha hj hg hdb (star_plain he) (any_plain hpl)
theorem pb' {id : String} {r : List V → Hp → VK → Prop} {x : Str} {p pos : Pos} {e : Expr} {es : List Expr} {t : TA} (hc : CallR X (.builtin id) r) (hm : X.mg x = none) (hv : bootBuiltins x = some (.builtin id)) (ha : PA X (e :: es) t) (hg : X.env.kindOf x = some .globalImplicit := by kernel_rfl) (hn : x ≠ "__name__" := by decide) (hdb : (x == ("__debug__" : Str)) = false := by kernel_rfl)
    (he : nostar e = true := by rfl) (hpl : es.all nostar = true := by rfl) : PE X (.Call (.Name x p) (e :: es) [] pos) (tCB r t) := pe_callB hc hg hm hv ha hn hdb (star_plain he) (any_plain hpl)
theorem pt' {T : String} {r : List V → Hp → VK → Prop} {x : Str} {p pos : Pos} {e : Expr} {es : List Expr} {t : TA} (hc : CallR X (.type T) r) (hm : X.mg x = none) (hv : bootBuiltins x = some (.type T)) (ha : PA X (e :: es) t) (hg : X.env.kindOf x = some .globalImplicit := by kernel_rfl) (hn : x ≠ "__name__" := by decide) (hdb : (x == ("__debug__" : Str)) = false := by kernel_rfl)
    (he : nostar e = true := by rfl) (hpl : es.all nostar = true := by rfl) : PE X (.Call (.Name x p) (e :: es) [] pos) (tCB r t) := pe_callTy hc hg hm hv ha hn hdb (star_plain he) (any_plain hpl)
/-- a global that is an int, a text, an object -/
theorem pgl {x : Str} {v : V} {u : Value} {pos : Pos} (hm : X.mg x = some u) (r : RelV v u) (hg : X.env.kindOf x = some .globalImplicit := by kernel_rfl) (hd : (x == ("__debug__" : Str)) = false := by kernel_rfl) : PE X (.Name x pos) (tC v) := pe_glob hg hm r hd
theorem pbl {x : Str} {v : V} {u : Value} {pos : Pos} (hm : X.mg x = none) (hv : bootBuiltins x = some u) (r : RelV v u) (hg : X.env.kindOf x = some .globalImplicit := by kernel_rfl) (hn : x ≠ "__name__" := by decide) (hd : (x == ("__debug__" : Str)) = false := by kernel_rfl) : PE X (.Name x pos) (tC v) := pe_bltn hg hm hv r hn hd
end
end L2

set_option linter.all false
set_option maxRecDepth 100000
set_option maxHeartbeats 4000000
set_option autoImplicit true
set_option relaxedAutoImplicit true
/-! The layer's rules behind plain structures: nothing unfolds while a term of rules is elaborated. -/
namespace L2
open PySem PySem.Spec PyProof.Rows
structure QE (X : Cx) (e : Expr) (t : TE) : Prop where
  h : PE X e t
structure QT (X : Cx) (e : Expr) (t : TT) : Prop where
  h : PT X e t
structure QW (X : Cx) (e : Expr) (t : TT) : Prop where
  h : PW X e t
structure QA (X : Cx) (es : List Expr) (t : TA) : Prop where
  h : PA X es t
structure QS (X : Cx) (st : Stmt) (t : TS) : Prop where
  h : PS X st t
structure QSs (X : Cx) (st : List Stmt) (t : TS) : Prop where
  h : PSs X st t
structure QG (X : Cx) (e : Expr) (t : TG) : Prop where
  h : PG X e t
structure QGs (X : Cx) (es : List Expr) (t : TGs) : Prop where
  h : PGs X es t
structure QO (X : Cx) (e : Option Expr) (t : TO) : Prop where
  h : PO X e t
structure QI (X : Cx) (tg it : Expr) (t : TI) : Prop where
  h : PI X tg it t
structure QX (X : Cx) (e : Expr) (t : TX) : Prop where
  h : PEX X e t
section
variable {X : Cx}
theorem e_int {i j pos} : QE X (.Constant (.int i) j pos) (tC (.int i)) := ⟨pe_int⟩
theorem e_str {x j pos} : QE X (.Constant (.str x) j pos) (tC (.str x)) := ⟨pe_str⟩
theorem e_bl {b j pos} : QE X (.Constant (.bool b) j pos) (tC (.bl b)) := ⟨pe_bl⟩
theorem e_non {j pos} : QE X (.Constant .none j pos) (tC .non) := ⟨pe_non⟩
theorem e_v (i : Nat) {x : Str} {pos : Pos} (hN : X.N[i]? = some x := by kernel_rfl) (hv : X.env.scope.names.lookup x = some .local := by kernel_rfl) (hd : (x == ("__debug__" : Str)) = false := by kernel_rfl) (hcd : (x == ("__classdict__" : Str)) = false := by kernel_rfl) : QE X (.Name x pos) (tVar i) := ⟨pw' i hN hv hd hcd⟩
theorem e_c (i : Nat) {x : Str} {pos : Pos} (hN : X.N[i]? = some x := by kernel_rfl) (hv : X.env.scope.names.lookup x = some .cell := by kernel_rfl) (hd : (x == ("__debug__" : Str)) = false := by kernel_rfl) (hcd : (x == ("__classdict__" : Str)) = false := by kernel_rfl) : QE X (.Name x pos) (tVar i) := ⟨pc' i hN hv hd hcd⟩
/-- within a comprehension: its own name, or one from around it -/
theorem e_n (i : Nat) {x : Str} {pos : Pos} (hN : X.N[i]? = some x := by rfl) (hv : Vis X.env.scope x := by first | exact Or.inl rfl | exact Or.inr (Or.inl rfl) | exact Or.inr (Or.inr rfl)) (hd : (x == ("__debug__" : Str)) = false := by kernel_rfl) (hcd : (x == ("__classdict__" : Str)) = false := by kernel_rfl) : QE X (.Name x pos) (tVar i) := ⟨pe_var hN hv hd hcd⟩
theorem e_gl {x : Str} {v : V} {u : Value} {pos : Pos} (hm : X.mg x = some u) (r : RelV v u) (hg : X.env.kindOf x = some .globalImplicit := by kernel_rfl) (hd : (x == ("__debug__" : Str)) = false := by kernel_rfl) : QE X (.Name x pos) (tC v) := ⟨pgl hm r hg hd⟩
theorem e_bt {x : Str} {v : V} {u : Value} {pos : Pos} (hm : X.mg x = none) (hv : bootBuiltins x = some u) (r : RelV v u) (hg : X.env.kindOf x = some .globalImplicit := by kernel_rfl) (hn : x ≠ "__name__" := by decide) (hd : (x == ("__debug__" : Str)) = false := by kernel_rfl) : QE X (.Name x pos) (tC v) := ⟨pbl hm hv r hg hn hd⟩
theorem e_op {op : Operator} {r : R2} {a b : Expr} {ta tb : TE} {pos : Pos} (ho : OpR X (binaryOp op) r) (ha : QE X a ta) (hb : QE X b tb) : QE X (.BinOp a op b pos) (tOp r ta tb) := ⟨pe_op ho ha.h hb.h⟩
theorem e_un {op : UnaryOp} {r : V → Hp → VK → Prop} {a : Expr} {ta : TE} {pos : Pos} (ho : UnR X (unaryOp op) r) (ha : QE X a ta) : QE X (.UnaryOp op a pos) (tUn r ta) := ⟨pe_un ho ha.h⟩
theorem e_cmp {op : CmpOp} {r : R2} {a b : Expr} {ta tb : TE} {pos : Pos} (ho : OpR X (compareOp op) r) (ha : QE X a ta) (hb : QE X b tb) (hm : behindInMarks op b = false := by first | exact nomark _ | with_unfolding_all rfl) : QE X (.Compare a [op] [b] pos) (tOp r ta tb) := ⟨pe_cmpR ho ha.h hb.h hm⟩
theorem t_cmp {op : CmpOp} {r : R2} {a b : Expr} {ta tb : TE} {pos : Pos} (ho : OpR X (compareOp op) r) (ha : QE X a ta) (hb : QE X b tb) (hm : behindInMarks op b = false := by first | exact nomark _ | with_unfolding_all rfl) : QT X (.Compare a [op] [b] pos) (tTest (tOp r ta tb)) := ⟨pt_cmpR ho ha.h hb.h hm⟩
theorem e_chain {op op' : CmpOp} {r r' : R2} {a b c : Expr} {ta tb tc : TE} {pos : Pos} (ho : OpR X (compareOp op) r) (ho' : OpR X (compareOp op') r') (ha : QE X a ta) (hb : QE X b tb) (hc : QE X c tc) (hm : lastMarks [op, op'] [b, c] = false := by with_unfolding_all rfl) :
    QE X (.Compare a [op, op'] [b, c] pos) (tChain r r' ta tb tc) := ⟨pe_chain ho ho' ha.h hb.h hc.h hm⟩
theorem t_chain {op op' : CmpOp} {r r' : R2} {a b c : Expr} {ta tb tc : TE} {pos : Pos} (ho : OpR X (compareOp op) r) (ho' : OpR X (compareOp op') r') (ha : QE X a ta) (hb : QE X b tb) (hc : QE X c tc) (hm : lastMarks [op, op'] [b, c] = false := by with_unfolding_all rfl) :
    QT X (.Compare a [op, op'] [b, c] pos) (tTest (tChain r r' ta tb tc)) := ⟨pt_chain ho ho' ha.h hb.h hc.h hm⟩
theorem e_isN {a : Expr} {ta : TE} {j pos pos'} (ha : QE X a ta) : QE X (.Compare a [.Is] [.Constant .none j pos'] pos) (tIsN ta) := ⟨pe_cmp (pc_isN ha.h)⟩
theorem e_notN {a : Expr} {ta : TE} {j pos pos'} (ha : QE X a ta) : QE X (.Compare a [.IsNot] [.Constant .none j pos'] pos) (tNotN ta) := ⟨pe_cmp (pc_notN ha.h)⟩
theorem t_isN {a : Expr} {ta : TE} {j pos pos'} (ha : QE X a ta) : QT X (.Compare a [.Is] [.Constant .none j pos'] pos) (tB (tIsN ta)) := ⟨pt_cmp (pc_isN ha.h)⟩
theorem t_notN {a : Expr} {ta : TE} {j pos pos'} (ha : QE X a ta) : QT X (.Compare a [.IsNot] [.Constant .none j pos'] pos) (tB (tNotN ta)) := ⟨pt_cmp (pc_notN ha.h)⟩
theorem t_val {e : Expr} {t : TE} (h : QE X e t) (he : ∀ whole, isTrue e X.env whole = (do let v ← whole; standAt e.pos; holding [v] (truthy v)) := by intro _; rfl) : QT X e (tB t) := ⟨pt_val h.h he⟩
theorem t_not {a : Expr} {t : TT} {pos} (h : QT X a t) : QT X (.UnaryOp .Not a pos) (tNot t) := ⟨pt_not h.h⟩
theorem t_w {e : Expr} {t : TT} (h : QW X e t) : QT X e t := ⟨PW.pt h.h⟩
theorem w_and1 {a : Expr} {t : TT} {pos} (h : QT X a t) : QW X (.BoolOp .And [a] pos) t := ⟨pw_and1 h.h⟩
theorem w_or1 {a : Expr} {t : TT} {pos} (h : QT X a t) : QW X (.BoolOp .Or [a] pos) t := ⟨pw_or1 h.h⟩
theorem w_and {a b : Expr} {rest : List Expr} {t u : TT} {pos} (ha : QT X a t) (hb : QW X (.BoolOp .And (b :: rest) pos) u) : QW X (.BoolOp .And (a :: b :: rest) pos) (tAnd t u) := ⟨pw_and ha.h hb.h⟩
theorem w_or {a b : Expr} {rest : List Expr} {t u : TT} {pos} (ha : QT X a t) (hb : QW X (.BoolOp .Or (b :: rest) pos) u) : QW X (.BoolOp .Or (a :: b :: rest) pos) (tOr t u) := ⟨pw_or ha.h hb.h⟩
theorem e_one {op} {a : Expr} {t : TE} {pos} (h : QE X a t) : QE X (.BoolOp op [a] pos) t := ⟨pe_one h.h⟩
theorem e_and {a b : Expr} {rest : List Expr} {ta tb : TE} {pos} (ha : QE X a ta) (hb : QE X (.BoolOp .And (b :: rest) pos) tb) : QE X (.BoolOp .And (a :: b :: rest) pos) (tAndV ta tb) := ⟨pe_and ha.h hb.h⟩
theorem e_or {a b : Expr} {rest : List Expr} {ta tb : TE} {pos} (ha : QE X a ta) (hb : QE X (.BoolOp .Or (b :: rest) pos) tb) : QE X (.BoolOp .Or (a :: b :: rest) pos) (tOrV ta tb) := ⟨pe_or ha.h hb.h⟩
theorem a_nil : QA X [] tNil := ⟨pa_nil⟩
theorem a_cons {e : Expr} {es : List Expr} {te : TE} {t : TA} (ha : QE X e te) (hr : QA X es t) (hs : nostar e = true := by rfl) : QA X (e :: es) (tCons te t) := ⟨pa' ha.h hr.h hs⟩
theorem e_lst {es : List Expr} {t : TA} {pos} (h : QA X es t) : QE X (.List es pos) (tLst t) := ⟨pe_lst h.h⟩
theorem e_tup {es : List Expr} {t : TA} {x1 pos} (h : QA X es t) : QE X (.Tuple es x1 pos) (tTup t) := ⟨pe_tup h.h⟩
theorem e_ix {r : R2} {a b : Expr} {ta tb : TE} {pos} (hr : IxR X r) (ha : QE X a ta) (hb : QE X b tb) (hs : PlainIx b := by exact fun _ _ => rfl) : QE X (.Subscript a b pos) (tOp r ta tb) := ⟨pe_ix hr ha.h hb.h hs⟩
theorem o_none : QO X none tNoPart := ⟨po_none⟩
theorem o_some {e : Expr} {t : TE} (h : QE X e t) : QO X (some e) (tPart t) := ⟨po_some h.h⟩
theorem e_sl {r : V → Option Int → Option Int → Hp → VK → Prop} {e : Expr} {lo hi : Option Expr} {te : TE} {tl th : TO} {p2 pos} (hr : SlR X r) (he : QE X e te) (hl : QO X lo tl) (hu : QO X hi th) : QE X (.Subscript e (.Slice lo hi none p2) pos) (tSl r te tl th) := ⟨pe_slice hr he.h hl.h hu.h⟩
theorem e_call {CX : CXT} {j k : Nat} {ps : List Str} {sp : Sp} {E : XK} {x : Str} {p pos : Pos} {e : Expr} {es : List Expr} {t : TA} (D : Def X.prog X.w X.K X.mg X.base CX x j ps sp) (hr : Room k X.A) (hx : Passes CX X E) (ha : QA X (e :: es) t) (hj : j ≤ k := by decide) (hg : X.env.kindOf x = some .globalImplicit := by kernel_rfl)
    (hdb : (x == ("__debug__" : Str)) = false := by kernel_rfl) (he : nostar e = true := by rfl) (hpl : es.all nostar = true := by rfl) : QE X (.Call (.Name x p) (e :: es) [] pos) (tCall sp [] E t) := ⟨pe_callE D hr hx ha.h hj hg hdb he hpl⟩
theorem x_call {j k : Nat} {ps : List Str} {sp : Sp} {x : Str} {p pos : Pos} {e : Expr} {es : List Expr} {t : TA} (D : Def X.prog X.w X.K X.mg X.base (CX1 X.prog X.w) x j ps sp) (hr : Room k X.A) (ha : QA X.nox (e :: es) t) (hj : j ≤ k := by decide) (hg : X.env.kindOf x = some .globalImplicit := by kernel_rfl)
    (hdb : (x == ("__debug__" : Str)) = false := by kernel_rfl) (he : nostar e = true := by rfl) (hpl : es.all nostar = true := by rfl) : QX X (.Call (.Name x p) (e :: es) [] pos) (tCallX sp [] t) := ⟨pex_callE D hr ha.h hj hg hdb he hpl⟩
theorem e_b {id : String} {r : List V → Hp → VK → Prop} {x : Str} {p pos : Pos} {e : Expr} {es : List Expr} {t : TA} (hc : CallR X (.builtin id) r) (hm : X.mg x = none) (hv : bootBuiltins x = some (.builtin id)) (ha : QA X (e :: es) t) (hg : X.env.kindOf x = some .globalImplicit := by kernel_rfl) (hn : x ≠ "__name__" := by decide) (hdb : (x == ("__debug__" : Str)) = false := by kernel_rfl)
    (he : nostar e = true := by rfl) (hpl : es.all nostar = true := by rfl) : QE X (.Call (.Name x p) (e :: es) [] pos) (tCB r t) := ⟨pb' hc hm hv ha.h hg hn hdb he hpl⟩
theorem e_t {T : String} {r : List V → Hp → VK → Prop} {x : Str} {p pos : Pos} {e : Expr} {es : List Expr} {t : TA} (hc : CallR X (.type T) r) (hm : X.mg x = none) (hv : bootBuiltins x = some (.type T)) (ha : QA X (e :: es) t) (hg : X.env.kindOf x = some .globalImplicit := by kernel_rfl) (hn : x ≠ "__name__" := by decide) (hdb : (x == ("__debug__" : Str)) = false := by kernel_rfl)
    (he : nostar e = true := by rfl) (hpl : es.all nostar = true := by rfl) : QE X (.Call (.Name x p) (e :: es) [] pos) (tCB r t) := ⟨pt' hc hm hv ha.h hg hn hdb he hpl⟩
theorem e_append {o e : Expr} {to te : TE} {apos cpos : Pos} (ho : QE X o to) (ha : QE X e te) (hs : nostar e = true := by rfl) (hbase : attributeBase o "append" X.env (eval o X.env) = eval o X.env := by rfl) (hline : (apos.endLine == cpos.line) = true := by rfl) :
    QE X (.Call (.Attribute o "append" apos) [e] [] cpos) (tBM X.K "list" rAppend to (tCons te tNil)) := ⟨pe_bm PySem.F.plainAttrs_list PySem.F.slot_list_append PySem.F.type_list_append mt_append ho.h (pa' ha.h pa_nil hs) hbase (by rw [star_plain hs]; rfl) hline (star_plain hs)⟩
theorem e_join {o e : Expr} {to te : TE} {apos cpos : Pos} (ho : QE X o to) (ha : QE X e te) (hs : nostar e = true := by rfl) (hbase : attributeBase o "join" X.env (eval o X.env) = eval o X.env := by rfl) (hline : (apos.endLine == cpos.line) = true := by rfl) :
    QE X (.Call (.Attribute o "join" apos) [e] [] cpos) (tBM X.K "str" (rJoin X.K) to (tCons te tNil)) := ⟨pe_bm PySem.F.plainAttrs_str PySem.F.slot_str_join PySem.F.type_str_join mt_join ho.h (pa' ha.h pa_nil hs) hbase (by rw [star_plain hs]; rfl) hline (star_plain hs)⟩
theorem e_xf {e : Expr} {f : Str} {pos : Pos} {ta : TE} (he : QE X e ta) (hb : attributeBase e f X.env (eval e X.env) = eval e X.env := by rfl) : QE X (.Attribute e f pos) (tXFld X.K ta f) := ⟨pe_xfld he.h hb⟩
theorem e_comp {x : Str} {px pos : Pos} {elt iter : Expr} {sc : Scope} {wi : TI} {te : TE} (ys : List Str) (js : List Nat) (cl : List (Str × Addr)) (hclos : closureFor sc X.env = pure cl) (hcap : Caps X sc cl ys js) (hin : ClIn X.env cl)
    (hi : QI X.nox (.Name x px) iter wi) (he : ∀ s2 H2 C ex, QE (compCx X sc (x :: ys) cl s2 H2 C ex) elt te) (hc : X.calm = true := by rfl)
    (hcell : (sc.names.all fun p => p.2 != NameKind.cell) = true := by rfl) (hkind : sc.kind = .function := by rfl) (hnames : (sc.names.all fun p => p.2 != NameKind.local || sc.names.lookup p.1 == some NameKind.local) = true := by rfl)
    (hx : (relabel sc X.env).names.lookup x = some .local := by rfl) (hhas : ((relabel sc X.env).names.all fun p => p.2 == NameKind.local || p.2 == NameKind.globalImplicit || (cl.lookup p.1).isSome) = true := by rfl)
    (hnd : (x :: ys).Nodup := by decide +kernel) (hs : ∀ v, foldedSetIterable iter X.env v = pure v := by intro _; rfl) : QE X (.ListComp elt [⟨.Name x px, iter, [], 0⟩] sc pos) (tComp wi js te) :=
  ⟨pe_compR ys js cl hclos hcap hin hi.h (fun a b c d => (he a b c d).h) hc hcell hkind hnames hx hhas hnd hs⟩
/-! statements -/
theorem ss_nil : QSs X [] tNext := ⟨pss_nil⟩
theorem ss_cons {st : Stmt} {rest : List Stmt} {t u : TS} (h1 : QS X st t) (h2 : QSs X rest u) : QSs X (st :: rest) (tSeq t u) := ⟨pss_cons h1.h h2.h⟩
theorem ss_one {st : Stmt} {t : TS} (h1 : QS X st t) : QSs X [st] t := ⟨pss_one h1.h⟩
theorem s_set {i : Nat} {x : Str} {e : Expr} {te : TE} {pos pos' : Pos} (hN : X.N.Nodup) (he : QE X e te) (hi : X.N[i]? = some x := by kernel_rfl) (hx : X.env.scope.names.lookup x = some .local := by kernel_rfl)
    (hs : swapsWith e (some (.Name x pos')) pos.line X.env = pure false := by kernel_rfl) : QS X (.Assign [.Name x pos'] e pos) (tAsg te (gName i)) := ⟨ps_setL (i := i) hN he.h hi hx hs⟩
theorem s_setc {i : Nat} {x : Str} {e : Expr} {te : TE} {pos pos' : Pos} (hN : X.N.Nodup) (he : QE X e te) (hfn : X.fn x = true := by rfl) (hi : X.N[i]? = some x := by kernel_rfl) (hx : X.env.scope.names.lookup x = some .cell := by kernel_rfl)
    (hs : swapsWith e (some (.Name x pos')) pos.line X.env = pure false := by kernel_rfl) : QS X (.Assign [.Name x pos'] e pos) (tAsg te (gName i)) := ⟨ps_setC (i := i) hN hfn he.h hi hx hs⟩
theorem s_asg {tg e : Expr} {te : TE} {g : TG} {pos} (he : QE X e te) (hg : QG X tg g) (hs : swapsWithSole [tg] e pos.line X.env = pure false := by rfl) (hw : swappedStores [tg] e X.env = pure none := by rfl)
    (h1 : (assignEach [tg] X.env).map (·.2) = [assign tg X.env] := by rfl) : QS X (.Assign [tg] e pos) (tAsg te g) := ⟨ps_asg he.h hg.h hs hw h1⟩
theorem s_if {c : Expr} {a b : List Stmt} {tc : TT} {t u : TS} {pos} (hc : QT X c tc) (ha : QSs X a t) (hb : QSs X b u) : QS X (.If c a b pos) (tIfS tc t u) := ⟨ps_if hc.h ha.h hb.h⟩
theorem s_for {tg iter : Expr} {body : List Stmt} {wi : TI} {g : TG} {tb : TS} {pos} (hp : PassesOwn (model X.prog X.w) X.A X.env X.xe) (hc : X.calm = true) (hi : QI X tg iter wi) (hg : QG X tg g) (hb : QSs X body tb)
    (hs : ∀ x, foldedSetIterable iter X.env x = pure x := by intro _; rfl) : QS X (.For tg iter body [] pos) (tFor wi g tb) := ⟨ps_for hp hc hi.h hg.h hb.h hs⟩
theorem s_ret {e : Expr} {t : TE} {pos} (h : QE X e t) : QS X (.Return (some e) pos) (tRet t) := ⟨ps_ret h.h⟩
theorem s_expr {e : Expr} {t : TE} {pos} (h : QE X e t) (hs : swapsWith e none pos.line X.env = pure false := by rfl) : QS X (.Expr e pos) (tDrop t) := ⟨ps_expr h.h hs⟩
theorem s_cut {st : Stmt} {t : TS} (h : QS X st t) : QS X st (tCut t) := ⟨ps_cut h.h⟩
theorem s_xset {o value : Expr} {f : Str} {pos pos' : Pos} {ta tv : TE} (ha : QE X o ta) (hv : QE X value tv) (hs : swapsWith value (some (.Attribute o f pos')) pos.line X.env = pure false := by rfl) : QS X (.Assign [.Attribute o f pos'] value pos) (sX X.K ta tv f) := ⟨ps_xset ha.h hv.h hs⟩
theorem g_name {i : Nat} {x : Str} {pos : Pos} (hN : X.N.Nodup) (hi : X.N[i]? = some x := by kernel_rfl) (hx : X.env.scope.names.lookup x = some .local := by kernel_rfl) : QG X (.Name x pos) (gName i) := ⟨pg_nameL hN hi hx⟩
theorem gs_nil : QGs X [] gNil := ⟨pgs_nil⟩
theorem gs_cons {e : Expr} {es : List Expr} {t : TG} {u : TGs} (h1 : QG X e t) (h2 : QGs X es u) (hs : (assignEach (e :: es) X.env).map (·.2) = assign e X.env :: (assignEach es X.env).map (·.2) := by rfl) : QGs X (e :: es) (gCons t u) := ⟨pgs_cons h1.h h2.h hs⟩
theorem g_tup {es : List Expr} {k : Nat} {t : TGs} {n : Nat} {pos} (hc : X.calm = true) (h : QGs X es t) (hn : (assignEach es X.env).length = n := by rfl) (hst : (assignEach es X.env).findIdx? (·.1) = none := by rfl) : QG X (.Tuple es k pos) (gTup X.K n t) := ⟨pg_tup hc h.h hn hst⟩
theorem i_list {tg l : Expr} {t : TE} (h : QE X l t) : QI X tg l (iList X.K t) := ⟨pi_list h.h⟩
theorem i_tup {tg l : Expr} {t : TE} (h : QE X l t) : QI X tg l (iTup X.K t) := ⟨pi_tup h.h⟩
theorem i_str {tg l : Expr} {t : TE} (h : QE X l t) : QI X tg l (iStr t) := ⟨pi_str h.h⟩
theorem i_rng1 {tg a : Expr} {t : TE} {p pos : Pos} (hm : X.mg "range" = none) (ha : QE X a t) (hg : X.env.kindOf "range" = some .globalImplicit := by kernel_rfl) (hs : nostar a = true := by rfl) : QI X tg (.Call (.Name "range" p) [a] [] pos) (iRng1 (tCons t tNil)) := ⟨pi_range1 hg hm (pa' ha.h pa_nil hs) ((star_plain hs).trans rfl)⟩
theorem i_enum {elts : List Expr} {x1} {tpos p pos : Pos} {a : Expr} {t : TE} (hm : X.mg "enumerate" = none) (ha : QE X a t) (hg : X.env.kindOf "enumerate" = some .globalImplicit := by kernel_rfl) (hs : nostar a = true := by rfl) : QI X (.Tuple elts x1 tpos) (.Call (.Name "enumerate" p) [a] [] pos) (iEnum X.K (tCons t tNil)) :=
  ⟨pi_enum hg hm (by decide +kernel) (pa' ha.h pa_nil hs) ((star_plain hs).trans rfl)⟩
theorem s_try {i j : Nat} {y n S' : Str} {S : Addr} {bmS : List Value} {idS : String} {ce : Expr} {b0 : Stmt} {suite : List Stmt} {py np apos hpos pos : Pos} {tx : TX} {ts : Addr → TS}
    (hN : X.N.Nodup) (hmS : X.mg S' = some (.ref S)) (cS : ExcC X.K S bmS idS) (hbS : bmS.contains (.type "BaseException") = true) (hx : QX X ce tx) (hs : ∀ a, QSs (X.caught a).nox (b0 :: suite) (ts a))
    (hi : X.N[i]? = some y := by kernel_rfl) (hy : X.env.scope.names.lookup y = some .local := by kernel_rfl) (hj : X.N[j]? = some n := by kernel_rfl) (hn : X.env.scope.names.lookup n = some .local := by kernel_rfl) (hfr : X.env.frame = some X.env.locals := by rfl) (hst : X.stack = X.env :: X.outer := by rfl) (hex : X.ex = [] := by rfl)
    (hgS : X.env.kindOf S' = some .globalImplicit := by kernel_rfl) (hsw : swapsWith ce (some (.Name y py)) apos.line X.env = pure false := by rfl) (hdb : (S' == ("__debug__" : Str)) = false := by kernel_rfl) :
    QS X (.Try [.Assign [.Name y py] ce apos] [.ExceptHandler (some (.Name S' np)) (some n) (b0 :: suite) hpos] [] [] pos) (tTryAs X.K i j S tx ts) :=
  ⟨ps_tryas (i := i) (j := j) hN hi (.inl hy) hj hn hfr hst hex hgS hmS cS hbS hx.h (fun a => (hs a).h) (.inr hy) hsw hdb⟩
end
section
variable {P : Program} {w : World} {K : PySem.W.Frag} {mg : Str → Option Value} {base : Heap} {N : List Str} {qual : Str} {scope : Scope} {f : Addr} {cd : Value} {A : Around} {outer : List Env} {s₀ : Shared} {H₀ : Hp} {E : XK}
theorem s_raiseI {x : Str} {C fI : Addr} {fd : FuncData} {ps : List Str} {sp : Sp} {k j : Nat} {e : Expr} {es : List Expr} {t : TA} {np cpos pos : Pos} (hm : mg x = some (.ref C)) (R : XRaise K C fI)
    (G : FnOk P w K mg base CX0 k fI fd ps sp) (hr : Room j (cxOf (CX1 P w) P w K mg base N qual scope f cd A outer s₀ H₀ E).A) (hb : Binds K fd ps [])
    (ha : QA (cxOf (CX1 P w) P w K mg base N qual scope f cd A outer s₀ H₀ E) (e :: es) t) (hj : k + 1 ≤ j := by decide) (hg : (cxOf (CX1 P w) P w K mg base N qual scope f cd A outer s₀ H₀ E).env.kindOf x = some .globalImplicit := by kernel_rfl) (hdb : (x == ("__debug__" : Str)) = false := by kernel_rfl) (he : nostar e = true := by rfl) (hpl : es.all nostar = true := by rfl) :
    QS (cxOf (CX1 P w) P w K mg base N qual scope f cd A outer s₀ H₀ E) (.Raise (some (.Call (.Name x np) (e :: es) [] cpos)) none pos) (tRaiseI C sp E t) := ⟨ps_raiseI hg hm R G (hr.mono hj) hb ha.h hdb (star_plain he) (any_plain hpl)⟩
end
end L2

set_option linter.all false
set_option maxRecDepth 100000
set_option maxHeartbeats 4000000
namespace L2
open PySem PySem.Spec PyProof.Rows
/-- a class of exceptions with an own __init__, as the written part has it -/
structure InitIn (K : PySem.W.Frag) (C : Addr) (qual : Str) (st : Stmt) : Prop where
  ex : ∃ fI fd, XRaise K C fI ∧ Fun K "__init__" qual st fI fd
  xc : XCls K C
  ek : ExcK K C
  ec : ∃ bm id, ExcC K C bm id
theorem initIn_mk {K : PySem.W.Frag} {C fI : Addr} {qual : Str} {st : Stmt} {oc : Value} {od an : Option Addr} {osl : Array (Option Value)} {kV doc pm cdv ct : Value} {cd : ClassData}
    {bm bs sub : List Value} {NN : Addr} {nm qn : Str} {hd ab : Bool} {sn : List Str} {col : Option Bool} {dd : Option Addr} {k0 k1 k2 k3 k5 : Option Value}
    (hi : PySem.W.findIn K (.ref C) "__init__" = some (some (.ref fI))) (ht : PySem.W.typeIn K (.ref fI) = some (.type "function"))
    (l : K.lookup fI = some ⟨oc, od, .func (PySem.W.fnOf "__init__" qual (defArgs st) (defBody st) (defScope st) .none kV doc pm an cdv ct), osl⟩) (cc : PySem.W.codeIn K cdv qual = true) (kk : PySem.W.keepIn K (.ref fI) = true)
    (lC : K.lookup C = some (excClassObj nm qn C NN bs bm hd sn sub ab col dd k0 k1 k2 k3 k5 "ValueError.__new__")) (tl : PySem.W.tailIn K bmVE bm = true)
    (hcd : PySem.W.clsIn K C = some cd) (ho : onlyVE cd.mro = true) (hdd : cd.hasDict = true) (sa : PySem.W.findIn K (.ref C) "__setattr__" = some (some (.builtin "object.__setattr__")))
    (hm : PySem.W.mroIn K C (.type "BaseException") = some true) (hmo : PySem.W.mroIn K C (.type "object") = some true) (hga : PySem.W.findIn K (.ref C) "__getattribute__" = some (some (.builtin "BaseException.__getattribute__"))) (hgn : PySem.W.findIn K (.ref C) "__getattr__" = some none)
    (hc : (PySem.W.clsIn K C).isSome = true) (ha : PySem.W.findIn K (.ref C) "__class__" = some (some (.builtin "object.__class__"))) (hn : PySem.W.specialIn K (.builtin "object.__class__") "__get__" = some (some (.builtin "getset_descriptor.__get__")))
    (htk : PySem.W.takesIn K (.builtin "object.__class__") = some true) : InitIn K C qual st :=
  ⟨⟨fI, _, ⟨⟨nm, qn, NN, bs, bm, hd, sn, sub, ab, col, dd, k0, k1, k2, k3, k5, lC, tl⟩, hi, ht⟩, fun_mk l cc kk⟩, ⟨⟨cd, hcd, ho, hdd⟩, sa⟩, ⟨hm, hmo, hga, hgn, hc, ha, hn, htk⟩, ⟨bm, _, .mk lC⟩⟩
end L2

set_option linter.all false
set_option maxRecDepth 100000
set_option maxHeartbeats 1000000
namespace L2
open PySem PySem.Spec PyProof.Rows
theorem unpackItems_list {prog : Program} {w : World} {A : Around} {E : Value → Shared → Prop} {s : Shared} {l : Addr} {items : Array Value} {Q : List Value → Shared → Prop} (hh : A.handled = none) (hl : s.heap.IsList l items)
    (q : ∀ h', Heap.ExtBut s.heap.objs.size s.heap h' → Q items.toList { s with heap := h' }) : wpAny (model prog w) A (unpackItems (.ref l) items.size none) Q E s := by
  unfold unpackItems notIterableAtAll
  have ty : s.TypeIs (.ref l) "list" := by
    obtain ⟨o, e, c, d⟩ := hl
    exact ⟨o, e, c⟩
  refine wpAny_bind (wpAny_bind (wpAny_specialOf ty PySem.F.slot_list_iter.lookup (wpAny_pure ?_)))
  refine wpAny_bind (wpAny_holding (wpAny_pyIter_list hl ?_))
  have hlt : l < s.heap.objs.size := by
    obtain ⟨o, e, c, d⟩ := hl
    exact Heap.lt_size e
  have ne : l ≠ s.heap.objs.size := Nat.ne_of_lt hlt
  have hl1 : (s.heap.push { cls := .type "list_iterator", data := .fields #[.ref l, .int 0 0] }).IsList l items := by
    obtain ⟨o, e, c, d⟩ := hl
    exact ⟨o, Heap.get?_push_of_some _ e, c, d⟩
  refine wpAny_bind (wpAny_holding (PySem.W.kun_draw ne items.size 0 _ _ ⟨_, Heap.get?_push_size _ rfl, rfl, rfl⟩ hl1 (by omega) fun h' it' sb => ?_))
  have hl2 : h'.IsList l items := by
    obtain ⟨o, e, c, d⟩ := hl1
    exact ⟨o, (sb.2 l ne).trans e, c, d⟩
  have e : List.take items.size (List.drop 0 items.toList) = items.toList := by
    rw [List.drop_zero]
    exact List.take_of_length_le (by simp)
  rw [e]
  have hn : ¬ items.toList.length < items.size := by simp
  show wpAny _ _ (if items.toList.length < items.size then _ else _) _ _ _
  rw [if_neg hn]
  refine wpAny_bind (wpAny_holding (wpAny_pyNext_list_end hh it' hl2 (by simp) fun h2 eb => wpAny_pure (q h2 fun b o hb eo => eb b o hb ?_)))
  rw [sb.2 b hb]
  exact Heap.get?_push_of_some _ eo
theorem assign_Tuple_list {prog : Program} {w : World} {A : Around} {E : Value → Shared → Prop} {s : Shared} {env : Env} {elts : List Expr} {x1 : Nat} {pos : Pos} {l : Addr} {items : Array Value} {Q : Unit → Shared → Prop} (hh : A.handled = none) (hl : s.heap.IsList l items)
    (hn : (assignEach elts env).length = items.size) (hst : List.findIdx? (fun x => x.fst) (assignEach elts env) = none)
    (q : ∀ h', Heap.ExtBut s.heap.objs.size s.heap h' → wpAny (model prog w) A (assignInOrder ((assignEach elts env).map (·.2)) items.toList) Q E { s with heap := h' }) : wpAny (model prog w) A (assign (.Tuple elts x1 pos) env (.ref l)) Q E s := by
  rw [PyProof.Rows.assign_Tuple]
  refine wpAny_bind (wpAny_standAt ?_)
  unfold unpack
  rw [hst, hn]
  exact wpAny_bind (wpAny_holding (unpackItems_list hh hl fun h' hx => q h' hx))
section
variable {X : Cx} {pos : Pos}
/-- (a, b, ..) = a list of that length -/
def gTupL (K : PySem.W.Frag) (n : Nat) (t : TGs) : TG := fun v σ H Q => ∃ a xs, v = .ref a ∧ SqL K H a xs ∧ xs.length = n ∧ t xs σ H Q
theorem pg_tupL {es : List Expr} {k : Nat} {t : TGs} {n : Nat} (hc : X.calm = true) (h : PGs X es t)
    (hn : (assignEach es X.env).length = n := by rfl) (hst : (assignEach es X.env).findIdx? (·.1) = none := by rfl) : PG X (.Tuple es k pos) (gTupL X.K n t) := by
  intro pins s σ H v u Q I r hw
  obtain ⟨a, xs, e1, hq, hl, hw⟩ := hw
  subst e1
  cases r
  obtain ⟨its, rv, p, hz⟩ := I.list hq
  refine assign_Tuple_list (I.ok.hd hc) p.isList (by simp [hn, ← hl, rv.length]) hst fun h' hx => ?_
  have I1 : Inv X pins σ H { s with heap := h' } := I.kept (t' := s.toks) fun b o e => hx b o (Nat.ne_of_lt (Heap.lt_size e)) e
  exact h pins _ σ H xs _ Q I1 (by simpa using rv) hw
theorem g_tupL {es : List Expr} {k : Nat} {t : TGs} {n : Nat} {pos} (hc : X.calm = true) (h : QGs X es t) (hn : (assignEach es X.env).length = n := by rfl) (hst : (assignEach es X.env).findIdx? (·.1) = none := by rfl) : QG X (.Tuple es k pos) (gTupL X.K n t) := ⟨pg_tupL hc h.h hn hst⟩
/-- a def that is never called: for the first step of one that calls itself -/
theorem Def.never {P : Program} {w : World} {K : PySem.W.Frag} {mg : Str → Option Value} {base h : Heap} {CX : CXT} {x : Str} {k : Nat} {ps : List Str} {st : Stmt} (X : K.In h) (G : h.Ns mainGlobals mg) (FI : FunIn K x st)
    (hb : ∀ (kV doc pm : Value) (an : Option Addr) (cdv ct : Value) (us : List Value), us.length = ps.length → bindArgs (PySem.W.fnOf x x (defArgs st) (defBody st) (defScope st) .none kV doc pm an cdv ct) ⟨us, []⟩ = pure (ps.zip us)) :
    Def P w K mg base CX x k ps (fun _ _ _ _ => False) := Def.of X G FI (fun f fd F => ⟨fun _ _ _ _ z => z.elim, fun _ _ _ _ _ _ _ _ _ _ _ _ _ z => z.elim⟩) hb
end

def tTryE (K : PySem.W.Frag) (j : Nat) (S : Addr) (tx : TX) (ts : Addr → TS) : TS := fun D σ H =>
  tx σ H (fun v H1 => D.nx σ H1) fun cls d H1 => ∃ C bm nid, cls = .ref C ∧ ExcC K C bm nid ∧ (Value.ref C :: bm).contains (.ref S) = true ∧
    ∀ a, H1 a = none → ts a { nx := fun σ' H' => D.nx (σ'.set j none) H', rt := D.rt, bk := fun σ' H' => D.bk (σ'.set j none) H', ct := fun σ' H' => D.ct (σ'.set j none) H' } (σ.set j (some (.ref a))) (upd H1 a (excO a cls d))
section
variable {X : Cx}
end
end L2

set_option linter.all false
set_option maxRecDepth 100000
set_option maxHeartbeats 4000000
namespace G
open PySem L2
abbrev Fine (x : Str) : Prop := PyData.strOk x = true
theorem fine_iff {x : Str} : Fine x ↔ ∀ c ∈ x.cps.toList, c < 0x110000 := by
  unfold Fine PyData.strOk
  rw [← Array.all_toList, List.all_eq_true]
  constructor
  · intro h c hc
    exact of_decide_eq_true (h c hc)
  · intro h c hc
    exact decide_eq_true (h c hc)
theorem fine_app {a b : Str} (ha : Fine a) (hb : Fine b) : Fine (a ++ b) := by
  rw [fine_iff] at ha hb ⊢
  intro c hc
  have hc' : c ∈ (a.cps ++ b.cps).toList := hc
  rw [Array.toList_append, List.mem_append] at hc'
  rcases hc' with h | h
  · exact ha c h
  · exact hb c h
theorem fine_slice {x : Str} (h : Fine x) (lo hi : Option Int) : Fine (Txt.slice x lo hi) := by
  unfold Txt.slice
  split
  · exact h
  · rw [fine_iff] at h ⊢
    intro c hc
    have hc' : c ∈ (Builtin.Str.strSliceIndices lo hi 1 x.length).filterMap (x.cps[·]?) := hc
    obtain ⟨i, _, hi⟩ := List.mem_filterMap.mp hc'
    exact h c (Array.mem_toList_iff.mpr (Array.mem_of_getElem? hi))
theorem fine_one {c : Nat} (h : c < 0x110000) : Fine ⟨#[c]⟩ := by
  rw [fine_iff]
  intro d hd
  have : d = c := by simpa using hd
  omega
theorem fine_join {l : List Str} (h : ∀ x ∈ l, Fine x) : Fine (Txt.join (Str.ofString "") l) := by
  show Fine (Builtin.Str.glued (Str.ofString "") l)
  rw [PySem.StrLaws.glued_eq_join]
  induction l with
  | nil => exact (by decide +kernel : PyData.strOk Str.empty = true)
  | cons a r ih =>
    cases r with
    | nil => exact h a (.head _)
    | cons b r =>
      show Fine (a ++ Str.ofString "" ++ Str.join (Str.ofString "") (b :: r))
      exact fine_app (fine_app (h a (.head _)) (by decide +kernel)) (ih fun x hx => h x (.tail _ hx))
theorem foldl_len (l : List Str) : ∀ n : Nat, (∀ x ∈ l, x.length ≤ 100) → l.toArray.foldl (fun acc (p : Str) => acc + p.length + (Str.ofString "").length) n ≤ n + 100 * l.length := by
  have z : (Str.ofString "").length = 0 := by decide
  simp only [z, List.foldl_toArray']
  induction l with
  | nil => intro n _; simp
  | cons a r ih =>
    intro n h
    have h1 := h a (.head _)
    have h2 := ih (n + a.length + 0) fun x hx => h x (.tail _ hx)
    simp only [List.foldl_cons, List.length_cons]
    omega
theorem join_ok {l : List Str} (h : ∀ x ∈ l, x.length ≤ 100) (hl : l.length ≤ 1000) : JoinOk (Str.ofString "") l = true := by
  have := foldl_len l 0 h
  unfold JoinOk
  rw [Bool.not_eq_true']
  unfold Builtin.Str.tooLong
  have zl : sizeLine = 16777216 := sizeLine_eq
  exact decide_eq_false (by omega)
/-- a comprehension whose element is worth ys at its places -/
theorem comp_pure2 {J : It} {xs ys : List V} {H : Hp} {cap : St} {te : TE} {Q : VK} (hn : xs.length ≤ sizeLine) (hl : ys.length = xs.length)
    (go : ∀ i H', Same H H' → i < xs.length → J.go i H') (yld : ∀ i H' x H'', Same H H' → i < xs.length → J.yld i H' x H'' → H'' = H' ∧ xs[i]? = some x) (stop : ∀ H', Same H H' → J.stop xs.length H')
    (el : ∀ (i : Nat) x y H' (P : VK), Same H H' → xs[i]? = some x → ys[i]? = some y → (∀ H'', Same H' H'' → P y H'') → te (some x :: cap) H' P) (fin : ∀ D H', Same H H' → H D = none → H' D = some (.lst ys) → Q (.ref D) H') :
    Comped J cap te Q H := by
  intro D hD
  refine ⟨fun i m zs H2 => m = xs.length - i ∧ i ≤ xs.length ∧ zs = ys.take i ∧ H2 D = some (.lst zs) ∧ Same H H2, ⟨xs.length, rfl, Nat.zero_le _, by simp, upd_same, Same.new hD _⟩, ?_⟩
  rintro i m zs H2 ⟨rfl, hi, hz, hDz, hS⟩
  refine ⟨hDz, ?_⟩
  by_cases h : i < xs.length
  · refine .inr ⟨go i H2 hS h, ?_⟩
    intro x H3 hy
    obtain ⟨rfl, hx⟩ := yld i H2 x H3 hS h hy
    obtain ⟨yv, hyi⟩ : ∃ yv, ys[i]? = some yv := ⟨ys[i]'(by omega), List.getElem?_eq_getElem (by omega)⟩
    have hzl : zs.length = i := by rw [hz, List.length_take]; omega
    refine el i x yv H3 _ hS hx hyi fun H4 hS4 => ⟨hS4 _ _ hDz, by omega, xs.length - (i + 1), by omega, rfl, h, ?_, upd_same, fun b u q => ?_⟩
    · rw [hz, List.take_add_one, hyi]
      rfl
    · rw [upd_ne (ne_of_none q hD)]
      exact hS4 _ _ (hS _ _ q)
  · have e : i = xs.length := by omega
    subst e
    refine .inl ⟨stop H2 hS, fin D H2 hS hD ?_⟩
    rw [hDz, hz, List.take_of_length_le (by omega)]

/-- a comprehension over a list -/
theorem comp_list {K : PySem.W.Frag} {a : Addr} {xs : List V} {H : Hp} {cap : St} {te : TE} {Q : VK} (ys : List V) (hS : SqL K H a xs) (hn : xs.length ≤ sizeLine) (hl : ys.length = xs.length)
    (el : ∀ (i : Nat) x y H' (P : VK), Same H H' → xs[i]? = some x → ys[i]? = some y → (∀ H'', Same H' H'' → P y H'') → te (some x :: cap) H' P) (fin : ∀ D H', Same H H' → H D = none → H' D = some (.lst ys) → Q (.ref D) H') :
    Comped (Itl K a) cap te Q H := by
  refine comp_pure2 (J := Itl K a) (xs := xs) (ys := ys) hn hl ?_ ?_ ?_ el fin
  · intro i H' s hi
    exact ⟨xs, xs[i], s.seq hS, List.getElem?_eq_getElem hi⟩
  · rintro i H' x H'' s hi ⟨rfl, h⟩
    exact ⟨rfl, h xs (s.seq hS)⟩
  · intro H' s
    exact ⟨xs, s.seq hS, Nat.le_refl _⟩
theorem comp_rng {lo : Int} {n : Nat} {H : Hp} {cap : St} {te : TE} {Q : VK} (f : Nat → V) (hn : n ≤ sizeLine)
    (el : ∀ (i : Nat) H' (P : VK), i < n → Same H H' → (∀ H'', Same H' H'' → P (f i) H'') → te (some (.int (lo + i)) :: cap) H' P) (fin : ∀ D H', Same H H' → H D = none → H' D = some (.lst ((List.range n).map f)) → Q (.ref D) H') :
    Comped (Itr lo n) cap te Q H := by
  have hlen : ((List.range n).map fun (i : Nat) => V.int (lo + i)).length = n := by rw [List.length_map, List.length_range]
  refine comp_pure2 (xs := (List.range n).map fun (i : Nat) => V.int (lo + i)) (ys := (List.range n).map f) (by rw [hlen]; exact hn) (by rw [List.length_map, List.length_map]) ?_ ?_ ?_ ?_ fin
  · intro i H' _ h
    rw [hlen] at h
    exact h
  · rintro i H' y H'' _ h ⟨rfl, rfl⟩
    refine ⟨rfl, ?_⟩
    rw [hlen] at h
    rw [List.getElem?_map, List.getElem?_range h]
    rfl
  · intro H' _
    rw [hlen]
    exact Nat.le_refl _
  · intro i y z H' P hS h1 h2 hP
    rw [List.getElem?_map] at h1 h2
    cases hc : (List.range n)[i]? with
    | none => rw [hc] at h1; cases h1
    | some c =>
      obtain ⟨h3, h4⟩ := List.getElem?_eq_some_iff.mp hc
      rw [hc] at h1 h2
      rw [List.getElem_range] at h4
      subst h4
      cases h1
      cases h2
      rw [List.length_range] at h3
      exact el i H' P h3 hS hP
end G

set_option maxRecDepth 100000
namespace K01
open PySem
/-! Texts of nine signs, cut and put together. -/
abbrev t9 (a b c d e f p g h : Nat) : Str := ⟨#[a, b, c, d, e, f, p, g, h]⟩
theorem dc : ∀ d : Nat, d < 10 → (Nat.digitChar d).toNat = 48 + d := by decide
theorem td1 {q : Nat} (h : q < 10) : (Nat.toDigits 10 q).map Char.toNat = [48 + q] := by
  rw [Nat.toDigits_of_lt_base h]
  simp [dc q h]
theorem tdS {q : Nat} (h : 10 ≤ q) : (Nat.toDigits 10 q).map Char.toNat = (Nat.toDigits 10 (q / 10)).map Char.toNat ++ [48 + q % 10] := by
  have hm : q % 10 < 10 := Nat.mod_lt q (by decide)
  have t : Nat.toDigits 10 (q / 10) ++ Nat.toDigits 10 (q % 10) = Nat.toDigits 10 (10 * (q / 10) + q % 10) := Nat.toDigits_append_toDigits (by decide) (by omega) hm
  rw [Nat.div_add_mod] at t
  rw [← t, List.map_append, td1 hm]
end K01

set_option maxRecDepth 100000
namespace K01
open PySem PySem.NumText
def greatS : Str := "ABCDEFGHIJKLMNOPQRSTUVWXYZ"
def figS : Str := "0123456789"
def gr (c : Nat) : Bool := decide (c ∈ greatS.cps.toList)
def dg (c : Nat) : Bool := decide (c ∈ figS.cps.toList)
theorem figL : figS.cps.toList = [48, 49, 50, 51, 52, 53, 54, 55, 56, 57] := by decide
theorem greatL : greatS.cps.toList = [65, 66, 67, 68, 69, 70, 71, 72, 73, 74, 75, 76, 77, 78, 79, 80, 81, 82, 83, 84, 85, 86, 87, 88, 89, 90] := by decide
theorem dg_mk {c : Nat} (h : 48 ≤ c) (h2 : c ≤ 57) : dg c = true := by
  unfold dg
  rw [decide_eq_true_eq, figL]
  simp
  omega
/-- the edge number of a text -/
def keyOf (x : Str) : Option (Str × Int) := match x.cps.toList with
  | [a, b, c, d, e, f, p, g, h] => if (gr a && gr b && (dg c && dg d && dg e && dg f) && (p == 43) && (dg g && dg h) && decide (digitsVal [g, h] < 16)) = true then some (⟨#[a, b]⟩, ((digitsVal [c, d, e, f] : Nat) : Int) * 16 + ((digitsVal [g, h] : Nat) : Int)) else none
  | _ => none
def shown (a b : Nat) (n : Nat) : Str := t9 a b (48 + n / 16 / 1000) (48 + n / 16 / 100 % 10) (48 + n / 16 / 10 % 10) (48 + n / 16 % 10) 43 (48 + n % 16 / 10) (48 + n % 16 % 10)
end K01

set_option linter.all false
set_option maxRecDepth 100000
set_option maxHeartbeats 4000000
namespace G
open PySem L2
theorem small {n : Nat} (h : n ≤ 1000) : n ≤ sizeLine := Nat.le_of_lt (small1000 h)
theorem fitS {a b : Str} (ha : a.length ≤ 400) (hb : b.length ≤ 400) : a.length + b.length ≤ sizeLine := by
  have zl : sizeLine = 16777216 := sizeLine_eq
  omega
theorem appS {a b : Str} {m n : Nat} (ha : a.length ≤ m) (hb : b.length ≤ n) : (a ++ b).length ≤ m + n := by
  rw [PySem.Str.length_append]
  omega
theorem at_list {α : Type} {xs : List α} {i : Int} (h0 : 0 ≤ i) (h : i < (xs.length : Int)) : ∃ v, atI xs i = some v ∧ v ∈ xs := by
  have hj : i.toNat < xs.length := by omega
  have e : i = ((i.toNat : Nat) : Int) := by omega
  have q := atI_nat (List.getElem?_eq_getElem hj)
  rw [← e] at q
  exact ⟨xs[i.toNat], q, List.getElem_mem hj⟩
section
variable {K : PySem.W.Frag}
theorem kit_self {T : String} : PySem.W.kitOne K (.type T) (valOf (.ty T)) = some true := by
  unfold PySem.W.kitOne
  exact if_pos (beq_self_eq_true (Value.type T))
end
/-- None, an int, a text that is not too long -/
inductive Scal : V → Prop
  | non : Scal .non
  | int (i : Int) : Scal (.int i)
  | str (x : Str) (h : x.length ≤ 1000) (ok : Fine x) : Scal (.str x)
def isStr : V → Bool
  | .str _ => true
  | _ => false
/-- what a scalar is worth -/
def datV : V → PyData
  | .int i => .int i
  | .str x => .str x
  | _ => .none
end G

set_option linter.all false
set_option maxRecDepth 100000
set_option maxHeartbeats 4000000
/-! list(range(..)) of two and three; a list's item stored. -/
namespace L2
open PySem PySem.Spec PyProof.Rows
/-- the whole numbers from i on, n of them, k apart -/
def rngV (i : Int) (n : Nat) (k : Int) : List V := (List.range n).map fun (m : Nat) => V.int (i + (m : Int) * k)
section
variable {X : Cx}
def Small62 (i : Int) : Prop := -(2 ^ 62) ≤ i ∧ i < 2 ^ 62
def tLRng3 (ta : TA) : TE := fun σ H Q => ta σ H fun vs H1 => ∃ i j k : Int, vs = [.int i, .int j, .int k] ∧ Small62 i ∧ Small62 j ∧ ∃ n : Nat, ((k = 1 ∧ n = (j - i).toNat) ∨ (k = -1 ∧ n = (i - j).toNat)) ∧ n ≤ 2 ^ 24 ∧ ∀ l, H1 l = none → Q (.ref l) (upd H1 l (.lst (rngV i n k)))
def tLRng2 (ta : TA) : TE := fun σ H Q => ta σ H fun vs H1 => ∃ i j : Int, vs = [.int i, .int j] ∧ Small62 i ∧ Small62 j ∧ (j - i).toNat ≤ 2 ^ 24 ∧ ∀ l, H1 l = none → Q (.ref l) (upd H1 l (.lst (rngV i (j - i).toNat 1)))
end
section
variable {X : Cx} {K : PySem.W.Frag}
/-! rules whose reading names the frozen heap: within a comprehension it is to be named from around it -/
end
/-- a term of rules in its place (the plain judgement is never looked into) -/
theorem useQ {X : Cx} {b : List Stmt} {t : TS} {D : Ends} {σ : St} {H : Hp} (h : QSs X b t) (r : t D σ H) : ∃ t, PSs X b t ∧ t D σ H := ⟨t, h.h, r⟩
end L2

set_option linter.all false
set_option maxRecDepth 100000
/-! Clips and strips as numbers: what is taken to which strip. -/
namespace KS
open PySem
structure Clip where
  reel : Str
  a : Int
  b : Int
  f : Int
def Clip.way (c : Clip) : Int := if c.b < c.a then -1 else 1
def Clip.cnt (c : Clip) : Nat := (c.b - c.a).natAbs + 1
def Clip.nums (c : Clip) : List Int := (List.range c.cnt).map fun (m : Nat) => c.a + (m : Int) * c.way
/-- a moment: the frame that is seen, the fade that begins with it -/
structure Mo where
  reel : Str
  n : Int
  f : Int
def Clip.ms (c : Clip) : List Mo := match c.nums with
  | [] => []
  | x :: r => ⟨c.reel, x, c.f⟩ :: r.map fun n => ⟨c.reel, n, 0⟩
def moments (cs : List Clip) : List Mo := cs.flatMap Clip.ms
/-- the frame can be the strip's next one -/
def goes (s : Clip) (n : Int) : Prop := if s.a = s.b then (n - s.b).natAbs = 1 else n = s.b + s.way
instance (s : Clip) (n : Int) : Decidable (goes s n) := by unfold goes; exact inferInstance
def can (s : Clip) (m : Mo) : Prop := s.reel = m.reel ∧ goes s m.n
instance (s : Clip) (m : Mo) : Decidable (can s m) := by unfold can; exact inferInstance
/-- the strips so far, the last one first, and one frame more -/
def stepR : List Clip → Mo → List Clip
  | [], m => [⟨m.reel, m.n, m.n, m.f⟩]
  | s :: r, m => if m.f ≤ 0 ∧ can s m then ⟨s.reel, s.a, m.n, s.f⟩ :: r else ⟨m.reel, m.n, m.n, m.f⟩ :: s :: r
def stripsR (ms : List Mo) : List Clip := ms.foldl stepR []
def strips (cs : List Clip) : List Clip := (stripsR (moments cs)).reverse
/-- no strip of FADE 0 but the first begins with a frame that the one ahead of it could have; the last one first -/
def Apart : List Clip → Prop
  | [] => True
  | [_] => True
  | s :: t :: r => (s.f ≤ 0 → t.reel = s.reel → ¬ goes t s.a) ∧ Apart (t :: r)
/-! ### sizes -/
structure MOk (m : Mo) : Prop where
  rl : m.reel.length ≤ 100
  rf : PyData.strOk m.reel = true
  n0 : 0 ≤ m.n
  n1 : m.n ≤ 1000000
  f0 : 0 ≤ m.f
  f1 : m.f ≤ 1000000
structure SOk (c : Clip) : Prop where
  rl : c.reel.length ≤ 100
  rf : PyData.strOk c.reel = true
  a0 : 0 ≤ c.a
  a1 : c.a ≤ 1000000
  b0 : 0 ≤ c.b
  b1 : c.b ≤ 1000000
  f0 : 0 ≤ c.f
  f1 : c.f ≤ 1000000
/-! ### by places -/
end KS

set_option linter.all false
set_option maxRecDepth 100000
set_option maxHeartbeats 1000000
/-! Clips and strips, tuples (REEL, FIRST, LAST, FADE), in the heap. -/
namespace KS
open PySem L2 G
def Clip.vs (c : Clip) : List V := [.str c.reel, .int c.a, .int c.b, .int c.f]
def Clip.d (c : Clip) : PyData := .tuple [.str c.reel, .int c.a, .int c.b, .int c.f]
/-- numbers of no great size -/
structure Sm (c : Clip) : Prop where
  a0 : 0 ≤ c.a
  a1 : c.a ≤ 1000000
  b0 : 0 ≤ c.b
  b1 : c.b ≤ 1000000
structure COk (m n : Nat) (c : Clip) : Prop where
  rl : c.reel.length ≤ 100
  rf : Fine c.reel
  a0 : 0 ≤ c.a
  a1 : c.a ≤ n
  b0 : 0 ≤ c.b
  b1 : c.b ≤ n
  f0 : 0 ≤ c.f
  f1 : c.f ≤ c.cnt
  d : c.cnt ≤ m
def CL (m n : Nat) (H : Hp) (p : Addr) (ps : List (Addr × Clip)) : Prop := H p = some (.lst (ps.map fun x => V.ref x.1)) ∧ ∀ x ∈ ps, H x.1 = some (.tup x.2.vs) ∧ COk m n x.2
/-- all but what lies at p -/
def Bt (p : Addr) (H H' : Hp) : Prop := ∀ b o, b ≠ p → H b = some o → H' b = some o
/-- a list of strips, the last one first -/
def SL (H : Hp) (p : Addr) (rs : List (Addr × Clip)) : Prop := H p = some (.lst (rs.reverse.map fun x => V.ref x.1)) ∧ ∀ x ∈ rs, H x.1 = some (.tup x.2.vs)
end KS

set_option linter.all false
set_option maxRecDepth 100000
set_option maxHeartbeats 4000000
/-! name = [.. for ..]: the store is exchanged with the letting go of the block's own names. -/
namespace L2
open PySem PySem.Spec PyProof.Rows
/-- a place that this block does not see is written -/
theorem Inv.but {X : Cx} {pins : List (Addr × Obj)} {σ : St} {H : Hp} {s : Shared} {C : Addr} {h' : Heap} (I : Inv X pins σ H s) (sb : Heap.SameBut C s.heap h') (f : FpOk X pins H C) (hx : X.s₀.heap.get? C = none := by assumption) : Inv X pins σ H { s with heap := h' } := by
  obtain ⟨f0, f1, f2, f3, f4, f5⟩ := f
  have ne0 : ∀ b o, X.s₀.heap.get? b = some o → b ≠ C := fun b o e z => by rw [z, hx] at e; cases e
  have cellS : ∀ {c v}, c ≠ C → s.heap.IsCell c v → h'.IsCell c v := fun hc ⟨o, ho, hd⟩ => ⟨o, (sb.2 _ hc).trans ho, hd⟩
  refine ⟨I.ok, I.os, I.bare, ⟨fun b o e n hb he => (sb.2 b (ne0 b o e)).trans (I.base.keep b o e n hb he), fun b o e n hb he => ?_, I.base.free, fun b o e he => ?_, I.base.tups, I.base.frzs, I.base.tbls⟩, ?_, fun x c e => ?_, I.free, I.freeC, fun p hp => ?_, fun b u e => ?_, I.len⟩
  · obtain ⟨sl, q⟩ := I.base.slot b o e n hb he
    exact ⟨sl, (sb.2 b (ne0 b o e)).trans q⟩
  · obtain ⟨o', q⟩ := I.base.there b o e he
    exact ⟨o', (sb.2 b (ne0 b o e)).trans q⟩
  · obtain ⟨m, hm, hl⟩ := I.loc
    refine ⟨m, hm.sameBut sb (Ne.symm f1), fun i x v e1 e2 e3 => ?_⟩
    obtain ⟨u, r, l⟩ := hl i x v e1 e2 e3
    refine ⟨u, r, ?_⟩
    rcases l with l | ⟨l1, c, l2, l3⟩
    · exact .inl l
    · exact .inr ⟨l1, c, l2, cellS (f4 _ _ l2) l3⟩
  · obtain ⟨v, q⟩ := I.cell x c e
    exact ⟨v, cellS (f4 _ _ e) q⟩
  · obtain ⟨q1, q2⟩ := I.pin p hp
    exact ⟨(sb.2 _ (f5 p hp)).trans q1, q2⟩
  · refine (I.hok b u e).stay (fun c v hc z => (sb.2 c ?_).trans z) (fun _ z => z) fun _ _ z => z
    rintro rfl
    rcases hc with hc | hc
    · rw [← hc, f0] at e; cases e
    · rw [f0] at hc; cases hc
section
variable {X : Cx} {x : Str} {px pos : Pos} {elt iter : Expr} {sc : Scope} {ys : List Str} {js : List Nat} {cl : List (Str × Addr)}
theorem ps_comp {wi : TI} {te : TE} {i0 : Nat} {y0 : Str} {py spos : Pos} (hN : X.N.Nodup) (hi0 : X.N[i0]? = some y0) (hy0 : X.env.scope.names.lookup y0 = some .local) (hsw : swapsWith (.ListComp elt [⟨.Name x px, iter, [], 0⟩] sc pos) (some (.Name y0 py)) spos.line X.env = pure true) (hclos : closureFor sc X.env = pure cl) (hcell : ∀ y ∈ sc.names, y.2 ≠ .cell) (hkind : sc.kind = .function) (hnames : ∀ y ∈ sc.names, y.2 = .local → sc.names.lookup y.1 = some .local)
    (hx : (relabel sc X.env).names.lookup x = some .local) (hcap : Caps X sc cl ys js) (hin : ∀ y c, cl.lookup y = some c → X.env.cells.lookup y = some c)
    (hhas : ∀ y, ((relabel sc X.env).names.lookup y = some .cell ∨ (relabel sc X.env).names.lookup y = some .free) → ∃ c, cl.lookup y = some c) (hnd : (x :: ys).Nodup) (hc : X.calm = true)
    (hi : PI X.nox (.Name x px) iter wi) (he : ∀ s2 H2 C ex, PE (compCx X sc (x :: ys) cl s2 H2 C ex) elt te) (hs : ∀ v, foldedSetIterable iter X.env v = pure v := by intro _; rfl) :
    PS X (.Assign [.Name y0 py] (.ListComp elt [⟨.Name x px, iter, [], 0⟩] sc pos) spos) (tAsg (tComp wi js te) (gName i0)) := by
  intro pins s σ H DE I h
  rw [exec_Assign_Name_used _ _ _ _ hsw]
  refine wpAny_bind (wpAny_standAt (wpAny_bind ?_))
  show wpAny _ _ (do let _ ← comprehension (.ListComp elt [⟨.Name x px, iter, [], 0⟩] sc pos) sc X.env _ (newList []) false (eval iter X.env) (some (assign (.Name y0 py) X.env))) _ _ s
  refine wpAny_bind (wpAny_mono (E := fun _ _ => False) (wpAny_comprehension_free (use := some (assign (.Name y0 py) X.env)) (Q := fun _ s' => SP X pins DE .next s') rfl hs hclos hkind hnames (wpAny_mono (hi pins s σ H _ (I.wish _) h) ?_ fun _ _ z => False.elim z)) (fun _ s' hq => wpAny_pure (wpAny_pure hq)) fun _ _ z => False.elim z)
  intro v s1 h1
  refine wpAny_mono h1 ?_ fun _ _ z => False.elim z
  rintro itv s2 ⟨it, fp, tn, J, H2, rfl, I2w, T, st2, f2w, q⟩
  have I2 := I2w.unwish
  have f2 : ∀ b ∈ fp, FpOk X pins H2 b := f2w
  -- the list that grows, the block's own names
  refine wpAny_newObj_type (wpAny_newFunctionEnv hcell (by intro y hy; simp at hy) (fun h4 hns hsb => ?_) hkind)
  dsimp only at hns hsb ⊢
  generalize hE : s2.heap.push { cls := .type "list", dict := none, data := .seq ([] : List Value).toArray } = g3 at hns hsb ⊢
  have hsz : g3.objs.size = s2.heap.objs.size + 1 := by rw [← hE, Heap.size_push]
  have hDC : s2.heap.objs.size ≠ g3.objs.size := by omega
  have old : ∀ b o, s2.heap.get? b = some o → h4.get? b = some o := fun b o e => by
    have lt : b < s2.heap.objs.size := Heap.lt_size e
    rw [hsb.2 b (Nat.ne_of_lt (by rw [hsz]; exact Nat.lt_succ_of_lt lt))]
    exact Heap.get?_push_of_some _ (hE ▸ Heap.get?_push_of_some _ e)
  have hD0 : H2 s2.heap.objs.size = none := I2.hok.fresh (Nat.le_refl _)
  have hC0 : H2 g3.objs.size = none := I2.hok.fresh (by omega)
  have hDat : h4.get? s2.heap.objs.size = some { cls := .type "list", data := .seq ([] : List Value).toArray } := by
    rw [hsb.2 _ hDC]
    exact Heap.get?_push_of_some _ (hE ▸ Heap.get?_push_size _ rfl)
  obtain ⟨W, ⟨m0, w0⟩, turn⟩ := q s2.heap.objs.size hD0
  have hfl : ∀ b ∈ fp, b < s2.heap.objs.size := fun b hb => by
    obtain ⟨o, e, _⟩ := T.obj _ _ st2 b hb
    exact Heap.lt_size e
  have J0 : Inv (compCx X sc (x :: ys) cl s2 H2 g3.objs.size fp) [] (none :: capt σ js) (upd H2 s2.heap.objs.size (.lst [])) { s2 with heap := h4, toks := s2.toks + ([] : List (Str × Value)).length } := by
    refine inv_comp (m := fun y => ([] : List (Str × Value)).reverse.lookup y) I2 f2 hkind hcap hin hhas hfl (by omega) rfl I2.bare (Un.laid old (Nat.le_refl _) hD0) old hns ?_ ?_
    · rw [upd_ne (Ne.symm hDC)]; exact hC0
    · exact I2.hok.laid old (Nat.le_refl _) ⟨Nat.zero_le _, [], 0, .nil, hDat⟩
  have st4 : tn 0 h4 := T.keep _ _ _ st2 fun b hb o e => old b o e
  have xcell : ∀ y c, (compCx X sc (x :: ys) cl s2 H2 g3.objs.size fp).env.cells.lookup y = some c → X.env.cells.lookup y = some c := hin
  have stat : ∀ {H' : Hp}, (∀ b ∈ fp, H' b = none) → ∀ b ∈ fp, FpOk (compCx X sc (x :: ys) cl s2 H2 g3.objs.size fp) [] H' b := fun hn b hb => by
    refine ⟨hn b hb, ?_, ?_, .inl hb, fun y c e => (f2 b hb).2.2.2.2.1 y c (hin y c e), fun p hp => absurd (show p ∈ ([] : List (Addr × Obj)) from hp) (by simp)⟩
    · have lt : b < s2.heap.objs.size := hfl b hb
      exact Nat.ne_of_lt (by show b < g3.objs.size; rw [hsz]; exact Nat.lt_succ_of_lt lt)
    · intro z
      rcases List.mem_cons.mp (I2.stkSub b z) with q | q
      · exact (f2 b hb).2.1 q
      · exact (f2 b hb).2.2.1 q
  have fin : ∀ {σ' : St} {H' : Hp} {s' : Shared}, Inv (compCx X sc (x :: ys) cl s2 H2 g3.objs.size fp) [] σ' H' s' → gName i0 (.ref s2.heap.objs.size) σ H' DE.nx →
      compPost (model X.prog X.w) X.A (fun _ _ => False) (some (assign (.Name y0 py) X.env)) (fun _ s' => SP X pins DE .next s') (.ref s2.heap.objs.size) g3.objs.size (.ok .next) s' := fun {σ' H' s'} J' q' => by
    obtain ⟨m, hm, _⟩ := J'.loc
    have neC : ∀ b o, s2.heap.get? b = some o → b ≠ g3.objs.size := fun b o e => by
      have lt : b < s2.heap.objs.size := Heap.lt_size e
      exact Nat.ne_of_lt (by rw [hsz]; exact Nat.lt_succ_of_lt lt)
    have ub := J'.base
    have I' : Inv X pins σ H' s' := I2.call' (ch := fp) J'.os ub J'.hok J'.bare fun b hb => ⟨(f2 b hb).2.2.2.1, (f2 b hb).2.1, (f2 b hb).2.2.2.2.1, (f2 b hb).2.2.2.2.2⟩
    have fC : FpOk X pins H' g3.objs.size := I2.fpOk (by omega) J'.free
    show wpAny _ _ (assign (.Name y0 py) X.env (.ref s2.heap.objs.size)) _ _ s'
    refine wpAny_assign_Name (store_ok2 (v := .ref s2.heap.objs.size) I' hN hi0 (.inl hy0) rfl (fun s3 I3 sb3 => ?_) (.inr hy0))
    obtain ⟨a3, sb3, ha3⟩ := sb3
    have na : g3.objs.size ≠ a3 := by
      rcases ha3 with rfl | z
      · exact fC.2.1
      · exact fun e => fC.2.2.2.2.1 _ _ z e.symm
    have h0 : X.s₀.heap.get? g3.objs.size = none := by
      cases e : X.s₀.heap.get? g3.objs.size with
      | none => rfl
      | some o =>
        have l1 := Heap.lt_size e
        exact absurd (Nat.lt_of_lt_of_le l1 (Nat.le_trans I2.sz (Nat.le_trans (Nat.le_succ _) (Nat.le_of_eq hsz.symm)))) (Nat.lt_irrefl _)
    exact ⟨m, hm.sameBut sb3 na, fun h' sb => ⟨_, H', I3.but sb fC h0, q'⟩⟩
  have loop : ∀ s4 : Shared, s4 = { s2 with heap := h4, toks := s2.toks + ([] : List (Str × Value)).length } →
      codeAny (model X.prog X.w) X.A (.compLoop (.ListComp elt [⟨.Name x px, iter, [], 0⟩] sc pos) 0 (.ref it) (.ref s2.heap.objs.size) (compEnvC sc cl g3.objs.size X.env))
        (compPost (model X.prog X.w) X.A (fun _ _ => False) (some (assign (.Name y0 py) X.env)) (fun _ s' => SP X pins DE .next s') (.ref s2.heap.objs.size) g3.objs.size) s4 := by
    rintro s4 rfl
    refine comp_loop (fun n s' => ∃ i xo ys' H', Inv (compCx X sc (x :: ys) cl s2 H2 g3.objs.size fp) [] (xo :: capt σ js) H' s' ∧ tn i s'.heap ∧ (∀ b ∈ fp, H' b = none) ∧ W i n ys' H') ?_ m0 ⟨0, none, [], _, J0, st4, fun b hb => ?_, w0⟩
    · rintro n s' ⟨i, xo, ys', H', J', st', fr', w'⟩
      obtain ⟨hD, alt⟩ := turn i n ys' H' w'
      rcases alt with ⟨stop, qn⟩ | ⟨go, step⟩
      · refine wpAny_mono (T.done (compCx X sc (x :: ys) cl s2 H2 g3.objs.size fp) rfl rfl rfl hc i [] s' _ H' (fun _ _ => False) J' (stat fr') st' stop) ?_ fun _ _ z => z
        rintro r s'' ⟨rfl, J''⟩
        exact fin J'' qn
      · refine wpAny_mono (T.item (compCx X sc (x :: ys) cl s2 H2 g3.objs.size fp) rfl rfl rfl hc i [] s' _ H' (fun _ _ => False) J' (stat fr') st' go) ?_ fun _ _ z => z
        rintro r s'' ⟨u, rfl, hu⟩
        refine wpAny_mono hu ?_ fun _ _ z => z
        rintro _ s5 ⟨xv, H5, J5, r5, y5, st5, fr5⟩
        have J5' := J5.pinned (stat fr5) (T.obj _ _ st5)
        refine wpAny_assign_Name (store_ok (X := compCx X sc (x :: ys) cl s2 H2 g3.objs.size fp) (i := 0) J5' hnd rfl (.inl hx) r5 (fun s6 J6 => ?_) (.inr hx))
        refine wpAny_mono (he s2 H2 g3.objs.size fp _ s6 _ H5 _ J6 (step xv H5 y5)) ?_ fun _ _ z => z
        rintro yv s7 ⟨yy, H7, J7, r7, hD7, hlen, m', hm', w7⟩
        refine wpAny_mono (mt_append (X := compCx X sc (x :: ys) cl s2 H2 g3.objs.size fp) _ s7 _ H7 (.ref s2.heap.objs.size) [yy] (.ref s2.heap.objs.size) [yv] (fun _ H8 => H8 = upd H7 s2.heap.objs.size (.lst (ys' ++ [yy]))) J7 rfl (.cons r7 .nil) ⟨_, ys', yy, rfl, rfl, hD7, hlen, rfl⟩) ?_ fun _ _ z => z
        rintro _ s8 ⟨_, H8, J8, _, rfl⟩
        have pinned : ∀ b ∈ fp, ∀ o, s5.heap.get? b = some o → s8.heap.get? b = some o ∧ (upd H7 s2.heap.objs.size (.lst (ys' ++ [yy]))) b = none := fun b hb o e => by
          obtain ⟨q1, q2, _⟩ := J8.pin (b, o) (List.mem_append_right _ (List.mem_append_right _ (mem_pinsAt hb e)))
          exact ⟨q1, q2⟩
        refine ⟨m', hm', i + 1, some xv, ys' ++ [yy], _, J8.unpinned, T.keep _ _ _ st5 fun b hb o e => (pinned b hb o e).1, fun b hb => ?_, w7⟩
        obtain ⟨o, e, _⟩ := T.obj _ _ st5 b hb
        exact (pinned b hb o e).2
    · rw [upd_ne (Nat.ne_of_lt (hfl b hb))]
      exact (f2 b hb).1
  exact codeAny_compStart_list (loop _ rfl) (T.self _ _ _ _ _ st4 (loop _ rfl))
end
theorem ps_compR {X : Cx} {i0 : Nat} {y0 : Str} {py spos : Pos} {x : Str} {px pos : Pos} {elt iter : Expr} {sc : Scope} {wi : TI} {te : TE} (hN : X.N.Nodup) (ys : List Str) (js : List Nat) (cl : List (Str × Addr)) (hclos : closureFor sc X.env = pure cl) (hcap : Caps X sc cl ys js) (hin : ClIn X.env cl)
    (hi : PI X.nox (.Name x px) iter wi) (he : ∀ s2 H2 C ex, PE (compCx X sc (x :: ys) cl s2 H2 C ex) elt te) (hc : X.calm = true := by rfl)
    (hcell : (sc.names.all fun p => p.2 != NameKind.cell) = true := by rfl) (hkind : sc.kind = .function := by rfl) (hnames : (sc.names.all fun p => p.2 != NameKind.local || sc.names.lookup p.1 == some NameKind.local) = true := by rfl)
    (hx : (relabel sc X.env).names.lookup x = some .local := by rfl) (hhas : ((relabel sc X.env).names.all fun p => p.2 == NameKind.local || p.2 == NameKind.globalImplicit || (cl.lookup p.1).isSome) = true := by rfl)
    (hnd : (x :: ys).Nodup := by decide +kernel) (hs : ∀ v, foldedSetIterable iter X.env v = pure v := by intro _; rfl) (hi0 : X.N[i0]? = some y0 := by kernel_rfl) (hy0 : X.env.scope.names.lookup y0 = some .local := by kernel_rfl) (hsw : swapsWith (.ListComp elt [⟨.Name x px, iter, [], 0⟩] sc pos) (some (.Name y0 py)) spos.line X.env = pure true := by kernel_rfl) :
    PS X (.Assign [.Name y0 py] (.ListComp elt [⟨.Name x px, iter, [], 0⟩] sc pos) spos) (tAsg (tComp wi js te) (gName i0)) := by
  refine ps_comp hN hi0 hy0 hsw hclos (fun y hy z => ?_) hkind (fun y hy z => ?_) hx hcap (fun y c e => hin.mem (PySem.mem_of_lookup e)) (fun y h => ?_) hnd hc hi he hs
  · have := List.all_eq_true.mp hcell y hy
    rw [z] at this
    exact absurd this (by decide)
  · have := List.all_eq_true.mp hnames y hy
    rw [z] at this
    simpa using this
  · have hm : ∃ k, (y, k) ∈ (relabel sc X.env).names ∧ (k = .cell ∨ k = .free) := by
      rcases h with h | h
      · exact ⟨_, PySem.mem_of_lookup h, .inl rfl⟩
      · exact ⟨_, PySem.mem_of_lookup h, .inr rfl⟩
    obtain ⟨k, hk, hz⟩ := hm
    have := List.all_eq_true.mp hhas _ hk
    rcases hz with rfl | rfl
    · exact Option.isSome_iff_exists.mp (by simpa using this)
    · exact Option.isSome_iff_exists.mp (by simpa using this)
end L2
namespace L2
open PySem PySem.Spec PyProof.Rows
/-- name = [.. for ..] -/
theorem s_comp {X : Cx} {i : Nat} {y0 : Str} {py spos : Pos} {x : Str} {px pos : Pos} {elt iter : Expr} {sc : Scope} {wi : TI} {te : TE} (hN : X.N.Nodup) (ys : List Str) (js : List Nat) (cl : List (Str × Addr)) (hclos : closureFor sc X.env = pure cl) (hcap : Caps X sc cl ys js) (hin : ClIn X.env cl)
    (hi : QI X.nox (.Name x px) iter wi) (he : ∀ s2 H2 C ex, QE (compCx X sc (x :: ys) cl s2 H2 C ex) elt te) (hc : X.calm = true := by rfl)
    (hcell : (sc.names.all fun p => p.2 != NameKind.cell) = true := by rfl) (hkind : sc.kind = .function := by rfl) (hnames : (sc.names.all fun p => p.2 != NameKind.local || sc.names.lookup p.1 == some NameKind.local) = true := by rfl)
    (hx : (relabel sc X.env).names.lookup x = some .local := by rfl) (hhas : ((relabel sc X.env).names.all fun p => p.2 == NameKind.local || p.2 == NameKind.globalImplicit || (cl.lookup p.1).isSome) = true := by rfl)
    (hnd : (x :: ys).Nodup := by decide +kernel) (hs : ∀ v, foldedSetIterable iter X.env v = pure v := by intro _; rfl) (hi0 : X.N[i]? = some y0 := by kernel_rfl) (hy0 : X.env.scope.names.lookup y0 = some .local := by kernel_rfl)
    (hsw : swapsWith (.ListComp elt [⟨.Name x px, iter, [], 0⟩] sc pos) (some (.Name y0 py)) spos.line X.env = pure true := by kernel_rfl) :
    QS X (.Assign [.Name y0 py] (.ListComp elt [⟨.Name x px, iter, [], 0⟩] sc pos) spos) (tAsg (tComp wi js te) (gName i)) :=
  ⟨ps_compR hN ys js cl hclos hcap hin hi.h (fun a b c d => (he a b c d).h) hc hcell hkind hnames hx hhas hnd hs hi0 hy0 hsw⟩
/-! a list of texts, written out -/
def strC : Expr → Option Str
  | .Constant (.str x) _ _ => some x
  | _ => none
theorem strC_is {e : Expr} {x : Str} (h : strC e = some x) : ∃ j pos, e = .Constant (.str x) j pos := by
  unfold strC at h
  split at h
  · cases h
    exact ⟨_, _, rfl⟩
  · cases h
theorem nostar_str {x : Str} {j pos} : nostar (.Constant (.str x) j pos) = true := rfl
theorem a_strs {X : Cx} : ∀ (es : List Expr) (xs : List Str), es.map strC = xs.map some → ∃ t, QA X es t ∧ ∀ σ H (Q : List V → Hp → Prop), Q (xs.map V.str) H → t σ H Q
  | [], [], _ => ⟨_, a_nil, fun _ _ _ h => h⟩
  | [], _ :: _, h => by cases h
  | _ :: _, [], h => by cases h
  | e :: es, x :: xs, h => by
    rw [List.map_cons, List.map_cons] at h
    obtain ⟨h1, h2⟩ := List.cons.inj h
    obtain ⟨j, pos, rfl⟩ := strC_is h1
    obtain ⟨t, q, r⟩ := a_strs es xs h2
    exact ⟨_, a_cons e_str q nostar_str, fun σ H Q h => r σ H _ h⟩
/-- ["..", "..", ..] -/
theorem e_lstS {X : Cx} (xs : List Str) {es : List Expr} {pos} (h : es.map strC = xs.map some := by kernel_rfl) : QE X (.List es pos) (fun _ H Q => xs.length ≤ sizeLine ∧ ∀ p, H p = none → Q (.ref p) (upd H p (.lst (xs.map V.str)))) := by
  obtain ⟨t, q, r⟩ := a_strs (X := X) es xs h
  refine ⟨fun pins s σ H Q I hq => (e_lst q).h pins s σ H Q I ?_⟩
  exact r σ H _ ⟨by rw [List.length_map]; exact hq.1, hq.2⟩
end L2

set_option linter.all false
set_option maxRecDepth 100000
set_option maxHeartbeats 4000000
namespace PySem
namespace F
end F
section
variable {prog : Program} {w : World} {A : Around} {E : Value → Shared → Prop} {s : Shared}
def revTObj (l : Addr) (i : Int) : Obj := { cls := .type "reversed", data := .fields #[.ref l, rawInt i] }
def Heap.IsRevT (h : Heap) (a l : Addr) (i : Int) : Prop := ∃ o, h.get? a = some o ∧ o.cls = .type "reversed" ∧ o.data = .fields #[.ref l, rawInt i]
open PyProof.Rows in
open PyProof.Rows in
end
end PySem

set_option linter.all false
set_option maxRecDepth 100000
set_option maxHeartbeats 4000000
namespace PySem
section
variable {prog : Program} {w : World} {A : Around} {E : Value → Shared → Prop} {s : Shared}
open PyProof.Rows in
end
end PySem

set_option linter.all false
set_option maxRecDepth 100000
set_option maxHeartbeats 4000000
/-! d[k], extend, any(..), for x in reversed(a tuple). -/
namespace L2
open PySem PySem.Spec PyProof.Rows
section
variable {X : Cx}
end
/-! t + u, t[a:b], whatever they are -/
theorem cat_tupG {prog : Program} {w : World} {A : Around} {E : Value → Shared → Prop} {s : Shared} {t b : Addr} {vs ws : List Value} {Q : Value → Shared → Prop} (ht : IsTup s.heap t vs.toArray) (hb : IsTup s.heap b ws.toArray) (h0 : vs = [] → Q (.ref b) s)
    (h1 : vs ≠ [] → ws = [] → Q (.ref t) s) (h2 : vs ≠ [] → ws ≠ [] → Q (.ref s.heap.objs.size) { s with heap := s.heap.push { cls := .type "tuple", data := .seq (vs ++ ws).toArray } })
    (hsz : vs.length + ws.length ≤ sizeLine) : wpAny (model prog w) A (binaryOp .Add (.ref t) (.ref b)) Q E s := by
  by_cases hv : vs = []
  · obtain ⟨⟨cls, dd, data, sl⟩, ho, hc, n, hd⟩ := id ht
    obtain ⟨⟨cls2, dd2, data2, sl2⟩, ho2, hc2, n2, hd2⟩ := id hb
    simp only at hc hd hc2 hd2
    subst hc hd hc2 hd2
    exact concat_meets ⟨_, ho, rfl⟩ ⟨_, ho2, rfl⟩ noFill_tuple_add seq_tuple_add PySem.F.slot_tuple_add PySem.F.entry_tuple_add (PySem.F.args_tuple_add_2 _ _)
      (tuple_addW0 t b vs.toArray ws.toArray n n2 dd dd2 sl sl2 (by simp [hv])) ⟨ho, ho2, h0 hv⟩
  · exact HT.cat_tup ht hb hv (h1 hv) (h2 hv) hsz
def rCatG : R2 := fun x y H Q => ∃ a b xs ys, x = .ref a ∧ y = .ref b ∧ H a = some (.tup xs) ∧ H b = some (.tup ys) ∧ xs.length + ys.length ≤ sizeLine ∧ ∀ p H', Same H H' → H' p = some (.tup (xs ++ ys)) → Q (.ref p) H'
section
variable {X : Cx}
theorem op_catG : OpR X (binaryOp .Add) rCatG := by
  intro pins s σ H x y v u Q I rx ry h
  obtain ⟨a, b, xs, ys, rfl, rfl, ha, hb, hz, q⟩ := h
  cases rx
  cases ry
  obtain ⟨its, r1, p1, _⟩ := I.tuple (SqT.of (K := X.K) ha)
  obtain ⟨its2, r2, p2, _⟩ := I.tuple (SqT.of (K := X.K) hb)
  refine cat_tupG p1 p2 (fun z => ⟨.ref b, H, I, rfl, q b H (Same.refl _) ?_⟩) (fun _ z => ⟨.ref a, H, I, rfl, q a H (Same.refl _) ?_⟩) (fun _ z => ?_) (by rw [← r1.length, ← r2.length]; exact hz)
  · rw [r1.nil_iff.mp z]
    exact hb
  · rw [r2.nil_iff.mp z, List.append_nil]
    exact ha
  · have fr : H s.heap.objs.size = none := I.hok.fresh (Nat.le_refl _)
    refine ⟨.ref s.heap.objs.size, _, I.laid (t' := s.toks) (o := .tup (xs ++ ys)) (fun b ob q => Heap.get?_push_of_some _ q) (Nat.le_refl _) ?_, rfl, q _ _ (Same.new fr _) upd_same⟩
    exact ⟨by rw [List.length_append]; exact hz, _, r1.append r2, IsTup.new _ _⟩
def rSlG : V → Option Int → Option Int → Hp → VK → Prop := fun x lo hi H Q => ∃ a xs, x = .ref a ∧ H a = some (.tup xs) ∧ ∀ p H', Same H H' → H' p = some (.tup (cutV xs lo hi)) → Q (.ref p) H'
end
/-- a tuple from its end on -/
def Itv (K : PySem.W.Frag) (a : Addr) (xs : List V) : It :=
  ⟨fun i H => SqT K H a xs ∧ i < xs.length, fun i H x H' => H' = H ∧ xs.reverse[i]? = some x, fun i H => SqT K H a xs ∧ xs.length ≤ i⟩
def iRevT (K : PySem.W.Frag) (ta : TA) : TI := fun σ H R => ta σ H fun vs H1 => ∃ a xs, vs = [.ref a] ∧ SqT K H1 a xs ∧ R (Itv K a xs) H1
section
variable {X : Cx}
end
end L2

set_option linter.all false
set_option maxRecDepth 100000
set_option maxHeartbeats 1000000
/-! Lists of items, as trees: a part bears its list with it. What they play; turned about. -/
namespace IT
open PySem
inductive It where
  | clip (r : Str) (f l : Int)
  | times (m : Int) (xs : List It)
  | back (xs : List It)
  | part (n : Str) (xs : List It)
  | fade (m : Int)
structure Cl where
  r : Str
  f : Int
  l : Int
  d : Int
def isF : It → Bool
  | .fade _ => true
  | _ => false
/-- the first clip's fade -/
def setF (m : Int) : List Cl → List Cl
  | [] => []
  | c :: r => ⟨c.r, c.f, c.l, m⟩ :: r
def revA : Int → List Cl → List Cl
  | _, [] => []
  | a, c :: r => ⟨c.r, c.l, c.f, a⟩ :: revA c.d r
def rev (cs : List Cl) : List Cl := revA 0 cs.reverse
def rep (n : Nat) (A : List Cl) : List Cl := (List.replicate n A).flatten
def step (x : It) (more : List Cl) (s : List Cl × Int) : List Cl × Int :=
  match x with
  | .fade m => (s.1, m)
  | _ => match more with
    | [] => s
    | c :: r => (s.1 ++ setF s.2 (c :: r), 0)
mutual
def flI : It → List Cl
  | .clip r f l => [⟨r, f, l, 0⟩]
  | .times m xs => rep m.toNat (run xs ([], 0)).1
  | .back xs => rev (run xs ([], 0)).1
  | .part _ xs => (run xs ([], 0)).1
  | .fade _ => []
def run : List It → List Cl × Int → List Cl × Int
  | [], s => s
  | x :: r, s => run r (step x (flI x) s)
end
def flL (xs : List It) : List Cl := (run xs ([], 0)).1
mutual
inductive WI : It → Prop
  | clip {r f l} : WI (.clip r f l)
  | times {m xs} : 1 ≤ m → m ≤ 20 → WL xs → WI (.times m xs)
  | back {xs} : WL xs → WI (.back xs)
  | part {n xs} : WL xs → WI (.part n xs)
inductive WL : List It → Prop
  | one {x} : WI x → WL [x]
  | cons {x r} : WI x → WL r → WL (x :: r)
  | fade {x m r} : WI x → WL r → WL (x :: .fade m :: r)
end
/-! the algebra of fades -/
/-- begins without a fade -/
def H0 (A : List Cl) : Prop := A ≠ [] ∧ setF 0 A = A
/-! what a good list plays -/
/-! turned about -/
def inp (xs : List It) : List It := if (xs.take 1 ++ xs.drop (xs.length - 1)).any isF then [.times 1 xs] else xs
mutual
def tI : It → List It
  | .clip r f l => [.clip r l f]
  | .times m xs => [.times m (tL xs)]
  | .part n xs => [.back [.part n xs]]
  | .back xs => inp (sL xs)
  | .fade m => [.fade m]
def tL : List It → List It
  | [] => []
  | x :: r => tL r ++ tI x
def sI : It → List It
  | .clip r f l => [.clip r f l]
  | .times m xs => [.times m (sL xs)]
  | .part n xs => [.part n xs]
  | .back xs => inp (tL xs)
  | .fade m => [.fade m]
def sL : List It → List It
  | [] => []
  | x :: r => sI x ++ sL r
end
end IT

set_option linter.all false
set_option maxRecDepth 100000
set_option maxHeartbeats 1000000
namespace IT
open PySem
/-! an item as data -/
mutual
def dI : It → PyData
  | .clip r f l => .tuple [.str "clip", .str r, .int f, .int l]
  | .times m xs => .tuple [.str "times", .int m, .tuple (dL xs)]
  | .back xs => .tuple [.str "back", .tuple (dL xs)]
  | .part n _ => .tuple [.str "part", .str n]
  | .fade m => .tuple [.str "fade", .int m]
def dL : List It → List PyData
  | [] => []
  | x :: r => dI x :: dL r
end
theorem dL_map : ∀ xs : List It, dL xs = xs.map dI
  | [] => by rw [dL]; rfl
  | x :: r => by rw [dL, dL_map r]; rfl
theorem dL_app (p q : List It) : dL (p ++ q) = dL p ++ dL q := by rw [dL_map, dL_map, dL_map, List.map_append]
/-! good names (T), parts as told (G) -/
mutual
def okI (T : Str → Prop) (G : Str → List It → Prop) : It → Prop
  | .clip r _ _ => T r
  | .times _ xs => okL T G xs
  | .back xs => okL T G xs
  | .part n xs => G n xs
  | .fade _ => True
def okL (T : Str → Prop) (G : Str → List It → Prop) : List It → Prop
  | [] => True
  | x :: r => okI T G x ∧ okL T G r
end
section
variable {T : Str → Prop} {G : Str → List It → Prop}
end
/-! how deep -/
mutual
def dpI : It → Nat
  | .clip _ _ _ => 0
  | .times _ xs => dpL xs + 1
  | .back xs => dpL xs + 1
  | .part _ xs => dpL xs + 1
  | .fade _ => 0
def dpL : List It → Nat
  | [] => 0
  | x :: r => max (dpI x) (dpL r)
end
theorem dpL_le {d : Nat} : ∀ {xs : List It}, dpL xs ≤ d ↔ ∀ x ∈ xs, dpI x ≤ d
  | [] => by rw [dpL]; exact ⟨fun _ x h => (nomatch h), fun _ => Nat.zero_le _⟩
  | y :: r => by
    rw [dpL, Nat.max_le, dpL_le (xs := r)]
    constructor
    · intro h x hx
      rcases List.mem_cons.mp hx with rfl | z
      · exact h.1
      · exact h.2 x z
    · exact fun h => ⟨h y (List.mem_cons_self ..), fun x hx => h x (List.mem_cons_of_mem _ hx)⟩
theorem dpL_app {d : Nat} {p q : List It} (hp : dpL p ≤ d) (hq : dpL q ≤ d) : dpL (p ++ q) ≤ d := dpL_le.mpr fun x hx => by
  rcases List.mem_append.mp hx with z | z
  · exact dpL_le.mp hp x z
  · exact dpL_le.mp hq x z
theorem dp1 {d : Nat} {x : It} (h : dpI x ≤ d) : dpL [x] ≤ d := by rw [dpL, dpL]; omega
/-! how many items -/
mutual
def wI : It → Nat
  | .clip _ _ _ => 1
  | .times _ xs => wL xs + 1
  | .back xs => wL xs + 1
  | .part _ _ => 1
  | .fade _ => 1
def wL : List It → Nat
  | [] => 0
  | x :: r => wI x + wL r
end
theorem wL_app : ∀ p q : List It, wL (p ++ q) = wL p + wL q
  | [], q => by rw [List.nil_append, wL, Nat.zero_add]
  | x :: r, q => by rw [List.cons_append, wL, wL, wL_app r q]; omega
theorem wI_pos (x : It) : 1 ≤ wI x := by cases x <;> simp [wI]
theorem wL_len : ∀ xs : List It, xs.length ≤ wL xs
  | [] => Nat.zero_le _
  | x :: r => by have := wL_len r; have := wI_pos x; rw [wL, List.length_cons]; omega
theorem wL_mem : ∀ {xs : List It} {x : It}, x ∈ xs → wI x ≤ wL xs
  | y :: r, x, h => by
    rw [wL]
    rcases List.mem_cons.mp h with rfl | z
    · omega
    · have := wL_mem z; omega
/-! no back but around one part -/
mutual
def plI : It → Prop
  | .clip _ _ _ => True
  | .times _ xs => plL xs ∧ xs ≠ []
  | .back xs => ∃ n ys, xs = [.part n ys]
  | .part _ _ => True
  | .fade _ => True
def plL : List It → Prop
  | [] => True
  | x :: r => plI x ∧ plL r
end
/-! counted -/
mutual
def cnI : It → Int
  | .clip _ _ _ => 1
  | .times m xs => m * cnL xs
  | .back xs => cnL xs
  | .part _ xs => cnL xs
  | .fade _ => 0
def cnL : List It → Int
  | [] => 0
  | x :: r => cnI x + cnL r
end
mutual
def frI : It → Int
  | .clip _ f l => (if l - f < 0 then -(l - f) else l - f) + 1
  | .times m xs => m * frL xs
  | .back xs => frL xs
  | .part _ xs => frL xs
  | .fade _ => 0
def frL : List It → Int
  | [] => 0
  | x :: r => frI x + frL r
end
end IT

set_option linter.all false
set_option maxRecDepth 100000
set_option maxHeartbeats 1000000
namespace IT
open PySem
/-! names -/
def NM (T : Str → Prop) (cs : List Cl) : Prop := ∀ c ∈ cs, T c.r
section
variable {T : Str → Prop} {G : Str → List It → Prop}
end
/-! turned about, place by place -/
end IT

set_option linter.all false
set_option maxRecDepth 100000
set_option maxHeartbeats 1000000
/-! Trees of tuples in the heap. -/
namespace DT
open PySem L2 G
mutual
inductive Td (H : Hp) : V → PyData → Prop
  | int (i : Int) : Td H (.int i) (.int i)
  | str (x : Str) : Td H (.str x) (.str x)
  | tup {a : Addr} {vs : List V} {ds : List PyData} : H a = some (.tup vs) → Tds H vs ds → Td H (.ref a) (.tuple ds)
inductive Tds (H : Hp) : List V → List PyData → Prop
  | nil : Tds H [] []
  | cons {v : V} {vs : List V} {d : PyData} {ds : List PyData} : Td H v d → Tds H vs ds → Tds H (v :: vs) (d :: ds)
end
/-- tuples stay -/
def TK (H H' : Hp) : Prop := ∀ a xs, H a = some (.tup xs) → H' a = some (.tup xs)
theorem TK.trans {H H1 H2 : Hp} (a : TK H H1) (b : TK H1 H2) : TK H H2 := fun c o h => b c o (a c o h)
theorem TK.of {H H' : Hp} (s : Same H H') : TK H H' := fun _ _ h => s _ _ h
theorem TK.lst {H : Hp} {p : Addr} {xs : List V} {o : HO} (h : H p = some (.lst xs)) : TK H (upd H p o) := fun a ys e => by rw [upd_ne (ne_of e h (by intro z; cases z))]; exact e
theorem TK.new {H : Hp} {p : Addr} (h : H p = none) (o : HO) : TK H (upd H p o) := TK.of (Same.new h o)
mutual
theorem Td.tk {H H' : Hp} (t : TK H H') : ∀ {v : V} {d : PyData}, Td H v d → Td H' v d
  | _, _, .int i => .int i
  | _, _, .str x => .str x
  | _, _, .tup h r => .tup (t _ _ h) (r.tk t)
theorem Tds.tk {H H' : Hp} (t : TK H H') : ∀ {vs : List V} {ds : List PyData}, Tds H vs ds → Tds H' vs ds
  | _, _, .nil => .nil
  | _, _, .cons h r => .cons (h.tk t) (r.tk t)
end
mutual
theorem Td.den {K : PySem.W.Frag} {H : Hp} : ∀ {v : V} {d : PyData}, Td H v d → Den K H v d
  | _, _, .int i => .int i
  | _, _, .str x => .str x
  | _, _, .tup h r => .tup (SqT.of h) r.den
theorem Tds.den {K : PySem.W.Frag} {H : Hp} : ∀ {vs : List V} {ds : List PyData}, Tds H vs ds → DenAll K H vs ds
  | _, _, .nil => .nil
  | _, _, .cons h r => .cons h.den r.den
end
theorem Tds.len {H : Hp} : ∀ {vs : List V} {ds : List PyData}, Tds H vs ds → vs.length = ds.length
  | _, _, .nil => rfl
  | _, _, .cons _ r => by rw [List.length_cons, List.length_cons, r.len]
theorem Tds.app {H : Hp} : ∀ {vs us : List V} {ds es : List PyData}, Tds H vs ds → Tds H us es → Tds H (vs ++ us) (ds ++ es)
  | _, _, _, _, .nil, h => h
  | _, _, _, _, .cons a r, h => .cons a (r.app h)
theorem Tds.one {H : Hp} {v : V} {d : PyData} (h : Td H v d) : Tds H [v] [d] := .cons h .nil
theorem Tds.get {H : Hp} : ∀ {vs : List V} {ds : List PyData} {i : Nat} {v : V}, Tds H vs ds → vs[i]? = some v → ∃ d, ds[i]? = some d ∧ Td H v d
  | _, _, 0, _, .cons h _, e => by cases e; exact ⟨_, rfl, h⟩
  | _, _, i + 1, _, .cons _ r, e => r.get (i := i) e
theorem Td.tinv {H : Hp} {v : V} {ds : List PyData} (h : Td H v (.tuple ds)) : ∃ a vs, v = .ref a ∧ H a = some (.tup vs) ∧ Tds H vs ds := by
  cases h with
  | tup h r => exact ⟨_, _, rfl, h, r⟩
theorem Td.sinv {H : Hp} {v : V} {x : Str} (h : Td H v (.str x)) : v = .str x := by cases h; rfl
theorem Td.iinv {H : Hp} {v : V} {x : Int} (h : Td H v (.int x)) : v = .int x := by cases h; rfl
open IT
/-- the items' kinds -/
def kd : IT.It → Str
  | .clip _ _ _ => "clip"
  | .times _ _ => "times"
  | .back _ => "back"
  | .part _ _ => "part"
  | .fade _ => "fade"
theorem td_clip {H : Hp} {v : V} {r : Str} {f l : Int} (h : Td H v (dI (.clip r f l))) : ∃ a, v = .ref a ∧ H a = some (.tup [.str "clip", .str r, .int f, .int l]) := by
  rw [dI] at h
  obtain ⟨a, vs, rfl, h1, h2⟩ := h.tinv
  cases h2 with | cons a1 h2 => cases h2 with | cons a2 h2 => cases h2 with | cons a3 h2 => cases h2 with | cons a4 h2 => cases h2; rw [a1.sinv, a2.sinv, a3.iinv, a4.iinv] at h1; exact ⟨_, rfl, h1⟩
theorem td_times {H : Hp} {v : V} {m : Int} {xs : List IT.It} (h : Td H v (dI (.times m xs))) : ∃ a b, v = .ref a ∧ H a = some (.tup [.str "times", .int m, .ref b]) ∧ Td H (.ref b) (.tuple (dL xs)) := by
  rw [dI] at h
  obtain ⟨a, vs, rfl, h1, h2⟩ := h.tinv
  cases h2 with | cons a1 h2 => cases h2 with | cons a2 h2 => cases h2 with | cons a3 h2 => cases h2; rw [a1.sinv, a2.iinv] at h1; obtain ⟨b, us, rfl, h3, h4⟩ := a3.tinv; exact ⟨_, b, rfl, h1, .tup h3 h4⟩
theorem td_back {H : Hp} {v : V} {xs : List IT.It} (h : Td H v (dI (.back xs))) : ∃ a b, v = .ref a ∧ H a = some (.tup [.str "back", .ref b]) ∧ Td H (.ref b) (.tuple (dL xs)) := by
  rw [dI] at h
  obtain ⟨a, vs, rfl, h1, h2⟩ := h.tinv
  cases h2 with | cons a1 h2 => cases h2 with | cons a3 h2 => cases h2; rw [a1.sinv] at h1; obtain ⟨b, us, rfl, h3, h4⟩ := a3.tinv; exact ⟨_, b, rfl, h1, .tup h3 h4⟩
theorem td_part {H : Hp} {v : V} {n : Str} {xs : List IT.It} (h : Td H v (dI (.part n xs))) : ∃ a, v = .ref a ∧ H a = some (.tup [.str "part", .str n]) := by
  rw [dI] at h
  obtain ⟨a, vs, rfl, h1, h2⟩ := h.tinv
  cases h2 with | cons a1 h2 => cases h2 with | cons a2 h2 => cases h2; rw [a1.sinv, a2.sinv] at h1; exact ⟨_, rfl, h1⟩
theorem td_fade {H : Hp} {v : V} {m : Int} (h : Td H v (dI (.fade m))) : ∃ a, v = .ref a ∧ H a = some (.tup [.str "fade", .int m]) := by
  rw [dI] at h
  obtain ⟨a, vs, rfl, h1, h2⟩ := h.tinv
  cases h2 with | cons a1 h2 => cases h2 with | cons a2 h2 => cases h2; rw [a1.sinv, a2.iinv] at h1; exact ⟨_, rfl, h1⟩
theorem mk_clip {H : Hp} {a : Addr} {r : Str} {f l : Int} (h : H a = some (.tup [.str "clip", .str r, .int f, .int l])) : Td H (.ref a) (dI (.clip r f l)) := by
  rw [dI]; exact .tup h (.cons (.str _) (.cons (.str _) (.cons (.int _) (.cons (.int _) .nil))))
theorem mk_times {H : Hp} {a b : Addr} {m : Int} {xs : List IT.It} (h : H a = some (.tup [.str "times", .int m, .ref b])) (hb : Td H (.ref b) (.tuple (dL xs))) : Td H (.ref a) (dI (.times m xs)) := by
  rw [dI]; exact .tup h (.cons (.str _) (.cons (.int _) (.cons hb .nil)))
theorem mk_back {H : Hp} {a b : Addr} {xs : List IT.It} (h : H a = some (.tup [.str "back", .ref b])) (hb : Td H (.ref b) (.tuple (dL xs))) : Td H (.ref a) (dI (.back xs)) := by
  rw [dI]; exact .tup h (.cons (.str _) (.cons hb .nil))
theorem mk_part {H : Hp} {a : Addr} {n : Str} {xs : List IT.It} (h : H a = some (.tup [.str "part", .str n])) : Td H (.ref a) (dI (.part n xs)) := by
  rw [dI]; exact .tup h (.cons (.str _) (.cons (.str _) .nil))
theorem mk_fade {H : Hp} {a : Addr} {m : Int} (h : H a = some (.tup [.str "fade", .int m])) : Td H (.ref a) (dI (.fade m)) := by
  rw [dI]; exact .tup h (.cons (.str _) (.cons (.int _) .nil))
/-- two written texts -/
theorem sne {x y : Str} (h : (x == y) = false := by decide +kernel) : decide (V.str x = V.str y) = false := decide_eq_false fun e => by
  cases e
  rw [beq_self_eq_true] at h
  cases h
theorem seq (x : Str) : decide (V.str x = V.str x) = true := decide_eq_true rfl
theorem iteN {c : Bool} {A B : Prop} (h : c = false) (b : B) : if c = true then A else B := by rw [h]; exact iteF b
theorem iteY {c : Bool} {A B : Prop} (h : c = true) (a : A) : if c = true then A else B := by rw [h]; exact iteT a
theorem dL_get {xs : List IT.It} {i : Nat} {d : PyData} (h : (dL xs)[i]? = some d) : ∃ x, xs[i]? = some x ∧ d = dI x := by
  rw [dL_map, List.getElem?_map] at h
  cases e : xs[i]? with
  | none => rw [e] at h; cases h
  | some x => rw [e] at h; exact ⟨x, rfl, (Option.some.inj h).symm⟩
/-- a list of items -/
def IL (H : Hp) (l : Addr) (xs : List IT.It) : Prop := ∃ vs, H l = some (.lst vs) ∧ Tds H vs (dL xs)
theorem IL.same {H H' : Hp} {l : Addr} {xs : List IT.It} (h : IL H l xs) (s : Same H H') : IL H' l xs := by
  obtain ⟨vs, h1, h2⟩ := h
  exact ⟨vs, s _ _ h1, h2.tk (TK.of s)⟩
/-! clips -/
def dC (c : Cl) : PyData := .tuple [.str c.r, .int c.f, .int c.l, .int c.d]
/-- a list of clips -/
def CL (H : Hp) (l : Addr) (cs : List Cl) : Prop := ∃ vs, H l = some (.lst vs) ∧ Tds H vs (cs.map dC)
/-- the clips' names are good texts -/
def CF (cs : List Cl) : Prop := ∀ c ∈ cs, Fine c.r
end DT

set_option linter.all false
set_option maxRecDepth 100000
set_option maxHeartbeats 4000000
/-! Texts: split, partition, startswith, endswith, f-strings; pop; the truth of a list. -/
namespace L2
open PySem PySem.Spec PyProof.Rows PySem.Builtin PySem.Builtin.Str
theorem call_split_push {prog : Program} {w : World} {A : Around} {E : Value → Shared → Prop} {s : Shared} {x y : Str} {t u : Tok} {Q : Value → Shared → Prop} (hy : (y.length == 0) = false)
    (hq : ∀ l k, l.map (·.1) = Txt.split x y → Q (.ref s.heap.objs.size) { s with heap := s.heap.push { cls := .type "list", data := .seq (strValues l).toArray }, toks := k })
    (hsz : x.length ≤ sizeLine) (hsz2 : (partsBetween x (occurrences x y 0 x.length (x.length + 1)) y.length).length ≤ sizeLine) :
    wpAny (model prog w) A (call (.builtin "str.split") [.str x t, .str y u]) Q E s := by
  cases h1 : (decide (x.length < y.length) || decide (strKind x < strKind y))
  · cases hf : (occurrences x y 0 x.length (x.length + 1)).isEmpty
    · refine call_meets F.slot_str_split (typeIs_str _ _ _) F.entry_str_split (F.args_str_split_2 _ _) (meets_str_split_sep x y t u h1 hy hf hsz hsz2) ?_
      show wants Q E _ { s with toks := _, heap := s.heap.push { cls := .type "list", data := .seq (strsFrom s.toks (partsBetween x (occurrences x y 0 x.length (x.length + 1)) y.length)).toArray } }
      rw [strsFrom_eq]
      exact hq (numbered s.toks _) _ ((numbered_texts _ _).trans ((if_neg (ne_true_of_eq_false h1)).trans (if_neg (ne_true_of_eq_false hf))).symm)
    · exact call_meets F.slot_str_split (typeIs_str _ _ _) F.entry_str_split (F.args_str_split_2 _ _) (meets_str_split_not_found x y t u h1 hy hf)
        (hq [(x, t)] _ ((if_neg (ne_true_of_eq_false h1)).trans (if_pos hf)).symm)
  · exact call_meets F.slot_str_split (typeIs_str _ _ _) F.entry_str_split (F.args_str_split_2 _ _) (meets_str_split_cannot_occur x y t u h1)
      (hq [(x, t)] _ (if_pos h1).symm)
theorem vals_strs : ∀ l : List (Str × Tok), Vals ((l.map (·.1)).map V.str) (strValues l)
  | [] => .nil
  | (x, t) :: r => .cons ⟨t, rfl⟩ (vals_strs r)
section
variable {X : Cx}
def rSplit : V → List V → Hp → VK → Prop := fun x vs H Q => ∃ z y, x = .str z ∧ vs = [.str y] ∧ (y.length == 0) = false ∧ z.length + 2 ≤ sizeLine ∧ ∀ p, H p = none → Q (.ref p) (upd H p (.lst ((Txt.split z y).map V.str)))
theorem mt_split : MtR X "str.split" rSplit := by
  intro pins s σ H x vs v us Q I rx rv h
  obtain ⟨z, y, rfl, rfl, hy, hz, q⟩ := h
  obtain ⟨t, rfl⟩ := rx
  obtain ⟨u, rfl, t', rfl⟩ := vals1 rv
  have hl := PyProof.Rows.split_le z y
  have hn : (partsBetween z (occurrences z y 0 z.length (z.length + 1)) y.length).length ≤ sizeLine := by
    have e1 := StrLaws.occ_length_le z y 0 z.length (z.length + 1)
    rw [len_partsBetween]
    omega
  refine call_split_push hy (fun l k e => ?_) (by omega) hn
  have fr : H s.heap.objs.size = none := I.hok.fresh (Nat.le_refl _)
  refine ⟨.ref s.heap.objs.size, _, I.laid (t' := k) (o := .lst ((Txt.split z y).map V.str)) (fun b ob q => Heap.get?_push_of_some _ q) (Nat.le_refl _) ?_, rfl, q _ fr⟩
  rw [← e]
  refine ⟨?_, strValues l, 0, vals_strs l, Heap.get?_push_size _ rfl⟩
  rw [List.length_map, e]
  omega
def rPart : V → List V → Hp → VK → Prop := fun x vs H Q => ∃ z y, x = .str z ∧ vs = [.str y] ∧ (y.length == 0) = false ∧ z.length ≤ sizeLine ∧ ∀ p, H p = none → Q (.ref p) (upd H p (.tup [.str (Txt.partition z y).1, .str (Txt.partition z y).2.1, .str (Txt.partition z y).2.2]))
theorem call_part_push {prog : Program} {w : World} {A : Around} {E : Value → Shared → Prop} {s : Shared} {x y : Str} {t u : Tok} {Q : Value → Shared → Prop} (hy : (y.length == 0) = false)
    (h : ∀ ta tb tc k, Q (.ref s.heap.objs.size) { s with heap := s.heap.push { cls := .type "tuple", data := .seq [.str (Txt.partition x y).1 ta, .str (Txt.partition x y).2.1 tb, .str (Txt.partition x y).2.2 tc].toArray }, toks := k }) (hsz : x.length ≤ sizeLine) :
    wpAny (model prog w) A (call (.builtin "str.partition") [.str x t, .str y u]) Q E s := by
  refine call_meets F.slot_str_partition (typeIs_str _ _ _) F.entry_str_partition (F.args_str_partition_2 _ _) (meets_str_partition x y t u hy hsz) ?_
  have h' := h
  unfold Txt.partition at h'
  revert h'
  cases occurrences x y 0 x.length 1 with
  | nil => intro h'; exact h' _ _ _ _
  | cons i r => intro h'; exact h' _ _ _ _
theorem mt_partition : MtR X "str.partition" rPart := by
  intro pins s σ H x vs v us Q I rx rv h
  obtain ⟨z, y, rfl, rfl, hy, hz, q⟩ := h
  obtain ⟨t, rfl⟩ := rx
  obtain ⟨u, rfl, t', rfl⟩ := vals1 rv
  refine call_part_push hy (fun ta tb tc k => ?_) hz
  have fr : H s.heap.objs.size = none := I.hok.fresh (Nat.le_refl _)
  refine ⟨.ref s.heap.objs.size, _, I.laid (t' := k) (o := .tup [.str (Txt.partition z y).1, .str (Txt.partition z y).2.1, .str (Txt.partition z y).2.2]) (fun b ob q => Heap.get?_push_of_some _ q) (Nat.le_refl _) ?_, rfl, q _ fr⟩
  exact ⟨(by show 3 ≤ sizeLine; decide), _, .cons ⟨ta, rfl⟩ (.cons ⟨tb, rfl⟩ (.cons ⟨tc, rfl⟩ .nil)), IsTup.new _ _⟩
def rStarts : V → List V → Hp → VK → Prop := fun x vs H Q => ∃ z y, x = .str z ∧ vs = [.str y] ∧ Q (.bl (Txt.startswith z y)) H
theorem mt_startswith : MtR X "str.startswith" rStarts := by
  intro pins s σ H x vs v us Q I rx rv h
  obtain ⟨z, y, rfl, rfl, q⟩ := h
  obtain ⟨t, rfl⟩ := rx
  obtain ⟨u, rfl, t', rfl⟩ := vals1 rv
  exact SC.startswith ⟨.bl _, H, I, rfl, q⟩
def rEnds : V → List V → Hp → VK → Prop := fun x vs H Q => ∃ z y, x = .str z ∧ vs = [.str y] ∧ Q (.bl (Txt.endswith z y)) H
theorem mt_endswith : MtR X "str.endswith" rEnds := by
  intro pins s σ H x vs v us Q I rx rv h
  obtain ⟨z, y, rfl, rfl, q⟩ := h
  obtain ⟨t, rfl⟩ := rx
  obtain ⟨u, rfl, t', rfl⟩ := vals1 rv
  exact SC.endswith ⟨.bl _, H, I, rfl, q⟩
def rCount : V → List V → Hp → VK → Prop := fun x vs H Q => ∃ z y, x = .str z ∧ vs = [.str y] ∧ Q (.int (Txt.count z y)) H
theorem mt_count : MtR X "str.count" rCount := by
  intro pins s σ H x vs v us Q I rx rv h
  obtain ⟨z, y, rfl, rfl, q⟩ := h
  obtain ⟨t, rfl⟩ := rx
  obtain ⟨u, rfl, t', rfl⟩ := vals1 rv
  exact SC.count ⟨.int _, H, I.tok _, ⟨_, rfl⟩, q⟩
theorem e_split {o e : Expr} {to te : TE} {apos cpos : Pos} (ho : QE X o to) (ha : QE X e te) (hs : nostar e = true := by rfl) (hbase : attributeBase o "split" X.env (eval o X.env) = eval o X.env := by rfl) (hline : (apos.endLine == cpos.line) = true := by rfl) :
    QE X (.Call (.Attribute o "split" apos) [e] [] cpos) (tBM X.K "str" rSplit to (tCons te tNil)) := ⟨pe_bm PySem.F.plainAttrs_str PySem.F.slot_str_split PySem.F.type_str_split mt_split ho.h (pa' ha.h pa_nil hs) hbase (by rw [star_plain hs]; rfl) hline (star_plain hs)⟩
theorem e_partition {o e : Expr} {to te : TE} {apos cpos : Pos} (ho : QE X o to) (ha : QE X e te) (hs : nostar e = true := by rfl) (hbase : attributeBase o "partition" X.env (eval o X.env) = eval o X.env := by rfl) (hline : (apos.endLine == cpos.line) = true := by rfl) :
    QE X (.Call (.Attribute o "partition" apos) [e] [] cpos) (tBM X.K "str" rPart to (tCons te tNil)) := ⟨pe_bm PySem.F.plainAttrs_str PySem.F.slot_str_partition PySem.F.type_str_partition mt_partition ho.h (pa' ha.h pa_nil hs) hbase (by rw [star_plain hs]; rfl) hline (star_plain hs)⟩
theorem e_startswith {o e : Expr} {to te : TE} {apos cpos : Pos} (ho : QE X o to) (ha : QE X e te) (hs : nostar e = true := by rfl) (hbase : attributeBase o "startswith" X.env (eval o X.env) = eval o X.env := by rfl) (hline : (apos.endLine == cpos.line) = true := by rfl) :
    QE X (.Call (.Attribute o "startswith" apos) [e] [] cpos) (tBM X.K "str" rStarts to (tCons te tNil)) := ⟨pe_bm PySem.F.plainAttrs_str PySem.F.slot_str_startswith PySem.F.type_str_startswith mt_startswith ho.h (pa' ha.h pa_nil hs) hbase (by rw [star_plain hs]; rfl) hline (star_plain hs)⟩
theorem e_endswith {o e : Expr} {to te : TE} {apos cpos : Pos} (ho : QE X o to) (ha : QE X e te) (hs : nostar e = true := by rfl) (hbase : attributeBase o "endswith" X.env (eval o X.env) = eval o X.env := by rfl) (hline : (apos.endLine == cpos.line) = true := by rfl) :
    QE X (.Call (.Attribute o "endswith" apos) [e] [] cpos) (tBM X.K "str" rEnds to (tCons te tNil)) := ⟨pe_bm PySem.F.plainAttrs_str PySem.F.slot_str_endswith PySem.F.type_str_endswith mt_endswith ho.h (pa' ha.h pa_nil hs) hbase (by rw [star_plain hs]; rfl) hline (star_plain hs)⟩
theorem e_count {o e : Expr} {to te : TE} {apos cpos : Pos} (ho : QE X o to) (ha : QE X e te) (hs : nostar e = true := by rfl) (hbase : attributeBase o "count" X.env (eval o X.env) = eval o X.env := by rfl) (hline : (apos.endLine == cpos.line) = true := by rfl) :
    QE X (.Call (.Attribute o "count" apos) [e] [] cpos) (tBM X.K "str" rCount to (tCons te tNil)) := ⟨pe_bm PySem.F.plainAttrs_str PySem.F.slot_str_count PySem.F.type_str_count mt_count ho.h (pa' ha.h pa_nil hs) hbase (by rw [star_plain hs]; rfl) hline (star_plain hs)⟩
theorem e_pop {o : Expr} {to : TE} {apos cpos : Pos} (ho : QE X o to) (hbase : attributeBase o "pop" X.env (eval o X.env) = eval o X.env := by rfl) (hline : (apos.endLine == cpos.line) = true := by rfl) :
    QE X (.Call (.Attribute o "pop" apos) [] [] cpos) (tBM0 X.K "list" rPop to) := ⟨pe_bm0 PySem.F.plainAttrs_list PySem.F.slot_list_pop PySem.F.type_list_pop mt_pop ho.h hbase hline⟩
/-- a list's truth (a name's, a call's) -/
theorem t_tru {a : Expr} {ta : TE} (ha : QE X a ta) (he : ∀ whole, isTrue a X.env whole = (do let v ← whole; standAt a.pos; holding [v] (truthy v)) := by intro _; rfl) : QT X a (fun σ H Q => ta σ H fun x H' => ∃ k, TruV X.K x H' k ∧ Q k H') := ⟨pt_truth ha.h he⟩
/-! f-strings -/
def tF (te : TE) : TE := fun σ H Q => te σ H fun v H1 => (∃ x, v = .str x ∧ x.length ≤ sizeLine ∧ Q (.str x) H1) ∨ ∃ i, v = .int i ∧ i.natAbs.log2 < 1920 ∧ Q (.str (toString i)) H1
abbrev TJ := Str → St → Hp → VK → Prop
structure QJ (X : Cx) (es : List Expr) (t : TJ) : Prop where
  h : ∀ (out : Str) (pins : List (Addr × Obj)) (s : Shared) (σ : St) (H : Hp) (Q : VK), Inv X pins σ H s → t out σ H Q → wpAny (model X.prog X.w) X.A (joinParts out (evalEach es X.env)) (EP X pins σ Q) X.xe s
end
end L2

set_option linter.all false
set_option maxRecDepth 100000
set_option maxHeartbeats 4000000
/-! A list comprehension whose target is a tuple of names. -/
namespace L2
open PySem PySem.Spec PyProof.Rows
def CompedT (J : It) (n : Nat) (cap : St) (g : TG) (te : TE) (Q : VK) (H1 : Hp) : Prop := ∀ D, H1 D = none → ∃ W : Nat → Nat → List V → Hp → Prop, (∃ m, W 0 m [] (upd H1 D (.lst []))) ∧ ∀ i m ys H2, W i m ys H2 → H2 D = some (.lst ys) ∧
  ((J.stop i H2 ∧ Q (.ref D) H2) ∨ (J.go i H2 ∧ ∀ x H3 (xo : St), xo.length = n → J.yld i H2 x H3 → g x (xo ++ cap) H3 fun σ6 H6 => (∃ xo' : St, xo'.length = n ∧ σ6 = xo' ++ cap) ∧ te σ6 H6 fun y H4 => H4 D = some (.lst ys) ∧ ys.length < sizeLine ∧ ∃ m', m' < m ∧ W (i + 1) m' (ys ++ [y]) (upd H4 D (.lst (ys ++ [y])))))
def tCompT (wi : TI) (n : Nat) (js : List Nat) (g : TG) (te : TE) : TE := fun σ H Q => wi σ H fun J H1 => CompedT J n (capt σ js) g te Q H1
section
variable {X : Cx} {pos : Pos} {elt iter : Expr} {sc : Scope} {xs ys : List Str} {js : List Nat} {cl : List (Str × Addr)}

end
end L2

set_option linter.all false
set_option maxRecDepth 100000
set_option maxHeartbeats 4000000
/-! sum of a list of whole numbers. -/
namespace L2
open PySem PySem.Spec PyProof.Rows
section
variable {X : Cx}
end
end L2

set_option linter.all false
set_option maxRecDepth 100000
set_option maxHeartbeats 1000000
/-! Texts as lists of signs: joined, split, partitioned; numbers written. -/
namespace TX
open PySem PySem.Builtin PySem.Builtin.Str PyProof.Rows
abbrev L (x : Str) : List Nat := x.cps.toList
theorem ext {x y : Str} (h : L x = L y) : x = y := by
  cases x
  cases y
  congr 1
  exact Array.toList_inj.mp h
theorem L_len (x : Str) : (L x).length = x.length := rfl
theorem L_app (a b : Str) : L (a ++ b) = L a ++ L b := by
  show (a.cps ++ b.cps).toList = _
  simp
def jn (g : List Nat) : List (List Nat) → List Nat
  | [] => []
  | x :: r => x ++ (r.map (g ++ ·)).flatten
theorem fold_L (g : Array Nat) : ∀ (r : List Str) (a : Array Nat), (r.foldl (fun acc p => acc ++ g ++ p.cps) a).toList = a.toList ++ (r.map fun p => g.toList ++ L p).flatten
  | [], a => by simp
  | p :: r, a => by
    rw [List.foldl_cons, fold_L g r]
    simp [List.append_assoc]
theorem join_L (g : Str) (l : List Str) : L (Txt.join g l) = jn (L g) (l.map L) := by
  unfold Txt.join glued
  cases l with
  | nil => rfl
  | cons x r =>
    show (r.foldl (fun acc p => acc ++ g.cps ++ p.cps) x.cps).toList = _
    rw [fold_L, List.map_cons, jn, List.map_map]
    rfl
theorem sjoin_L (g : Str) : ∀ l : List Str, L (Str.join g l) = jn (L g) (l.map L)
  | [] => rfl
  | [x] => by simp [Str.join, jn]
  | x :: y :: r => by
    rw [Str.join, L_app, L_app, sjoin_L g (y :: r)]
    simp [jn, List.append_assoc]
    intro h
    cases h
theorem append_cons_inj {c : Nat} : ∀ {x y A B : List Nat}, c ∉ x → c ∉ y → x ++ c :: A = y ++ c :: B → x = y ∧ A = B
  | [], [], A, B, _, _, h => ⟨rfl, (List.cons.inj h).2⟩
  | [], b :: y, A, B, _, hy, h => absurd (List.mem_cons.mpr (.inl (List.cons.inj h).1)) hy
  | a :: x, [], A, B, hx, _, h => absurd (List.mem_cons.mpr (.inl (List.cons.inj h).1.symm)) hx
  | a :: x, b :: y, A, B, hx, hy, h => by
    obtain ⟨h1, h2⟩ := List.cons.inj h
    obtain ⟨h3, h4⟩ := append_cons_inj (fun z => hx (List.mem_cons_of_mem _ z)) (fun z => hy (List.mem_cons_of_mem _ z)) h2
    exact ⟨by rw [h1, h3], h4⟩
theorem jn_two (c : Nat) (x y : List Nat) (r : List (List Nat)) : jn [c] (x :: y :: r) = x ++ c :: jn [c] (y :: r) := by simp [jn]
theorem jn_inj (c : Nat) : ∀ {l l' : List (List Nat)}, l ≠ [] → l' ≠ [] → (∀ p ∈ l, c ∉ p) → (∀ p ∈ l', c ∉ p) → jn [c] l = jn [c] l' → l = l'
  | [], _, h, _, _, _, _ => absurd rfl h
  | _, [], _, h, _, _, _ => absurd rfl h
  | [x], [y], _, _, _, _, e => by simpa [jn] using e
  | [x], y :: z :: r, _, _, hx, _, e => by
    rw [jn_two] at e
    have e1 : x = y ++ c :: jn [c] (z :: r) := by simpa [jn] using e
    exact absurd (by rw [e1]; simp) (hx x (List.mem_singleton.mpr rfl))
  | x :: z :: r, [y], _, _, _, hy, e => by
    rw [jn_two] at e
    have e1 : y = x ++ c :: jn [c] (z :: r) := by simpa [jn] using e.symm
    exact absurd (by rw [e1]; simp) (hy y (List.mem_singleton.mpr rfl))
  | x :: z :: r, y :: z' :: r', _, _, hx, hy, e => by
    rw [jn_two, jn_two] at e
    obtain ⟨h1, h2⟩ := append_cons_inj (hx x (List.mem_cons_self ..)) (hy y (List.mem_cons_self ..)) e
    have := jn_inj c (List.cons_ne_nil z r) (List.cons_ne_nil z' r') (fun p hp => hx p (List.mem_cons_of_mem _ hp)) (fun p hp => hy p (List.mem_cons_of_mem _ hp)) h2
    rw [h1, this]
theorem map_L_inj : ∀ {l l' : List Str}, l.map L = l'.map L → l = l'
  | [], [], _ => rfl
  | [], _ :: _, h => by cases h
  | _ :: _, [], h => by cases h
  | x :: r, y :: r', h => by
    obtain ⟨h1, h2⟩ := List.cons.inj h
    rw [ext h1, map_L_inj h2]
/-- the parts between a sign -/
theorem split_is {x : Str} {c : Nat} {l : List Str} (hne : l ≠ []) (free : ∀ p ∈ l, c ∉ L p) (h : L x = jn [c] (l.map L)) : Txt.split x ⟨#[c]⟩ = l := by
  have h1 := StrLaws.split_free x c
  have h2 := StrLaws.join_split x ⟨#[c]⟩
  have h3 : L x = jn [c] ((Txt.split x ⟨#[c]⟩).map L) := by
    rw [← sjoin_L ⟨#[c]⟩, h2]
  have h4 := PyProof.Rows.split_pos x ⟨#[c]⟩
  refine map_L_inj (jn_inj c ?_ ?_ ?_ ?_ (h3.symm.trans h))
  · intro z
    rw [List.map_eq_nil_iff.mp z] at h4
    exact absurd h4 (by decide)
  · intro z
    exact hne (List.map_eq_nil_iff.mp z)
  · intro p hp
    obtain ⟨q, hq, rfl⟩ := List.mem_map.mp hp
    exact h1 q hq
  · intro p hp
    obtain ⟨q, hq, rfl⟩ := List.mem_map.mp hp
    exact free q hq
theorem subAt_iff {x y : Str} {i : Nat} : subAt x y i = true ↔ ((L x).drop i).take y.length = L y := by
  unfold subAt
  rw [beq_iff_eq, ← Array.toList_inj, Array.toList_extract, List.extract_eq_drop_take, Nat.add_sub_cancel_left]
theorem starts_iff {x y : Str} : Txt.startswith x y = true ↔ ∃ p, L x = L y ++ p := by
  unfold Txt.startswith
  rw [Bool.and_eq_true, subAt_iff, List.drop_zero]
  constructor
  · rintro ⟨h1, h2⟩
    exact ⟨(L x).drop y.length, by rw [← h2, List.take_append_drop]⟩
  · rintro ⟨p, h⟩
    have := congrArg List.length h
    rw [List.length_append, L_len, L_len] at this
    refine ⟨decide_eq_true (by omega), ?_⟩
    rw [h, ← L_len y, List.take_left']
    rfl
theorem ends_iff {x y : Str} : Txt.endswith x y = true ↔ ∃ p, L x = p ++ L y := by
  unfold Txt.endswith
  rw [Bool.and_eq_true, subAt_iff]
  constructor
  · rintro ⟨h1, h2⟩
    have h1 := of_decide_eq_true h1
    refine ⟨(L x).take (x.length - y.length), ?_⟩
    have e : ((L x).drop (x.length - y.length)).take y.length = (L x).drop (x.length - y.length) := List.take_of_length_le (by rw [List.length_drop, L_len]; omega)
    rw [← h2, e, List.take_append_drop]
  · rintro ⟨p, h⟩
    have hl := congrArg List.length h
    rw [List.length_append, L_len, L_len] at hl
    refine ⟨decide_eq_true (by omega), ?_⟩
    rw [h, show x.length - y.length = p.length by omega, List.drop_left, ← L_len y, List.take_length]
theorem ends_last {x y : Str} {c d : Nat} {p q : List Nat} (hx : L x = p ++ [c]) (hy : L y = q ++ [d]) (h : c ≠ d) : Txt.endswith x y = false := by
  cases e : Txt.endswith x y with
  | false => rfl
  | true =>
    obtain ⟨z, hz⟩ := ends_iff.mp e
    rw [hx, hy, ← List.append_assoc] at hz
    have := List.append_inj' hz rfl
    exact absurd (List.cons.inj this.2).1 h
theorem starts_one {x : Str} {c d : Nat} {r : List Nat} (hx : L x = c :: r) : Txt.startswith x ⟨#[d]⟩ = decide (c = d) := by
  by_cases h : c = d
  · rw [decide_eq_true h]
    exact starts_iff.mpr ⟨r, by rw [hx, h]; rfl⟩
  · rw [decide_eq_false h]
    cases e : Txt.startswith x ⟨#[d]⟩ with
    | false => rfl
    | true =>
      obtain ⟨z, hz⟩ := starts_iff.mp e
      rw [hx] at hz
      exact absurd (List.cons.inj hz).1 h
theorem part_head {x : Str} {c : Nat} {a b : List Nat} (h : L x = a ++ c :: b) (hc : c ∉ a) : L (Txt.partition x ⟨#[c]⟩).1 = a := by
  have at_iff : ∀ i, StrLaws.At x ⟨#[c]⟩ x.length i ↔ (L x)[i]? = some c := by
    intro i
    unfold StrLaws.At
    rw [subAt_iff]
    constructor
    · rintro ⟨_, h2⟩
      have h3 : ((L x).drop i).take 1 = [c] := h2
      rw [← List.head?_drop]
      cases e : (L x).drop i with
      | nil => rw [e] at h3; cases h3
      | cons y r => rw [e] at h3; exact congrArg some (List.cons.inj h3).1
    · intro h2
      obtain ⟨l1, e1⟩ := List.getElem?_eq_some_iff.mp h2
      refine ⟨by rw [← L_len x]; exact l1, ?_⟩
      show ((L x).drop i).take 1 = [c]
      rw [List.drop_eq_getElem_cons l1, e1]
      rfl
  have hat : (L x)[a.length]? = some c := by rw [h]; simp
  rcases partition_head x ⟨#[c]⟩ with ⟨_, hn⟩ | ⟨i, e, hi, hmin⟩
  · exact absurd ((at_iff _).mpr hat) (hn a.length)
  · have hi' := (at_iff i).mp hi
    have e1 : i = a.length := by
      rcases Nat.lt_trichotomy i a.length with z | z | z
      · rw [h, List.getElem?_append_left z] at hi'
        exact absurd (List.mem_of_getElem? hi') hc
      · exact z
      · exact absurd ((at_iff _).mpr hat) (hmin _ z)
    rw [e]
    show (x.cps.extract 0 i).toList = a
    rw [Array.toList_extract]
    show List.extract (L x) 0 i = a
    rw [h, List.extract_eq_drop_take, e1]
    simp
theorem part_none {x : Str} {c : Nat} (h : c ∉ L x) : (Txt.partition x ⟨#[c]⟩).1 = x := by
  rcases partition_head x ⟨#[c]⟩ with ⟨e, _⟩ | ⟨i, _, hi, _⟩
  · exact e
  · have h2 := subAt_iff.mp hi.2
    have h3 : ((L x).drop i).take 1 = [c] := h2
    have : c ∈ ((L x).drop i).take 1 := by rw [h3]; exact List.mem_singleton.mpr rfl
    exact absurd (List.mem_of_mem_drop (List.mem_of_mem_take this)) h
/-! slices -/
theorem sl_to {x : Str} {j : Int} (h0 : 0 ≤ j) (h : j ≤ x.length) : L (Txt.slice x none (some j)) = (L x).take j.toNat := by
  have e := eq_of_beq (PyProof.Rows.slice_closes_toL h0 h)
  rw [e]
  simp
theorem sl_from {x : Str} {i : Int} (h0 : 0 ≤ i) (h : i ≤ x.length) : L (Txt.slice x (some i) none) = (L x).drop i.toNat := by
  have e := PyProof.Rows.slice_from_eq h0 h rfl
  rw [e]
  have l : x.cps.toList.length = x.length := rfl
  show (List.toArray _).toList = _
  rw [List.toList_toArray, List.take_of_length_le]
  rw [List.length_drop, l]
  omega
theorem sl_neg {x : Str} {k : Nat} (h0 : 1 ≤ k) (h : k ≤ x.length) : L (Txt.slice x none (some (-(k : Int)))) = (L x).take (x.length - k) := by
  have e := eq_of_beq (PyProof.Rows.slice_closes_to_neg (x := x) (j := -(k : Int)) (by omega) (by omega) rfl)
  rw [e]
  show (List.toArray _).toList = _
  rw [List.toList_toArray]
  show (List.drop 0 (L x)).take _ = _
  rw [List.drop_zero]
  congr 1
  omega
/-! numbers written -/
def st (i : Int) : Str := Str.ofString (toString i)
theorem st_L (n : Nat) : L (st (n : Int)) = (Nat.toDigits 10 n).map Char.toNat := PySem.W.KIN.signs_num n
theorem st_dig (n : Nat) : ∀ c ∈ L (st (n : Int)), 48 ≤ c ∧ c ≤ 57 := by
  induction n using Nat.strongRecOn with
  | _ n ih =>
    intro c hc
    rw [st_L] at hc
    by_cases h : n < 10
    · rw [K01.td1 h] at hc
      rw [List.mem_singleton.mp hc]
      omega
    · rw [K01.tdS (by omega)] at hc
      rcases List.mem_append.mp hc with z | z
      · exact ih (n / 10) (by omega) c (by rw [st_L]; exact z)
      · rw [List.mem_singleton.mp z]
        omega
theorem st_len (k : Nat) : ∀ n : Nat, n < 10 ^ (k + 1) → 1 ≤ (st (n : Int)).length ∧ (st (n : Int)).length ≤ k + 1 := by
  induction k with
  | zero =>
    intro n h
    rw [← L_len, st_L, K01.td1 (by omega)]
    exact ⟨Nat.le_refl _, Nat.le_refl _⟩
  | succ k ih =>
    intro n h
    by_cases h1 : n < 10
    · rw [← L_len, st_L, K01.td1 h1]
      exact ⟨Nat.le_refl _, by show 1 ≤ _; omega⟩
    · have := ih (n / 10) (by rw [Nat.pow_succ] at h; omega)
      rw [← L_len, st_L] at this
      rw [← L_len, st_L, K01.tdS (by omega), List.length_append]
      simp only [List.length_cons, List.length_nil]
      omega
theorem st_head (n : Nat) (h0 : 0 < n) : ∃ c r, L (st (n : Int)) = c :: r ∧ c ≠ 48 := by
  induction n using Nat.strongRecOn with
  | _ n ih =>
    rw [st_L]
    by_cases h : n < 10
    · rw [K01.td1 h]
      exact ⟨48 + n, [], rfl, by omega⟩
    · obtain ⟨c, r, e, hc⟩ := ih (n / 10) (by omega) (by omega)
      rw [st_L] at e
      rw [K01.tdS (by omega), e]
      exact ⟨c, r ++ [48 + n % 10], rfl, hc⟩
theorem st_ne (n : Nat) : ∃ c r, L (st (n : Int)) = c :: r := by
  rcases Nat.eq_zero_or_pos n with rfl | h
  · exact ⟨48, [], by decide⟩
  · obtain ⟨c, r, e, _⟩ := st_head n h
    exact ⟨c, r, e⟩
theorem st_inj {m n : Nat} (h : L (st (m : Int)) = L (st (n : Int))) : m = n := by
  rw [st_L, st_L] at h
  rw [← PySem.W.KIN.val_back m, ← PySem.W.KIN.val_back n, h]
theorem st_int {i : Int} (h0 : 0 ≤ i) (h1 : i < 10 ^ 10) : intText? (st i) = some i := PySem.W.KIN.num_reads h0 h1
theorem st_log {i : Int} (h0 : 0 ≤ i) (h1 : i < 10 ^ 10) : i.natAbs.log2 < 1920 := by
  have : i.natAbs < 2 ^ 40 := by omega
  have := Nat.log2_lt (n := i.natAbs) (k := 40)
  by_cases z : i.natAbs = 0
  · rw [z]; decide
  · have := (Nat.log2_lt z).mpr ‹i.natAbs < 2 ^ 40›
    omega
end TX

set_option linter.all false
set_option maxRecDepth 100000
set_option maxHeartbeats 1000000
/-! The words of a list's text. -/
namespace KW
open PySem TX IT
structure NameOk (x : Str) : Prop where
  l1 : 1 ≤ x.length
  l2 : x.length ≤ 8
  sm : ∀ c ∈ L x, 97 ≤ c ∧ c ≤ 122
def Num9 (i : Int) : Prop := 0 ≤ i ∧ i < 1000000000
theorem Num9.nat {i : Int} (h : Num9 i) : ∃ n : Nat, i = (n : Int) ∧ n < 1000000000 := ⟨i.toNat, by have := h.1; omega, by have := h.1; have := h.2; omega⟩
mutual
def vI : It → Prop
  | .clip r f l => NameOk r ∧ Num9 f ∧ Num9 l
  | .times m xs => (1 ≤ m ∧ m < 1000000000) ∧ xs ≠ [] ∧ vL xs
  | .back xs => xs ≠ [] ∧ vL xs
  | .part n _ => NameOk n
  | .fade m => 1 ≤ m ∧ m < 1000000000
def vL : List It → Prop
  | [] => True
  | x :: r => vI x ∧ vL r
end
theorem vL_iff : ∀ {xs : List It}, vL xs ↔ ∀ x ∈ xs, vI x
  | [] => by rw [vL]; exact ⟨fun _ x h => (nomatch h), fun _ => trivial⟩
  | y :: r => by
    rw [vL, vL_iff (xs := r)]
    constructor
    · intro h x hx
      rcases List.mem_cons.mp hx with rfl | z
      · exact h.1
      · exact h.2 x z
    · exact fun h => ⟨h y (List.mem_cons_self ..), fun x hx => h x (List.mem_cons_of_mem _ hx)⟩
theorem vL_app {p q : List It} (hp : vL p) (hq : vL q) : vL (p ++ q) := vL_iff.mpr fun x hx => by
  rcases List.mem_append.mp hx with z | z
  · exact vL_iff.mp hp x z
  · exact vL_iff.mp hq x z
theorem v1 {x : It} (h : vI x) : vL [x] := by rw [vL, vL]; exact ⟨h, trivial⟩
inductive Wd where
  | clip (r : Str) (f l : Int)
  | part (n : Str)
  | fade (m : Int)
  | opT (m : Int)
  | opB
  | sh
def clipS (r : Str) (f l : Int) : Str := if f = l then r ++ (":" : Str) ++ st f else r ++ (":" : Str) ++ st f ++ ("-" : Str) ++ st l
def Wd.s : Wd → Str
  | .clip r f l => clipS r f l
  | .part n => n
  | .fade m => ("~" : Str) ++ st m
  | .opT m => st m ++ ("*(" : Str)
  | .opB => ("-(" : Str)
  | .sh => (")" : Str)
def Wd.ok : Wd → Prop
  | .clip r f l => NameOk r ∧ Num9 f ∧ Num9 l
  | .part n => NameOk n
  | .fade m => 1 ≤ m ∧ m < 1000000000
  | .opT m => 1 ≤ m ∧ m < 1000000000
  | .opB => True
  | .sh => True
mutual
def wdI : It → List Wd
  | .clip r f l => [.clip r f l]
  | .times m xs => .opT m :: (wdL xs ++ [.sh])
  | .back xs => .opB :: (wdL xs ++ [.sh])
  | .part n _ => [.part n]
  | .fade m => [.fade m]
def wdL : List It → List Wd
  | [] => []
  | x :: r => wdI x ++ wdL r
end
theorem wdL_app : ∀ p q : List It, wdL (p ++ q) = wdL p ++ wdL q
  | [], q => by rw [wdL]; rfl
  | x :: r, q => by rw [List.cons_append, wdL, wdL, wdL_app r q, List.append_assoc]
theorem wdI_ne : ∀ x : It, wdI x ≠ []
  | .clip _ _ _ => by rw [wdI]; exact List.cons_ne_nil _ _
  | .times _ _ => by rw [wdI]; exact List.cons_ne_nil _ _
  | .back _ => by rw [wdI]; exact List.cons_ne_nil _ _
  | .part _ _ => by rw [wdI]; exact List.cons_ne_nil _ _
  | .fade _ => by rw [wdI]; exact List.cons_ne_nil _ _
mutual
theorem wd_okI : ∀ {x : It}, vI x → ∀ w ∈ wdI x, w.ok
  | .clip r f l, h => by rw [vI] at h; rw [wdI]; intro w hw; rw [List.mem_singleton.mp hw]; exact h
  | .times m xs, h => by
    rw [vI] at h
    rw [wdI]
    intro w hw
    rcases List.mem_cons.mp hw with rfl | hw
    · exact h.1
    · rcases List.mem_append.mp hw with hw | hw
      · exact wd_okL h.2.2 w hw
      · rw [List.mem_singleton.mp hw]; trivial
  | .back xs, h => by
    rw [vI] at h
    rw [wdI]
    intro w hw
    rcases List.mem_cons.mp hw with rfl | hw
    · trivial
    · rcases List.mem_append.mp hw with hw | hw
      · exact wd_okL h.2 w hw
      · rw [List.mem_singleton.mp hw]; trivial
  | .part n _, h => by rw [vI] at h; rw [wdI]; intro w hw; rw [List.mem_singleton.mp hw]; exact h
  | .fade m, h => by rw [vI] at h; rw [wdI]; intro w hw; rw [List.mem_singleton.mp hw]; exact h
theorem wd_okL : ∀ {xs : List It}, vL xs → ∀ w ∈ wdL xs, w.ok
  | [], _ => by rw [wdL]; exact fun w hw => (nomatch hw)
  | x :: r, h => by
    rw [vL] at h
    rw [wdL]
    intro w hw
    rcases List.mem_append.mp hw with z | z
    · exact wd_okI h.1 w z
    · exact wd_okL h.2 w z
end
mutual
theorem wd_lenI : ∀ x : It, (wdI x).length ≤ 2 * wI x
  | .clip _ _ _ => by rw [wdI, wI]; show 1 ≤ 2; omega
  | .times _ xs => by have := wd_lenL xs; rw [wdI, wI, List.length_cons, List.length_append]; show _ + 1 + 1 ≤ _; omega
  | .back xs => by have := wd_lenL xs; rw [wdI, wI, List.length_cons, List.length_append]; show _ + 1 + 1 ≤ _; omega
  | .part _ _ => by rw [wdI, wI]; show 1 ≤ 2; omega
  | .fade _ => by rw [wdI, wI]; show 1 ≤ 2; omega
theorem wd_lenL : ∀ xs : List It, (wdL xs).length ≤ 2 * wL xs
  | [] => by rw [wdL]; exact Nat.zero_le _
  | x :: r => by have := wd_lenI x; have := wd_lenL r; rw [wdL, wL, List.length_append]; omega
end
/-! the signs of a word -/
theorem colon : L (":" : Str) = [58] := by decide
theorem dash : L ("-" : Str) = [45] := by decide
theorem tilde : L ("~" : Str) = [126] := by decide
theorem topen : L ("*(" : Str) = [42, 40] := by decide
theorem bopen : L ("-(" : Str) = [45, 40] := by decide
theorem shut : L (")" : Str) = [41] := by decide
theorem blank : L (" " : Str) = [32] := by decide
theorem clipS_eq (r : Str) (f : Int) : L (clipS r f f) = L r ++ 58 :: L (st f) := by
  rw [clipS, if_pos rfl, L_app, L_app, colon]
  simp
theorem clipS_ne (r : Str) {f l : Int} (h : f ≠ l) : L (clipS r f l) = L r ++ 58 :: (L (st f) ++ 45 :: L (st l)) := by
  rw [clipS, if_neg h, L_app, L_app, L_app, L_app, colon, dash]
  simp
theorem st_digI {i : Int} (h : Num9 i) : ∀ c ∈ L (st i), 48 ≤ c ∧ c ≤ 57 := by
  obtain ⟨n, rfl, _⟩ := h.nat
  exact st_dig n
theorem st_lenI {i : Int} (h : Num9 i) : 1 ≤ (st i).length ∧ (st i).length ≤ 9 := by
  obtain ⟨n, rfl, hn⟩ := h.nat
  exact st_len 8 n hn
theorem pos9 {m : Int} (h : 1 ≤ m ∧ m < 1000000000) : Num9 m := ⟨by omega, h.2⟩
theorem NameOk.cons {x : Str} (h : NameOk x) : ∃ c r, L x = c :: r ∧ 97 ≤ c ∧ c ≤ 122 := by
  cases e : L x with
  | nil =>
    have := h.l1
    rw [← L_len, e] at this
    exact absurd this (by decide)
  | cons c r => exact ⟨c, r, rfl, h.sm c (by rw [e]; exact List.mem_cons_self ..)⟩
theorem st_cons {i : Int} (h : Num9 i) : ∃ c r, L (st i) = c :: r ∧ 48 ≤ c ∧ c ≤ 57 := by
  obtain ⟨n, rfl, _⟩ := h.nat
  obtain ⟨c, r, e⟩ := st_ne n
  exact ⟨c, r, e, st_dig n c (by rw [e]; exact List.mem_cons_self ..)⟩
theorem st_last {i : Int} (h : Num9 i) : ∃ p c, L (st i) = p ++ [c] ∧ 48 ≤ c ∧ c ≤ 57 := by
  obtain ⟨c, r, e, _⟩ := st_cons h
  rcases List.eq_nil_or_concat (L (st i)) with z | ⟨p, d, z⟩
  · rw [e] at z; cases z
  · rw [List.concat_eq_append] at z
    exact ⟨p, d, z, st_digI h d (by rw [z]; simp)⟩
theorem name_last {x : Str} (h : NameOk x) : ∃ p c, L x = p ++ [c] ∧ 97 ≤ c ∧ c ≤ 122 := by
  obtain ⟨c, r, e, _⟩ := h.cons
  rcases List.eq_nil_or_concat (L x) with z | ⟨p, d, z⟩
  · rw [e] at z; cases z
  · rw [List.concat_eq_append] at z
    exact ⟨p, d, z, h.sm d (by rw [z]; simp)⟩
/-- the first sign tells brackets from the rest -/
theorem Wd.first {w : Wd} (h : w.ok) (hb : w ≠ .opB) : ∃ c r, L w.s = c :: r ∧ c ≠ 45 := by
  cases w with
  | clip r f l =>
    obtain ⟨c, q, e, h1, h2⟩ := h.1.cons
    by_cases z : f = l
    · subst z
      exact ⟨c, _, by show L (clipS r f f) = _; rw [clipS_eq, e]; rfl, by omega⟩
    · exact ⟨c, _, by show L (clipS r f l) = _; rw [clipS_ne r z, e]; rfl, by omega⟩
  | part n =>
    obtain ⟨c, q, e, h1, h2⟩ := NameOk.cons h
    exact ⟨c, q, e, by omega⟩
  | fade m => exact ⟨126, _, by show L (("~" : Str) ++ st m) = _; rw [L_app, tilde]; rfl, by decide⟩
  | opT m =>
    obtain ⟨c, q, e, h1, h2⟩ := st_cons (pos9 h)
    exact ⟨c, _, by show L (st m ++ ("*(" : Str)) = _; rw [L_app, e]; rfl, by omega⟩
  | opB => exact absurd rfl hb
  | sh => exact ⟨41, [], shut, by decide⟩
theorem Wd.neB {w : Wd} (h : w.ok) (hb : w ≠ .opB) : (decide (L2.V.str w.s = L2.V.str "-(")) = false := decide_eq_false fun e => by
  obtain ⟨c, r, e1, e2⟩ := Wd.first h hb
  have e3 : w.s = ("-(" : Str) := L2.V.str.inj e
  rw [e3, bopen] at e1
  exact e2 (List.cons.inj e1).1.symm
/-- no word but that which opens times ends so -/
theorem Wd.noT {w : Wd} (h : w.ok) (hb : w ≠ .opB) (ht : ∀ m, w ≠ .opT m) : Txt.endswith w.s "*(" = false := by
  have key : ∀ p c, L w.s = p ++ [c] → c ≠ 40 → Txt.endswith w.s "*(" = false := fun p c e1 e2 => ends_last e1 (q := [42]) topen e2
  cases w with
  | clip r f l =>
    obtain ⟨p, c, e, h1, h2⟩ := st_last h.2.2
    by_cases z : f = l
    · subst z
      exact key (L r ++ 58 :: p) c (by show L (clipS r f f) = _; rw [clipS_eq, e]; simp) (by omega)
    · exact key (L r ++ 58 :: (L (st f) ++ 45 :: p)) c (by show L (clipS r f l) = _; rw [clipS_ne r z, e]; simp) (by omega)
  | part n =>
    obtain ⟨p, c, e, h1, h2⟩ := name_last h
    exact key p c e (by omega)
  | fade m =>
    obtain ⟨p, c, e, h1, h2⟩ := st_last (pos9 h)
    exact key (126 :: p) c (by show L (("~" : Str) ++ st m) = _; rw [L_app, tilde, e]; rfl) (by omega)
  | opT m => exact absurd rfl (ht m)
  | opB => exact absurd rfl hb
  | sh => exact key [] 41 shut (by decide)
theorem Wd.noSh {w : Wd} (h : w.ok) (hs : w ≠ .sh) : (decide (L2.V.str w.s = L2.V.str ")")) = false := decide_eq_false fun e => by
  have e3 : w.s = (")" : Str) := L2.V.str.inj e
  have e4 := congrArg L e3
  rw [shut] at e4
  cases w with
  | clip r f l =>
    obtain ⟨c, q, ee, h1, h2⟩ := h.1.cons
    have e4 : L (clipS r f l) = [41] := e4
    by_cases z : f = l
    · subst z
      rw [clipS_eq, ee] at e4
      have := (List.cons.inj e4).1
      omega
    · rw [clipS_ne r z, ee] at e4
      have := (List.cons.inj e4).1
      omega
  | part n =>
    obtain ⟨c, q, ee, h1, h2⟩ := NameOk.cons h
    have e4 : L n = [41] := e4
    rw [ee] at e4
    have := (List.cons.inj e4).1
    omega
  | fade m =>
    have e4 : L (("~" : Str) ++ st m) = [41] := e4
    rw [L_app, tilde] at e4
    exact absurd (List.cons.inj e4).1 (by decide)
  | opT m =>
    obtain ⟨c, q, ee, h1, h2⟩ := st_cons (pos9 h)
    have e4 : L (st m ++ ("*(" : Str)) = [41] := e4
    rw [L_app, ee] at e4
    have := (List.cons.inj e4).1
    omega
  | opB => exact absurd e4 (by decide)
  | sh => exact absurd rfl hs
theorem Wd.len {w : Wd} (h : w.ok) : w.s.length ≤ 30 := by
  rw [← L_len]
  cases w with
  | clip r f l =>
    have a := h.1.l2
    have b := (st_lenI h.2.1).2
    have c := (st_lenI h.2.2).2
    rw [← L_len] at a b c
    show (L (clipS r f l)).length ≤ 30
    by_cases z : f = l
    · subst z
      rw [clipS_eq, List.length_append, List.length_cons]
      omega
    · rw [clipS_ne r z, List.length_append, List.length_cons, List.length_append, List.length_cons]
      omega
  | part n => have a := NameOk.l2 h; rw [← L_len] at a; show (L n).length ≤ 30; omega
  | fade m =>
    have b := (st_lenI (pos9 h)).2
    rw [← L_len] at b
    show (L (("~" : Str) ++ st m)).length ≤ 30
    rw [L_app, tilde, List.length_append]
    show 1 + _ ≤ _
    omega
  | opT m =>
    have b := (st_lenI (pos9 h)).2
    rw [← L_len] at b
    show (L (st m ++ ("*(" : Str))).length ≤ 30
    rw [L_app, topen, List.length_append]
    show _ + 2 ≤ _
    omega
  | opB => show (L ("-(" : Str)).length ≤ 30; rw [bopen]; decide
  | sh => show (L (")" : Str)).length ≤ 30; rw [shut]; decide
/-! the text -/
mutual
def txI : It → Str
  | .clip r f l => clipS r f l
  | .times m xs => st m ++ ("*( " : Str) ++ Txt.join (" " : Str) (txs xs) ++ (" )" : Str)
  | .back xs => ("-( " : Str) ++ Txt.join (" " : Str) (txs xs) ++ (" )" : Str)
  | .part n _ => n
  | .fade m => ("~" : Str) ++ st m
def txs : List It → List Str
  | [] => []
  | x :: r => txI x :: txs r
end
def txL (xs : List It) : Str := Txt.join (" " : Str) (txs xs)
theorem txs_map : ∀ xs : List It, txs xs = xs.map txI
  | [] => by rw [txs]; rfl
  | x :: r => by rw [txs, txs_map r]; rfl
theorem jn_app (c : Nat) : ∀ {A B : List (List Nat)}, A ≠ [] → B ≠ [] → jn [c] (A ++ B) = jn [c] A ++ c :: jn [c] B
  | [], _, h, _ => absurd rfl h
  | _, [], _, h => absurd rfl h
  | [a], b :: B, _, _ => by rw [List.singleton_append, jn_two]; simp [jn]
  | a :: a' :: A, b :: B, _, h => by
    rw [List.cons_append, List.cons_append, jn_two, jn_two, ← List.cons_append, jn_app c (List.cons_ne_nil _ _) h, List.append_assoc]
    rfl
abbrev wl (w : Wd) : List Nat := L w.s
theorem wdL_ne {xs : List It} (h : xs ≠ []) : wdL xs ≠ [] := by
  cases xs with
  | nil => exact absurd rfl h
  | cons x r => rw [wdL]; intro z; exact wdI_ne x (List.append_eq_nil_iff.mp z).1
theorem tsp : L ("*( " : Str) = [42, 40, 32] := by decide
theorem bsp : L ("-( " : Str) = [45, 40, 32] := by decide
theorem ssp : L (" )" : Str) = [32, 41] := by decide
mutual
theorem tx_I : ∀ {x : It}, vI x → L (txI x) = jn [32] ((wdI x).map wl)
  | .clip r f l, h => by rw [txI, wdI]; simp [jn, wl, Wd.s]
  | .times m xs, h => by
    rw [vI] at h
    have ne := wdL_ne h.2.1
    have ne' : (wdL xs).map wl ≠ [] := fun z => ne (List.map_eq_nil_iff.mp z)
    rw [txI, wdI, L_app, L_app, L_app, join_L, blank, tx_L h.2.2, tsp, ssp, List.map_cons, List.map_append]
    have e : jn [32] (wl (.opT m) :: ((wdL xs).map wl ++ [.sh].map wl)) = wl (.opT m) ++ 32 :: jn [32] ((wdL xs).map wl ++ [.sh].map wl) := by
      have := jn_app 32 (A := [wl (.opT m)]) (B := (wdL xs).map wl ++ [.sh].map wl) (List.cons_ne_nil _ _) (fun z => ne' (List.append_eq_nil_iff.mp z).1)
      rw [List.singleton_append] at this
      rw [this]
      simp [jn]
    rw [e, jn_app 32 ne' (show [Wd.sh].map wl ≠ [] from List.cons_ne_nil _ _)]
    show _ = L (st m ++ ("*(" : Str)) ++ 32 :: (jn [32] ((wdL xs).map wl) ++ 32 :: jn [32] [L (")" : Str)])
    rw [L_app, topen, shut]
    simp [jn]
  | .back xs, h => by
    rw [vI] at h
    have ne := wdL_ne h.1
    have ne' : (wdL xs).map wl ≠ [] := fun z => ne (List.map_eq_nil_iff.mp z)
    rw [txI, wdI, L_app, L_app, join_L, blank, tx_L h.2, bsp, ssp, List.map_cons, List.map_append]
    have e : jn [32] (wl .opB :: ((wdL xs).map wl ++ [.sh].map wl)) = wl .opB ++ 32 :: jn [32] ((wdL xs).map wl ++ [.sh].map wl) := by
      have := jn_app 32 (A := [wl .opB]) (B := (wdL xs).map wl ++ [.sh].map wl) (List.cons_ne_nil _ _) (fun z => ne' (List.append_eq_nil_iff.mp z).1)
      rw [List.singleton_append] at this
      rw [this]
      simp [jn]
    rw [e, jn_app 32 ne' (show [Wd.sh].map wl ≠ [] from List.cons_ne_nil _ _)]
    show _ = L ("-(" : Str) ++ 32 :: (jn [32] ((wdL xs).map wl) ++ 32 :: jn [32] [L (")" : Str)])
    rw [bopen, shut]
    simp [jn]
  | .part n _, h => by rw [txI, wdI]; simp [jn, wl, Wd.s]
  | .fade m, h => by rw [txI, wdI]; simp [jn, wl, Wd.s]
theorem tx_L : ∀ {xs : List It}, vL xs → jn [32] ((txs xs).map L) = jn [32] ((wdL xs).map wl)
  | [], _ => by rw [txs, wdL]; rfl
  | [x], h => by
    rw [vL] at h
    rw [txs, txs, wdL, wdL, List.append_nil, ← tx_I h.1]
    simp [jn]
  | x :: y :: r, h => by
    rw [vL] at h
    have ih := tx_L (xs := y :: r) h.2
    have e1 : (txs (x :: y :: r)).map L = [L (txI x)] ++ (txs (y :: r)).map L := by rw [txs]; rfl
    rw [e1, wdL, List.map_append, jn_app 32 (List.cons_ne_nil _ _) (by rw [txs]; exact List.cons_ne_nil _ _), jn_app 32 (fun z => wdI_ne x (List.map_eq_nil_iff.mp z)) (fun z => wdL_ne (List.cons_ne_nil y r) (List.map_eq_nil_iff.mp z)), ih, ← tx_I h.1]
    simp [jn]
end
theorem txL_words {xs : List It} (h : vL xs) : L (txL xs) = jn [32] ((wdL xs).map wl) := by
  rw [txL, join_L, blank, tx_L h]
theorem jn_len (c : Nat) : ∀ l : List (List Nat), l ≠ [] → (jn [c] l).length + 1 = (l.map List.length).sum + l.length
  | [], h => absurd rfl h
  | [a], _ => by simp [jn]
  | a :: b :: r, _ => by
    have := jn_len c (b :: r) (List.cons_ne_nil _ _)
    rw [jn_two, List.length_append, List.length_cons, List.map_cons, List.sum_cons, List.length_cons]
    omega
theorem sum_le {k : Nat} : ∀ l : List (List Nat), (∀ p ∈ l, p.length ≤ k) → (l.map List.length).sum ≤ k * l.length
  | [], _ => by simp
  | a :: r, h => by
    have := sum_le r fun p hp => h p (List.mem_cons_of_mem _ hp)
    have := h a (List.mem_cons_self ..)
    rw [List.map_cons, List.sum_cons, List.length_cons, Nat.mul_succ]
    omega
theorem txL_len {xs : List It} (h : vL xs) : (txL xs).length ≤ 62 * wL xs := by
  rw [← L_len, txL_words h]
  have a := wd_lenL xs
  by_cases z : xs = []
  · subst z
    rw [wdL]
    exact Nat.zero_le _
  · have b := jn_len 32 ((wdL xs).map wl) (fun y => wdL_ne z (List.map_eq_nil_iff.mp y))
    have c := sum_le (k := 30) ((wdL xs).map wl) fun p hp => by
      obtain ⟨w, hw, rfl⟩ := List.mem_map.mp hp
      exact Wd.len (wd_okL h w hw)
    rw [List.length_map] at b c
    omega
theorem foldl_sum (g : Nat) (l : List Str) : ∀ n : Nat, l.foldl (fun acc (p : Str) => acc + p.length + g) n = n + ((l.map L).map List.length).sum + g * l.length := by
  induction l with
  | nil => intro n; simp
  | cons x r ih =>
    intro n
    rw [List.foldl_cons, ih, List.map_cons, List.map_cons, List.sum_cons, List.length_cons, Nat.mul_succ]
    show _ = n + (x.length + _) + _
    omega
theorem join_ok1 {l : List Str} (h : ((l.map L).map List.length).sum + l.length ≤ 16000000) : JoinOk (" " : Str) l = true := by
  unfold JoinOk
  rw [List.foldl_toArray, foldl_sum]
  have e : (" " : Str).length = 1 := by decide
  have zl : sizeLine = 16777216 := sizeLine_eq
  rw [e]
  unfold Builtin.Str.tooLong
  rw [Bool.not_eq_true']
  exact decide_eq_false (by omega)
theorem join_txs {xs : List It} (h : vL xs) (hw : wL xs ≤ 100000) : JoinOk (" " : Str) (txs xs) = true := by
  refine join_ok1 ?_
  by_cases z : xs = []
  · subst z
    rw [txs]
    exact Nat.zero_le _
  · have a := txL_len h
    rw [← L_len, txL, join_L, blank] at a
    have b := jn_len 32 ((txs xs).map L) (by rw [txs_map]; intro y; exact z (List.map_eq_nil_iff.mp (List.map_eq_nil_iff.mp y)))
    rw [List.length_map] at b
    omega
/-! read again -/
def leaf : Wd → It
  | .clip r f l => .clip r f l
  | .part n => .part n []
  | .fade m => .fade m
  | _ => .fade 0
abbrev Mst := List (Wd × List It) × List It
def fin (o : Wd) (xs : List It) : It := match o with
  | .opT m => .times m xs
  | _ => .back xs
def stp (s : Mst) (w : Wd) : Mst := match w with
  | .opT m => (s.1 ++ [(.opT m, s.2)], [])
  | .opB => (s.1 ++ [(.opB, s.2)], [])
  | .sh => match s.1.getLast? with
    | some (o, ahead) => (s.1.dropLast, ahead ++ [fin o s.2])
    | none => s
  | w => (s.1, s.2 ++ [leaf w])
/-! parts without their lists -/
mutual
def bare : It → It
  | .clip r f l => .clip r f l
  | .times m xs => .times m (bareL xs)
  | .back xs => .back (bareL xs)
  | .part n _ => .part n []
  | .fade m => .fade m
def bareL : List It → List It
  | [] => []
  | x :: r => bare x :: bareL r
end
def okRun : List Wd → Mst → Prop
  | [], _ => True
  | w :: r, s => (w = .sh → s.1 ≠ [] ∧ s.2 ≠ []) ∧ okRun r (stp s w)
end KW

set_option linter.all false
set_option maxRecDepth 100000
set_option maxHeartbeats 1000000
/-! Any words read: each is a word of a list's text, or none. -/
namespace KR
open PySem TX IT KW
/-! numbers -/
theorem sl_over {x : Str} {i : Int} (h : (x.length : Int) ≤ i) : Txt.slice x (some i) none = Str.empty := PyProof.Rows.slice_beyond h
theorem count_split (x : Str) (c : Nat) : Txt.count x ⟨#[c]⟩ = ((Txt.split x ⟨#[c]⟩).length : Int) - 1 := by
  rw [PyProof.Rows.count_cnt, PyProof.Rows.split_len]
  omega
theorem split_jn (x : Str) (c : Nat) : L x = jn [c] ((Txt.split x ⟨#[c]⟩).map L) := by rw [← sjoin_L ⟨#[c]⟩, StrLaws.join_split x ⟨#[c]⟩]
theorem split_ne (x : Str) (c : Nat) : Txt.split x ⟨#[c]⟩ ≠ [] := fun z => by
  have := PyProof.Rows.split_pos x ⟨#[c]⟩
  rw [z] at this
  exact absurd this (by decide)
theorem dv_lt : ∀ (cs : List Nat) (a : Nat), (∀ c ∈ cs, 48 ≤ c ∧ c ≤ 57) → cs.foldl (fun acc c => acc * 10 + (c - 48)) a < (a + 1) * 10 ^ cs.length
  | [], a, _ => by simp
  | c :: r, a, h => by
    have ih := dv_lt r (a * 10 + (c - 48)) fun x hx => h x (List.mem_cons_of_mem _ hx)
    have hc := h c (List.mem_cons_self ..)
    rw [List.foldl_cons, List.length_cons, Nat.pow_succ]
    refine Nat.lt_of_lt_of_le ih ?_
    rw [Nat.mul_comm (10 ^ r.length) 10, ← Nat.mul_assoc]
    exact Nat.mul_le_mul_right _ (by omega)
theorem chr_back : ∀ c : Nat, c < 58 → (Char.ofNat c).toNat = c := by decide
structure NumT (x : Str) : Prop where
  l1 : 1 ≤ x.length
  l9 : x.length ≤ 9
  dg : ∀ c ∈ L x, 48 ≤ c ∧ c ≤ 57
  hz : L x = [48] ∨ (L x)[0]? ≠ some 48
theorem NumT.st {x : Str} (h : NumT x) : ∃ i, Num9 i ∧ x = st i := by
  obtain ⟨m, hm⟩ : ∃ m, (L x).length = m + 1 := ⟨(L x).length - 1, by have := h.l1; rw [← L_len] at this; omega⟩
  have key := NumText.toDigits_digitsVal m (L x) hm h.dg (by
    rcases h.hz with z | z
    · rw [z] at hm
      exact .inl (by simp at hm; omega)
    · cases e : L x with
      | nil => rw [e] at hm; cases hm
      | cons c r =>
        rw [e] at z
        have := h.dg c (by rw [e]; exact List.mem_cons_self ..)
        exact .inr ⟨c, r, rfl, by have : c ≠ 48 := fun y => z (by rw [y]; rfl); omega⟩)
  have lt := dv_lt (L x) 0 h.dg
  have l9 := h.l9
  rw [← L_len] at l9
  have lt2 : 10 ^ (L x).length ≤ 10 ^ 9 := Nat.pow_le_pow_right (by decide) l9
  refine ⟨((NumText.digitsVal (L x) : Nat) : Int), ⟨by omega, ?_⟩, ext ?_⟩
  · have : NumText.digitsVal (L x) < 1000000000 := by unfold NumText.digitsVal; omega
    omega
  · rw [st_L, key, List.map_map]
    have e : ∀ l : List Nat, (∀ c ∈ l, 48 ≤ c ∧ c ≤ 57) → l.map (Char.toNat ∘ Char.ofNat) = l := by
      intro l
      induction l with
      | nil => intro _; rfl
      | cons c r ih =>
        intro hl
        have hc := hl c (List.mem_cons_self ..)
        rw [List.map_cons, ih fun x hx => hl x (List.mem_cons_of_mem _ hx)]
        show (Char.ofNat c).toNat :: r = _
        rw [chr_back c (by omega)]
    exact (e _ h.dg).symm
theorem st_numT {i : Int} (h : Num9 i) : NumT (st i) := by
  obtain ⟨l1, l2⟩ := st_lenI h
  refine ⟨l1, l2, st_digI h, ?_⟩
  obtain ⟨n, rfl, _⟩ := h.nat
  rcases Nat.eq_zero_or_pos n with rfl | hn
  · exact .inl (by decide)
  · obtain ⟨c, r, e, hc⟩ := st_head n hn
    rw [e]
    exact .inr fun z => hc (Option.some.inj z)
theorem st0 {i : Int} (h : Num9 i) : st i = ("0" : Str) ↔ i = 0 := by
  constructor
  · intro e
    obtain ⟨n, rfl, _⟩ := h.nat
    have : L (st ((n : Nat) : Int)) = L (st ((0 : Nat) : Int)) := by rw [e]; decide
    rw [st_inj this]
    rfl
  · rintro rfl
    exact ext (by decide)
/-! clips -/
theorem clip_of {x r : Str} {fs : List Str} (hr : NameOk r) (hx : L x = L r ++ 58 :: jn [45] (fs.map L)) (h2 : fs.length ≤ 2) (hn : ∀ f ∈ fs, NumT f) (h0 : fs ≠ []) (hd : ∀ a b, fs = [a, b] → a ≠ b) : ∃ f l, Num9 f ∧ Num9 l ∧ x = clipS r f l := by
  match fs, h2, h0, hn, hx, hd with
  | [a], _, _, hn, hx, _ =>
    obtain ⟨f, hf, rfl⟩ := (hn a (List.mem_singleton.mpr rfl)).st
    refine ⟨f, f, hf, hf, ext ?_⟩
    rw [clipS_eq, hx]
    simp [jn]
  | [a, b], _, _, hn, hx, hd =>
    obtain ⟨f, hf, rfl⟩ := (hn a (List.mem_cons_self ..)).st
    obtain ⟨l, hl, rfl⟩ := (hn b (List.mem_cons_of_mem _ (List.mem_singleton.mpr rfl))).st
    have ne : f ≠ l := fun z => hd _ _ rfl (by rw [z])
    refine ⟨f, l, hf, hl, ext ?_⟩
    rw [clipS_ne r ne, hx]
    simp [jn]
/-- what the program looks at -/
theorem clip_conv {x : Str} (hr : NameOk (Txt.partition x ⟨#[58]⟩).1) (h2 : (Txt.split (Txt.slice x (some ((((Txt.partition x ⟨#[58]⟩).1.length : Nat) : Int) + 1)) none) ⟨#[45]⟩).length ≤ 2)
    (hn : ∀ f ∈ Txt.split (Txt.slice x (some ((((Txt.partition x ⟨#[58]⟩).1.length : Nat) : Int) + 1)) none) ⟨#[45]⟩, NumT f)
    (hd : ∀ a b, Txt.split (Txt.slice x (some ((((Txt.partition x ⟨#[58]⟩).1.length : Nat) : Int) + 1)) none) ⟨#[45]⟩ = [a, b] → a ≠ b) : ∃ r f l, NameOk r ∧ Num9 f ∧ Num9 l ∧ x = clipS r f l := by
  by_cases h : 58 ∈ L x
  · obtain ⟨a, b, e, ha⟩ := List.eq_append_cons_of_mem h
    have e1 := part_head e ha
    have hl : (Txt.partition x ⟨#[58]⟩).1.length = a.length := by rw [← L_len, e1]
    have hlx : x.length = a.length + 1 + b.length := by rw [← L_len, e, List.length_append, List.length_cons]; omega
    have e2 : L (Txt.slice x (some ((((Txt.partition x ⟨#[58]⟩).1.length : Nat) : Int) + 1)) none) = b := by
      rw [hl, sl_from (by omega) (by omega), e, show (((a.length : Nat) : Int) + 1).toNat = a.length + 1 by omega, ← List.drop_drop, List.drop_left]
      rfl
    obtain ⟨f, l, hf, hl', e3⟩ := clip_of (x := x) hr (by rw [e1, ← split_jn, e2, e]) h2 hn (split_ne _ _) hd
    exact ⟨_, f, l, hr, hf, hl', e3⟩
  · rw [part_none h, sl_over (by omega)] at hn
    have : Txt.split Str.empty ⟨#[45]⟩ = [Str.empty] := split_is (List.cons_ne_nil _ _) (fun p hp => by rw [List.mem_singleton.mp hp]; exact fun z => (nomatch z)) (by simp [jn])
    rw [this] at hn
    exact absurd (hn _ (List.mem_singleton.mpr rfl)).l1 (by decide)
/-- what is seen in a clip's word -/
theorem clip_colon {r : Str} {f l : Int} (hr : NameOk r) (hf : Num9 f) (hl : Num9 l) : ∃ y, Txt.split (clipS r f l) ⟨#[58]⟩ = [r, y] ∧ Txt.split y ⟨#[45]⟩ = (if f = l then [st f] else [st f, st l]) ∧ (Txt.split (clipS r f l) ⟨#[45]⟩).length ≤ 2 := by
  have nc : 58 ∉ L r := fun z => by have := hr.sm 58 z; omega
  have nb : 45 ∉ L r := fun z => by have := hr.sm 45 z; omega
  have nd : ∀ {i : Int} {c : Nat}, (c = 58 ∨ c = 45) → Num9 i → c ∉ L (st i) := fun hc hi z => by have := st_digI hi _ z; omega
  by_cases e : f = l
  · subst e
    refine ⟨st f, ?_, ?_, ?_⟩
    · refine split_is (List.cons_ne_nil _ _) (fun p hp => ?_) (by rw [clipS_eq]; simp [jn])
      rcases List.mem_cons.mp hp with rfl | hp
      · exact nc
      · rw [List.mem_singleton.mp hp]; exact nd (.inl rfl) hf
    · rw [if_pos rfl]
      exact split_is (List.cons_ne_nil _ _) (fun p hp => by rw [List.mem_singleton.mp hp]; exact nd (.inr rfl) hf) (by simp [jn])
    · rw [split_is (x := clipS r f f) (l := [clipS r f f]) (List.cons_ne_nil _ _) (fun p hp => ?_) (by simp [jn])]
      · exact (by decide : (1 : Nat) ≤ 2)
      · rw [List.mem_singleton.mp hp, clipS_eq]
        simp [nb, nd (.inr rfl) hf]
  · refine ⟨st f ++ ("-" : Str) ++ st l, ?_, ?_, ?_⟩
    · refine split_is (List.cons_ne_nil _ _) (fun p hp => ?_) (by rw [clipS_ne r e, List.map_cons, List.map_cons, L_app, L_app, dash]; simp [jn])
      rcases List.mem_cons.mp hp with rfl | hp
      · exact nc
      · rw [List.mem_singleton.mp hp, L_app, L_app, dash]
        simp [nd (.inl rfl) hf, nd (.inl rfl) hl]
    · rw [if_neg e]
      refine split_is (List.cons_ne_nil _ _) (fun p hp => ?_) (by rw [L_app, L_app, dash]; simp [jn])
      rcases List.mem_cons.mp hp with rfl | hp
      · exact nd (.inr rfl) hf
      · rw [List.mem_singleton.mp hp]; exact nd (.inr rfl) hl
    · rw [split_is (x := clipS r f l) (l := [r ++ (":" : Str) ++ st f, st l]) (List.cons_ne_nil _ _) (fun p hp => ?_) (by rw [clipS_ne r e, List.map_cons, List.map_cons, L_app, L_app, colon]; simp [jn])]
      · exact Nat.le_refl _
      · rcases List.mem_cons.mp hp with rfl | hp
        · rw [L_app, L_app, colon]
          simp [nb, nd (.inr rfl) hf]
        · rw [List.mem_singleton.mp hp]; exact nd (.inr rfl) hl
/-! words that are none -/
def Bad (x : Str) : Prop := ∀ w : Wd, w.ok → x ≠ w.s
theorem Bad.shut {x : Str} (h : Bad x) : x ≠ (")" : Str) := h .sh trivial
theorem Bad.back {x : Str} (h : Bad x) : x ≠ ("-(" : Str) := h .opB trivial
theorem Bad.times {x y : Str} (h : Bad x) (hy : NumT y) (h0 : y ≠ ("0" : Str)) : L x ≠ L y ++ [42, 40] := fun e => by
  obtain ⟨i, hi, rfl⟩ := hy.st
  have : i ≠ 0 := fun z => h0 ((st0 hi).mpr z)
  exact h (.opT i) ⟨by have := hi.1; omega, hi.2⟩ (ext (by show _ = L (st i ++ ("*(" : Str)); rw [L_app, topen]; exact e))
open Classical in
noncomputable def tok (x : Str) : Option Wd := if h : ∃ w : Wd, w.ok ∧ x = w.s then some h.choose else none
theorem tok_some {x : Str} {w : Wd} (h : tok x = some w) : w.ok ∧ x = w.s := by
  unfold tok at h
  split at h
  · rename_i z
    have := z.choose_spec
    rw [Option.some.inj h] at this
    exact this
  · cases h
theorem tok_none {x : Str} (h : tok x = none) : Bad x := by
  unfold tok at h
  split at h
  · cases h
  · rename_i z
    exact fun w hw e => z ⟨w, hw, e⟩
/-! the reading -/
def Stuck (s : Mst) : Option Wd → Prop
  | none => True
  | some .sh => s.1 = [] ∨ s.2 = []
  | some _ => False
open Classical in
noncomputable def run : List Str → Mst → Nat → Nat ⊕ Mst
  | [], s, _ => .inr s
  | x :: r, s, k => if Stuck s (tok x) then .inl k else match tok x with
    | some w => run r (stp s w) (k + 1)
    | none => .inl k
theorem run_app : ∀ (a b : List Str) (s : Mst) (k : Nat), run (a ++ b) s k = match run a s k with
    | .inl j => .inl j
    | .inr s' => run b s' (k + a.length)
  | [], b, s, k => by rw [List.nil_append, run]; rfl
  | x :: r, b, s, k => by
    rw [List.cons_append, run, run]
    by_cases h : Stuck s (tok x)
    · rw [if_pos h, if_pos h]
    · rw [if_neg h, if_neg h]
      cases e : tok x with
      | none => rfl
      | some w =>
        have ih := run_app r b (stp s w) (k + 1)
        rw [show k + 1 + r.length = k + (r.length + 1) by omega] at ih
        exact ih
/-- as far as the words are read, this is at hand -/
def Upto (ws : List Str) (i : Nat) (s : Mst) : Prop := run (ws.take i) ([], []) 0 = .inr s
theorem Upto.zero (ws : List Str) : Upto ws 0 ([], []) := by unfold Upto; rw [List.take_zero, run]
theorem take_one {ws : List Str} {i : Nat} {x : Str} (hx : ws[i]? = some x) : ws.take (i + 1) = ws.take i ++ [x] := by
  rw [List.take_add_one, hx]
  rfl
theorem Upto.step {ws : List Str} {i : Nat} {s : Mst} {x : Str} {w : Wd} (h : Upto ws i s) (hx : ws[i]? = some x) (ht : tok x = some w) (hs : ¬ Stuck s (some w)) : Upto ws (i + 1) (stp s w) := by
  unfold Upto at h ⊢
  rw [take_one hx, run_app, h]
  show run [x] s _ = _
  rw [run, ht, if_neg hs]
  show run [] _ _ = _
  rw [run]
theorem Upto.stuck {ws : List Str} {i : Nat} {s : Mst} {x : Str} (h : Upto ws i s) (hx : ws[i]? = some x) (hs : Stuck s (tok x)) : run ws ([], []) 0 = .inl i := by
  unfold Upto at h
  obtain ⟨hl, e⟩ := List.getElem?_eq_some_iff.mp hx
  have := run_app (ws.take i) (ws.drop i) ([], []) 0
  rw [List.take_append_drop, h] at this
  rw [this, List.drop_eq_getElem_cons hl, e]
  show run (x :: _) s _ = _
  rw [run, if_pos hs, List.length_take, Nat.zero_add, Nat.min_eq_left (by omega)]
theorem Upto.all {ws : List Str} {s : Mst} (h : Upto ws ws.length s) : run ws ([], []) 0 = .inr s := by
  unfold Upto at h
  rw [List.take_length] at h
  exact h
open Classical in
/-- a list, or the number of a word -/
noncomputable def out (ws : List Str) : Nat ⊕ List It := match run ws ([], []) 0 with
  | .inl k => .inl k
  | .inr s => if s.1 = [] then .inr s.2 else .inl ws.length
theorem Upto.bad {ws : List Str} {i : Nat} {s : Mst} {x : Str} (h : Upto ws i s) (hx : ws[i]? = some x) (hs : Stuck s (tok x)) : out ws = .inl i := by unfold out; rw [h.stuck hx hs]
theorem Upto.good {ws : List Str} {s : Mst} (h : Upto ws ws.length s) (he : s.1 = []) : out ws = .inr s.2 := by unfold out; rw [h.all]; exact if_pos he
theorem Upto.left {ws : List Str} {s : Mst} (h : Upto ws ws.length s) (he : s.1 ≠ []) : out ws = .inl ws.length := by unfold out; rw [h.all]; exact if_neg he
/-! what is at hand is good: its items, how deep they are -/
def cn (x : Str) : Nat := (L x).count 40
def cns (ws : List Str) : Nat := (ws.map cn).sum
structure Fit (k : Nat) (s : Mst) : Prop where
  v : vL s.2
  vb : ∀ x ∈ s.1, vL x.2 ∧ x.1.ok ∧ (x.1 = .opB ∨ ∃ m, x.1 = .opT m)
  b : s.1.length ≤ k
  d : s.1.length + dpL s.2 ≤ k + 1
  db : ∀ x ∈ s.1, s.1.length + dpL x.2 ≤ k + 1
theorem Fit.zero : Fit 0 ([], []) := ⟨by show vL []; rw [vL]; trivial, fun x hx => (nomatch hx), Nat.le_refl _, by show 0 + dpL [] ≤ 1; rw [dpL]; omega, fun x hx => (nomatch hx)⟩
theorem dp_snoc {n k : Nat} {it : List It} {y : It} (h1 : n + dpL it ≤ k) (h2 : n + dpI y ≤ k) : n + dpL (it ++ [y]) ≤ k := by
  have := dpL_app (d := k - n) (p := it) (q := [y]) (by omega) (dp1 (by omega))
  omega
theorem Fit.leaf {k j : Nat} {br : List (Wd × List It)} {it : List It} {y : It} (h : Fit k (br, it)) (hy : vI y) (hd : dpI y ≤ 1) : Fit (k + j) (br, it ++ [y]) := by
  have hb : br.length ≤ k := h.b
  have h1 : br.length + dpL it ≤ k + 1 := h.d
  refine ⟨vL_app h.v (v1 hy), h.vb, by show br.length ≤ _; omega, ?_, fun x hx => ?_⟩
  · exact dp_snoc (n := br.length) (by omega) (by omega)
  · have : br.length + dpL x.2 ≤ k + 1 := h.db x hx
    show br.length + _ ≤ _
    omega
theorem Fit.opn {k j : Nat} {br : List (Wd × List It)} {it : List It} {o : Wd} (h : Fit k (br, it)) (ho : o = .opB ∨ ∃ m, o = .opT m) (hok : o.ok) (h1 : 1 ≤ j) : Fit (k + j) (br ++ [(o, it)], []) := by
  have hb : br.length ≤ k := h.b
  have hd : br.length + dpL it ≤ k + 1 := h.d
  have e : (br ++ [(o, it)]).length = br.length + 1 := by simp
  refine ⟨by show vL []; rw [vL]; trivial, fun x hx => ?_, ?_, ?_, fun x hx => ?_⟩
  · rcases List.mem_append.mp hx with z | z
    · exact h.vb x z
    · rw [List.mem_singleton.mp z]
      exact ⟨h.v, hok, ho⟩
  · show (br ++ [(o, it)]).length ≤ _
    omega
  · show (br ++ [(o, it)]).length + dpL [] ≤ _
    rw [dpL]
    omega
  · show (br ++ [(o, it)]).length + dpL x.2 ≤ _
    rcases List.mem_append.mp hx with z | z
    · have : br.length + dpL x.2 ≤ k + 1 := h.db x z
      omega
    · rw [List.mem_singleton.mp z]
      show _ + dpL it ≤ _
      omega
theorem Fit.sh {k j : Nat} {br : List (Wd × List It)} {it ahead : List It} {o : Wd} (h : Fit k (br ++ [(o, ahead)], it)) (hne : it ≠ []) : Fit (k + j) (br, ahead ++ [fin o it]) := by
  have e : (br ++ [(o, ahead)]).length = br.length + 1 := by simp
  have hb : (br ++ [(o, ahead)]).length ≤ k := h.b
  have hd : (br ++ [(o, ahead)]).length + dpL it ≤ k + 1 := h.d
  have hm : (o, ahead) ∈ br ++ [(o, ahead)] := by simp
  have hda : (br ++ [(o, ahead)]).length + dpL ahead ≤ k + 1 := h.db _ hm
  obtain ⟨va, oo, ho⟩ := h.vb _ hm
  have vf : vI (fin o it) := by
    rcases ho with rfl | ⟨m, rfl⟩
    · show vI (.back it)
      rw [vI]
      exact ⟨hne, h.v⟩
    · show vI (.times m it)
      rw [vI]
      exact ⟨oo, hne, h.v⟩
  have df : dpI (fin o it) = dpL it + 1 := by
    rcases ho with rfl | ⟨m, rfl⟩
    · show dpI (.back it) = _
      rw [dpI]
    · show dpI (.times m it) = _
      rw [dpI]
  refine ⟨vL_app va (v1 vf), fun x hx => h.vb x (List.mem_append_left _ hx), ?_, ?_, fun x hx => ?_⟩
  · show br.length ≤ _
    omega
  · exact dp_snoc (n := br.length) (by omega) (by omega)
  · have : (br ++ [(o, ahead)]).length + dpL x.2 ≤ k + 1 := h.db x (List.mem_append_left _ hx)
    show br.length + _ ≤ _
    omega
theorem cn_opT (m : Int) : 1 ≤ cn (Wd.opT m).s := by
  unfold cn
  show 1 ≤ (L (st m ++ ("*(" : Str))).count 40
  rw [L_app, topen, List.count_append]
  have : List.count 40 [42, 40] = 1 := by decide
  omega
theorem cn_opB : 1 ≤ cn Wd.opB.s := by decide
theorem Fit.step {k : Nat} {s : Mst} {w : Wd} (h : Fit k s) (hw : w.ok) (hs : ¬ Stuck s (some w)) : Fit (k + cn w.s) (stp s w) := by
  obtain ⟨br, it⟩ := s
  cases w with
  | clip r f l => exact h.leaf (y := .clip r f l) (by rw [vI]; exact hw) (by rw [dpI]; omega)
  | part n => exact h.leaf (y := .part n []) (by rw [vI]; exact hw) (by rw [dpI, dpL]; omega)
  | fade m => exact h.leaf (y := .fade m) (by rw [vI]; exact hw) (by rw [dpI]; omega)
  | opT m => exact h.opn (.inr ⟨m, rfl⟩) hw (cn_opT m)
  | opB => exact h.opn (.inl rfl) hw cn_opB
  | sh =>
    have h1 : br ≠ [] := fun z => hs (.inl z)
    have h2 : it ≠ [] := fun z => hs (.inr z)
    rcases List.eq_nil_or_concat br with rfl | ⟨l, ⟨o, ahead⟩, rfl⟩
    · exact absurd rfl h1
    · rw [List.concat_eq_append] at h ⊢
      have e : stp (l ++ [(o, ahead)], it) .sh = (l, ahead ++ [fin o it]) := by simp [stp]
      rw [e]
      exact h.sh h2
theorem cns_take {ws : List Str} {i : Nat} {x : Str} (hx : ws[i]? = some x) : cns (ws.take (i + 1)) = cns (ws.take i) + cn x := by
  unfold cns
  rw [take_one hx, List.map_append, List.sum_append]
  simp
/-- in a text as many as in its words -/
theorem cn_jn : ∀ l : List (List Nat), List.count 40 (jn [32] l) = (l.map (List.count 40)).sum
  | [] => rfl
  | [a] => by simp [jn]
  | a :: b :: r => by
    rw [jn_two, List.count_append, List.count_cons, cn_jn (b :: r), List.map_cons, List.sum_cons]
    simp
theorem cns_split (x : Str) : cns (Txt.split x ⟨#[32]⟩) = cn x := by
  unfold cn
  rw [split_jn x 32, cn_jn, List.map_map]
  rfl
/-- behind a word that is read there is something at hand -/
theorem stp_ne {s : Mst} {w : Wd} (hs : ¬ Stuck s (some w)) : (stp s w).1 ≠ [] ∨ (stp s w).2 ≠ [] := by
  obtain ⟨br, it⟩ := s
  cases w with
  | clip r f l => exact .inr (by simp [stp])
  | part n => exact .inr (by simp [stp])
  | fade m => exact .inr (by simp [stp])
  | opT m => exact .inl (by simp [stp])
  | opB => exact .inl (by simp [stp])
  | sh =>
    rcases List.eq_nil_or_concat br with rfl | ⟨l, x, rfl⟩
    · exact absurd (.inl rfl) hs
    · rw [List.concat_eq_append]
      exact .inr (by simp [stp])
/-! how many brackets a list's text opens -/
def cw : Wd → Nat
  | .opT _ => 1
  | .opB => 1
  | _ => 0
def nb (ws : List Wd) : Nat := (ws.map cw).sum
theorem nb_app (a b : List Wd) : nb (a ++ b) = nb a + nb b := by unfold nb; rw [List.map_append, List.sum_append]
theorem nb_times (m : Int) (ys : List It) : nb (wdI (.times m ys)) = nb (wdL ys) + 1 := by
  rw [wdI]
  show cw (.opT m) + nb (wdL ys ++ [.sh]) = _
  rw [nb_app]
  show 1 + (nb (wdL ys) + 0) = _
  omega
theorem nb_back (ys : List It) : nb (wdI (.back ys)) = nb (wdL ys) + 1 := by
  rw [wdI]
  show cw .opB + nb (wdL ys ++ [.sh]) = _
  rw [nb_app]
  show 1 + (nb (wdL ys) + 0) = _
  omega
theorem nb_snoc (xs : List It) (x : It) : nb (wdL (xs ++ [x])) = nb (wdL xs) + nb (wdI x) := by rw [wdL_app, nb_app, wdL, wdL, List.append_nil]
theorem cn_wd {w : Wd} (h : w.ok) : (L w.s).count 40 = cw w := by
  have z : ∀ {x : Str}, 40 ∉ L x → (L x).count 40 = 0 := fun hx => List.count_eq_zero.mpr hx
  have nm : ∀ {x : Str}, NameOk x → (L x).count 40 = 0 := fun hx => z fun y => by have := hx.sm 40 y; omega
  have nd : ∀ {i : Int}, Num9 i → (L (st i)).count 40 = 0 := fun hi => z fun y => by have := st_digI hi 40 y; omega
  cases w with
  | clip r f l =>
    show (L (clipS r f l)).count 40 = 0
    by_cases e : f = l
    · subst e
      rw [clipS_eq, List.count_append, List.count_cons, nm h.1, nd h.2.1]
      rfl
    · rw [clipS_ne r e, List.count_append, List.count_cons, List.count_append, List.count_cons, nm h.1, nd h.2.1, nd h.2.2]
      rfl
  | part n => exact nm h
  | fade m =>
    show (L (("~" : Str) ++ st m)).count 40 = 0
    rw [L_app, tilde, List.count_append, nd (pos9 h)]
    rfl
  | opT m =>
    show (L (st m ++ ("*(" : Str))).count 40 = 1
    rw [L_app, topen, List.count_append, nd (pos9 h)]
    rfl
  | opB => exact (by decide : (L ("-(" : Str)).count 40 = 1)
  | sh => exact (by decide : (L (")" : Str)).count 40 = 0)
theorem cn_text {xs : List It} (h : vL xs) : cn (txL xs) = nb (wdL xs) := by
  unfold cn nb
  rw [txL_words h, cn_jn, List.map_map]
  congr 1
  exact List.map_congr_left fun w hw => cn_wd (wd_okL h w hw)
def mb : Nat → Nat
  | 0 => 0
  | e + 1 => 3 * mb e + 1
theorem mb_pred {e : Nat} (h : 1 ≤ e) : mb e = 3 * mb (e - 1) + 1 := by
  cases e with
  | zero => omega
  | succ e => rfl
theorem part_le (x : Str) (c : Nat) : (Txt.partition x ⟨#[c]⟩).1.length ≤ x.length := by
  by_cases h : c ∈ L x
  · obtain ⟨a, b, e, ha⟩ := List.eq_append_cons_of_mem h
    rw [← L_len, part_head e ha, ← L_len, e, List.length_append]
    omega
  · rw [part_none h]
    exact Nat.le_refl _
theorem jn_le (c : Nat) : ∀ {l : List (List Nat)} {p : List Nat}, p ∈ l → p.length ≤ (jn [c] l).length
  | [], _, h => (nomatch h)
  | [a], p, h => by rw [List.mem_singleton.mp h]; simp [jn]
  | a :: b :: r, p, h => by
    rw [jn_two, List.length_append, List.length_cons]
    rcases List.mem_cons.mp h with rfl | z
    · omega
    · have := jn_le c z
      omega
theorem split_le {x : Str} {c : Nat} {p : Str} (h : p ∈ Txt.split x ⟨#[c]⟩) : p.length ≤ x.length := by
  rw [← L_len, ← L_len, split_jn x c]
  exact jn_le c (List.mem_map.mpr ⟨p, h, rfl⟩)
theorem split_len_le (x : Str) (c : Nat) : (Txt.split x ⟨#[c]⟩).length ≤ x.length + 1 := by
  have := jn_len c ((Txt.split x ⟨#[c]⟩).map L) (fun z => split_ne x c (List.map_eq_nil_iff.mp z))
  rw [← split_jn x c, List.length_map, L_len] at this
  omega
/-- no item's word -/
def isLeaf : Wd → Prop
  | .clip _ _ _ => True
  | .part _ => True
  | .fade _ => True
  | _ => False
def NoLeaf (x : Str) : Prop := ∀ w : Wd, w.ok → isLeaf w → x ≠ w.s
theorem Bad.noLeaf {x : Str} (h : Bad x) : NoLeaf x := fun w hw _ => h w hw
theorem NoLeaf.ofWd {w : Wd} (hw : w.ok) (hl : ¬ isLeaf w) : NoLeaf w.s := fun u hu hlu e => by
  cases w with
  | clip r f l => exact hl trivial
  | part n => exact hl trivial
  | fade m => exact hl trivial
  | opT m =>
    have h1 : u ≠ .opB := fun z => by rw [z] at hlu; exact hlu
    have h2 : ∀ k, u ≠ .opT k := fun k z => by rw [z] at hlu; exact hlu
    have e1 := Wd.noT hu h1 h2
    rw [← e] at e1
    have e2 : Txt.endswith (Wd.opT m).s "*(" = true := ends_iff.mpr ⟨L (st m), by show L (st m ++ ("*(" : Str)) = _; rw [L_app]⟩
    rw [e2] at e1
    cases e1
  | opB =>
    have h1 : u ≠ .opB := fun z => by rw [z] at hlu; exact hlu
    have e1 := of_decide_eq_false (Wd.neB hu h1)
    exact e1 (by rw [← e]; rfl)
  | sh =>
    have h1 : u ≠ .sh := fun z => by rw [z] at hlu; exact hlu
    have e1 := of_decide_eq_false (Wd.noSh hu h1)
    exact e1 (by rw [← e]; rfl)
theorem NoLeaf.name {x : Str} (h : NoLeaf x) : ¬ NameOk x := fun z => h (.part x) z trivial rfl
theorem NoLeaf.clip {x r : Str} {f l : Int} (h : NoLeaf x) (hr : NameOk r) (hf : Num9 f) (hl : Num9 l) : x ≠ clipS r f l := h (.clip r f l) ⟨hr, hf, hl⟩ trivial
theorem NoLeaf.fade {x y : Str} (h : NoLeaf x) (hy : NumT y) (h0 : y ≠ ("0" : Str)) : L x ≠ 126 :: L y := fun e => by
  obtain ⟨i, hi, rfl⟩ := hy.st
  have : i ≠ 0 := fun z => h0 ((st0 hi).mpr z)
  exact h (.fade i) ⟨by have := hi.1; omega, hi.2⟩ trivial (ext (by show _ = L (("~" : Str) ++ st i); rw [L_app, tilde]; exact e))
end KR

set_option Elab.async false
set_option linter.all false
set_option maxRecDepth 100000
/-! The head in one go: the top's run by the kernel at once, over the tree, no state written down. -/
namespace Hd
open PySem PySem.W PyProof.Rows
/-- the top's run over the tree -/
def run (tb : String → Option Builtin) (p : Program) (w : World) (m : Nat) (ann : Option Value) : Nat → SharedT → Thread → Option SharedT
  | 0, _, _ => none
  | n + 1, s, t => match through t with
    | true => some s
    | false => match stepOk m ann t with
      | false => none
      | true => match stepT (denote tb) p w s t with
        | none => none
        | some x => run tb p w m ann n x.1 x.2
theorem run_of {tb : String → Option Builtin} {p : Program} {w : World} {m : Nat} {ann : Option Value} {r : SharedT} :
    ∀ (n : Nat) (s : SharedT) (t : Thread), run tb p w m ann n s t = some r → topRun tb p w m ann n s.abs t = some r.abs := by
  intro n
  induction n with
  | zero => intro s t h; cases h
  | succ n ih =>
    intro s t h
    simp only [run] at h
    simp only [topRun]
    cases a : through t
    · simp only [a] at h ⊢
      cases b : stepOk m ann t
      · simp only [b] at h; cases h
      · simp only [b] at h ⊢
        cases c : stepT (denote tb) p w s t with
        | none => simp only [c] at h; cases h
        | some x =>
          simp only [c] at h
          rw [stepT_spec (s' := x.1) (t' := x.2) c]
          exact ih _ _ h
    · simp only [a] at h ⊢
      cases h; rfl
/-- the heap ahead of the top, as a tree -/
noncomputable def bt (P : Params) : BT :=
  .node (boot_o_0 P)
    (.node (boot_o_1 P) (.node (boot_o_3 P) (.node (boot_o_7 P) .nil .nil) .nil) (.node (boot_o_5 P) (.node (boot_o_9 P) .nil .nil) .nil))
    (.node (boot_o_2 P) (.node (boot_o_4 P) (.node (boot_o_8 P) .nil .nil) .nil) (.node (boot_o_6 P) (.node (boot_o_10 P) .nil .nil) .nil))
theorem boot_size (w : World) : ((boot_heap w.params).isNs mainGlobals && (#[] : Array GenState).size == 0, (boot_heap w.params).objs.size, (boot_heap w.params).nsMap mainGlobals "__annotations__") = (true, 11, some (.ref 6)) := by kernel_rfl
noncomputable def tests (p : Program) (w : World) (s : Shared) : Bool :=
  staticsOk (importedModules p.main.body) (boot_heap w.params) s.heap && namesBound p s.heap && gensDone s && laidKept (boot_heap w.params) s.heap
noncomputable def look (p q : Program) (loose : List Str) (Xt : Shared → Bool) (N : Nat) (w : World) (os : OsState) :=
  (run treeTable p w 11 (some (.ref 6)) N ⟨bt w.params, 11, (boot_heap w.params).life, #[], boot_drawn, boot_toks, os⟩ (topStub p)).map fun s =>
    (tests p w s.abs, openSeen q loose (importedModules p.main.body) Xt true s.abs, s.abs)
theorem left_of {p q : Program} {loose : List Str} {Xt : Shared → Bool} {α : Type} {Yf : Shared → α} {Ya : World → α} {N : Nat}
    (e : opening p = plainProg p.main.scope.names) (hN : Nat.ble 600 N = true) (f : ∀ s, fenceModules? p s = some s)
    (h : ∀ w, (fun os => (look p q loose Xt N w os).map fun x => (x.1, x.2.1, Yf x.2.2)) = fun _ => some (true, openGood q loose, Ya w)) : LeftO p q loose Xt Yf Ya N true := by
  intro w
  have o := boot_open e hN f w
  obtain ⟨⟨hp, gs, d, k, os⟩, e1, e2⟩ := Option.map_eq_some_iff.mp o
  simp only [Prod.mk.injEq] at e2
  obtain ⟨rfl, rfl, rfl, rfl⟩ := e2
  have z := boot_size w
  simp only [Prod.mk.injEq] at z
  obtain ⟨z1, z2, z3⟩ := z
  obtain ⟨x, l1, l2⟩ := Option.map_eq_some_iff.mp (congrFun (h w) os)
  unfold look at l1
  obtain ⟨s, r, rfl⟩ := Option.map_eq_some_iff.mp l1
  simp only [Prod.mk.injEq] at l2
  obtain ⟨t1, t2, t3⟩ := l2
  have R := run_of _ _ _ r
  have E : SharedT.abs ⟨bt w.params, 11, (boot_heap w.params).life, #[], boot_drawn, boot_toks, os⟩ = ⟨boot_heap w.params, #[], boot_drawn, boot_toks, os⟩ := rfl
  rw [E] at R
  have T : topFrom treeTable p w N ⟨boot_heap w.params, #[], boot_drawn, boot_toks, os⟩ = some s.abs := by
    unfold topFrom
    simp only [z1, z2, z3, R, Option.bind_some]
    unfold tests at t1
    simp only [t1]
  show (openEnds treeTable p w N).map _ = _
  unfold openEnds
  rw [e1]
  simp only [Option.bind_some, T, Option.map_some, t2, t3]
/-- a statement that names two things, so that their twins are laid -/
def yes {α β : Type} (_ : α) (_ : β) : Bool := true
/-- the same by twins -/
theorem left_tw {p q : Program} {loose : List Str} {Xt : Shared → Bool} {α : Type} {Yf : Shared → α} {Ya : World → α} {N : Nat} {L : World → OsState → Option _} {g : _}
    (hl : look p q loose Xt N = L) (hg : openGood q loose = g) (e : opening p = plainProg p.main.scope.names) (hN : Nat.ble 600 N = true) (f : ∀ s, fenceModules? p s = some s)
    (h : ∀ w, (fun os => (L w os).map fun x => (x.1, x.2.1, Yf x.2.2)) = fun _ => some (true, g, Ya w)) : LeftO p q loose Xt Yf Ya N true := by
  subst hl hg
  exact left_of e hN f h
end Hd

set_option linter.all false
set_option maxRecDepth 100000
set_option maxHeartbeats 1000000
namespace K06
open PySem L2 G
def smallS : Str := "abcdefghijklmnopqrstuvwxyz"
theorem smallL : smallS.cps.toList = [97, 98, 99, 100, 101, 102, 103, 104, 105, 106, 107, 108, 109, 110, 111, 112, 113, 114, 115, 116, 117, 118, 119, 120, 121, 122] := by decide
theorem smallLen : smallS.length ≤ sizeLine := small (by show smallS.cps.toList.length ≤ 1000; rw [smallL]; decide)
def lc (x : Int) : Nat := 97 + (x % 26).toNat
theorem small_get : ∀ k : Nat, k < 26 → smallS.cps.toList[k]? = some (97 + k) := by
  rw [smallL]
  decide
theorem lc_at (x : Int) : atI smallS.cps.toList (x % 26) = some (lc x) ∧ lc x < 0x110000 := by
  have h0 : 0 ≤ x % 26 := by omega
  have h1 : x % 26 < 26 := by omega
  have e : x % 26 = (((x % 26).toNat : Nat) : Int) := by omega
  have q := atI_nat (small_get (x % 26).toNat (by omega))
  rw [← e] at q
  exact ⟨q, by unfold lc; omega⟩
theorem app_list (a b : Str) : (a ++ b).cps.toList = a.cps.toList ++ b.cps.toList := by
  show (a.cps ++ b.cps).toList = _
  simp
theorem sl_to {x : Str} {j : Int} (h0 : 0 ≤ j) (h : j ≤ x.length) : (Txt.slice x none (some j)).cps.toList = x.cps.toList.take j.toNat := by
  have e := eq_of_beq (PyProof.Rows.slice_closes_toL h0 h)
  rw [e]
  simp
theorem sl_from {x : Str} {i : Int} (h0 : 0 ≤ i) (h : i ≤ x.length) : (Txt.slice x (some i) none).cps.toList = x.cps.toList.drop i.toNat := by
  have e := PyProof.Rows.slice_from_eq h0 h rfl
  rw [e]
  have l : x.cps.toList.length = x.length := rfl
  simp only
  rw [List.take_of_length_le]
  rw [List.length_drop, l]
  omega
theorem len_cps (x : Str) : x.cps.toList.length = x.length := rfl
/-- a name that differs at one place -/
def nmAt (stem : Str) (at' size : Int) (c : Nat) : Str := Txt.slice (Txt.slice stem none (some at') ++ ⟨#[c]⟩ ++ Txt.slice stem (some (at' + 1)) none) none (some size)
theorem nmAt_get {stem : Str} {at' size : Int} {c : Nat} (hl : stem.length = 8) (h0 : 0 ≤ at') (h1 : at' < size) (h2 : size ≤ 8) : (nmAt stem at' size c).cps.toList[at'.toNat]? = some c := by
  have l1 : (Txt.slice stem none (some at')).cps.toList = stem.cps.toList.take at'.toNat := sl_to h0 (by omega)
  have l2 : (Txt.slice stem (some (at' + 1)) none).cps.toList = stem.cps.toList.drop (at' + 1).toNat := sl_from (by omega) (by omega)
  have L : (Txt.slice stem none (some at') ++ (⟨#[c]⟩ : Str) ++ Txt.slice stem (some (at' + 1)) none).cps.toList = stem.cps.toList.take at'.toNat ++ [c] ++ stem.cps.toList.drop (at' + 1).toNat := by
    rw [app_list, app_list, l1, l2]
  have n8 : stem.cps.toList.length = 8 := hl
  have len : (Txt.slice stem none (some at') ++ (⟨#[c]⟩ : Str) ++ Txt.slice stem (some (at' + 1)) none).length = 8 := by
    rw [← len_cps, L, List.length_append, List.length_append, List.length_take, List.length_drop, n8]
    simp only [List.length_cons, List.length_nil]
    omega
  unfold nmAt
  rw [sl_to (by omega) (by omega), L, List.getElem?_take, if_pos (by omega), List.append_assoc, List.getElem?_append_right (by rw [List.length_take, n8]; omega), List.length_take, n8]
  rw [show at'.toNat - min at'.toNat 8 = 0 by omega]
  rfl
theorem nodup_map {α β : Type} (f : α → β) : ∀ l : List α, l.Nodup → (∀ x ∈ l, ∀ y ∈ l, f x = f y → x = y) → (l.map f).Nodup
  | [], _, _ => List.nodup_nil
  | a :: r, h, inj => by
    rw [List.map_cons, List.nodup_cons]
    obtain ⟨h1, h2⟩ := List.nodup_cons.mp h
    refine ⟨fun hm => ?_, nodup_map f r h2 fun x hx y hy e => inj x (List.mem_cons_of_mem _ hx) y (List.mem_cons_of_mem _ hy) e⟩
    obtain ⟨b, hb, e⟩ := List.mem_map.mp hm
    exact h1 (inj b (List.mem_cons_of_mem _ hb) a (List.mem_cons_self ..) e ▸ hb)
theorem nodup_one {stem : Str} {at' size x : Int} {m : Nat} (hl : stem.length = 8) (h0 : 0 ≤ at') (h1 : at' < size) (h2 : size ≤ 8) (hm : m ≤ 13) : ((List.range m).map fun (i : Nat) => nmAt stem at' size (lc (x + 5 * (0 + (i : Int))))).Nodup := by
  refine nodup_map _ _ List.nodup_range fun a ha b hb e => ?_
  have z := nmAt_get (c := lc (x + 5 * (0 + (a : Int)))) hl h0 h1 h2
  rw [e, nmAt_get hl h0 h1 h2] at z
  have z := Option.some.inj z
  have ha := List.mem_range.mp ha
  have hb := List.mem_range.mp hb
  unfold lc at z
  omega
theorem nodup_pre {stem : Str} {m : Nat} (hl : stem.length = 8) (hm : m < 9) : ((List.range m).map fun (i : Nat) => Txt.slice stem none (some (0 + (i : Int) + 1))).Nodup := by
  have n8 : stem.cps.toList.length = 8 := hl
  refine nodup_map _ _ List.nodup_range fun a ha b hb e => ?_
  have ha := List.mem_range.mp ha
  have hb := List.mem_range.mp hb
  have z := congrArg (fun s : Str => s.cps.toList.length) e
  rw [sl_to (by omega) (by omega), sl_to (by omega) (by omega), List.length_take, List.length_take, n8] at z
  omega
theorem nm_ok {stem : Str} {at' size : Int} {c : Nat} (hl : stem.length = 8) (hs : ∀ c ∈ stem.cps.toList, 97 ≤ c ∧ c ≤ 122) (hc : 97 ≤ c ∧ c ≤ 122) (h0 : 0 ≤ at') (h1 : at' < size) (h2 : size ≤ 8) : KW.NameOk (nmAt stem at' size c) := by
  have l1 : (Txt.slice stem none (some at')).cps.toList = stem.cps.toList.take at'.toNat := sl_to h0 (by omega)
  have l2 : (Txt.slice stem (some (at' + 1)) none).cps.toList = stem.cps.toList.drop (at' + 1).toNat := sl_from (by omega) (by omega)
  have L : (Txt.slice stem none (some at') ++ (⟨#[c]⟩ : Str) ++ Txt.slice stem (some (at' + 1)) none).cps.toList = stem.cps.toList.take at'.toNat ++ [c] ++ stem.cps.toList.drop (at' + 1).toNat := by
    rw [app_list, app_list, l1, l2]
  have n8 : stem.cps.toList.length = 8 := hl
  have len : (Txt.slice stem none (some at') ++ (⟨#[c]⟩ : Str) ++ Txt.slice stem (some (at' + 1)) none).length = 8 := by
    rw [← len_cps, L, List.length_append, List.length_append, List.length_take, List.length_drop, n8]
    simp only [List.length_cons, List.length_nil]
    omega
  have e : (nmAt stem at' size c).cps.toList = (stem.cps.toList.take at'.toNat ++ [c] ++ stem.cps.toList.drop (at' + 1).toNat).take size.toNat := by
    unfold nmAt
    rw [sl_to (by omega) (by omega), L]
  have el : (nmAt stem at' size c).length = size.toNat := by
    rw [← len_cps, e, List.length_take, ← L, len_cps, len]
    omega
  refine ⟨by omega, by omega, fun x hx => ?_⟩
  have hx : x ∈ (nmAt stem at' size c).cps.toList := hx
  rw [e] at hx
  rcases List.mem_append.mp (List.mem_of_mem_take hx) with z | z
  · rcases List.mem_append.mp z with z | z
    · exact hs x (List.mem_of_mem_take z)
    · rw [List.mem_singleton.mp z]
      exact hc
  · exact hs x (List.mem_of_mem_drop z)
theorem pre_ok {stem : Str} {k : Int} (hl : stem.length = 8) (hs : ∀ c ∈ stem.cps.toList, 97 ≤ c ∧ c ≤ 122) (h0 : 1 ≤ k) (h1 : k ≤ 8) : KW.NameOk (Txt.slice stem none (some k)) := by
  have n8 : stem.cps.toList.length = 8 := hl
  have l1 : (Txt.slice stem none (some k)).cps.toList = stem.cps.toList.take k.toNat := sl_to (by omega) (by omega)
  have el : (Txt.slice stem none (some k)).length = k.toNat := by
    rw [← len_cps, l1, List.length_take, n8]
    omega
  refine ⟨by omega, by omega, fun x hx => ?_⟩
  have hx : x ∈ (Txt.slice stem none (some k)).cps.toList := hx
  rw [l1] at hx
  exact hs x (List.mem_of_mem_take hx)
theorem lc_sm (x : Int) : 97 ≤ lc x ∧ lc x ≤ 122 := by unfold lc; omega
theorem stem_sm {xs : List Int} : ∀ c ∈ (Txt.join (Str.ofString "") (xs.map fun x => (⟨#[lc x]⟩ : Str))).cps.toList, 97 ≤ c ∧ c ≤ 122 := by
  intro c hc
  have hc : c ∈ TX.L (Txt.join (Str.ofString "") (xs.map fun x => (⟨#[lc x]⟩ : Str))) := hc
  rw [TX.join_L] at hc
  have key : ∀ l : List (List Nat), c ∈ TX.jn [] l → ∃ p ∈ l, c ∈ p := by
    intro l h
    cases l with
    | nil => exact (nomatch h)
    | cons a r =>
      rw [TX.jn] at h
      rcases List.mem_append.mp h with z | z
      · exact ⟨a, List.mem_cons_self .., z⟩
      · obtain ⟨q, hq, hcq⟩ := List.mem_flatten.mp z
        obtain ⟨p, hp, rfl⟩ := List.mem_map.mp hq
        exact ⟨p, List.mem_cons_of_mem _ hp, by simpa using hcq⟩
  obtain ⟨p, hp, hcp⟩ := key _ hc
  rw [List.map_map] at hp
  obtain ⟨x, _, rfl⟩ := List.mem_map.mp hp
  have : c ∈ [lc x] := hcp
  rw [List.mem_singleton.mp this]
  exact lc_sm x
end K06

set_option linter.all false
set_option maxRecDepth 100000
set_option maxHeartbeats 1000000
namespace K06
open PySem L2 G
def top (i : Nat) : Stmt := PySem.Challenge.pw_leadersplice_k06_no_list.main.body.getD i (.Pass ⟨0, 0, 0, 0⟩)
abbrev s_NoReel_init : Stmt := inClass (top 3) 0
abbrev s_NoFrame_init : Stmt := inClass (top 4) 0
abbrev s_NoName_init : Stmt := inClass (top 5) 0
abbrev s_NoList_init : Stmt := inClass (top 6) 0
abbrev s_TooShort_init : Stmt := inClass (top 9) 0
abbrev s_has_only : Stmt := top 17
abbrev s_are_figures : Stmt := top 18
abbrev s_is_name : Stmt := top 19
abbrev s_is_number : Stmt := top 20
abbrev s_read_list : Stmt := top 25
abbrev s_shut : Stmt := top 26
abbrev s_read_opening : Stmt := top 27
abbrev s_read_item : Stmt := top 28
abbrev s_read_clip : Stmt := top 29
abbrev s_is_count : Stmt := top 30
abbrev s__law_cell : Stmt := top 32
abbrev s__law_numbers : Stmt := top 33
abbrev s__law_only : Stmt := top 34
abbrev s__law_names : Stmt := top 35
abbrev s__law_reels : Stmt := top 36
abbrev s__law_items : Stmt := top 37
abbrev s__law_text : Stmt := top 38
abbrev s__law_number : Stmt := top 39
abbrev s__law_is_name : Stmt := top 40
abbrev s__law_clip : Stmt := top 41
abbrev s__law_item : Stmt := top 42
abbrev s__law_opens : Stmt := top 43
abbrev s__law_read : Stmt := top 44
abbrev s__law_odd : Stmt := top 45
abbrev s__law_made : Stmt := top 46
abbrev s__law_right : Stmt := top 47
abbrev s_law : Stmt := top 48

/-- a text's length -/
theorem big {n : Nat} (h : n ≤ 100000) : n ≤ sizeLine := by
  have zl : sizeLine = 16777216 := sizeLine_eq
  omega
section
variable {P : Program} {w : World} {K : PySem.W.Frag} {mg : Str → Option Value} {base : Heap}
/-! ### has_only -/
def spHas : Sp := fun vs H Q _ => ∃ x y : Str, vs = [.str x, .str y] ∧ x.length ≤ 100000 ∧ ∀ H', Same H H' → Q (.bl (x.cps.toList.all fun c => decide (c ∈ y.cps.toList))) H'
theorem scHas : FnScope ["text", "signs"] ["text", "signs"] (defScope s_has_only) := ⟨rfl, rfl, rfl, by decide +kernel, rfl, by decide +kernel, by decide +kernel⟩
theorem ok_has {f : Addr} {fd : FuncData} (F : Fun K "has_only" "has_only" s_has_only f fd) (n_all : mg "all" = none) : FnOk P w K mg base CX0 1 f fd ["text", "signs"] spHas := by
  refine F.ok scHas (fun vs H Q E h => ?_) (fun cdv A outer s H vs Q E hr h => ?_)
  · obtain ⟨x, y, rfl, _⟩ := h
    rfl
  obtain ⟨x, y, rfl, hx, q⟩ := h
  refine ⟨_, QSs.h (ss_one (s_ret (e_b call_all n_all PyProof.Rows.boot_all (a_cons (e_comp ["signs"] [1] [("signs", s.heap.objs.size + 1)] rfl ⟨rfl, rfl, rfl, rfl, trivial⟩ ⟨rfl, trivial⟩ (i_str (e_v 0)) (fun _ _ _ _ => (e_cmp op_in_str (e_n 0) (e_n 1)))) a_nil)))), ?_⟩
  refine ⟨_, rfl, x, rfl, comp_signs (fun c => V.bl (decide (c ∈ y.cps.toList))) (big hx) (fun c H' R hS hR => ?_) (fun D H' hS hD => ?_)⟩
  · refine ⟨_, rfl, _, rfl, _, _, rfl, rfl, ?_⟩
    rw [PySem.StrLaws.found_one]
    exact hR H' (Same.refl _)
  · refine ⟨D, x.cps.toList.map fun c => decide (c ∈ y.cps.toList), rfl, SqL.of ?_, rfl, ?_⟩
    · rw [List.map_map]
      exact hD
    · have e : (x.cps.toList.map fun c => decide (c ∈ y.cps.toList)).all id = x.cps.toList.all fun c => decide (c ∈ y.cps.toList) := by
        rw [List.all_map]
        rfl
      rw [e]
      exact q H' hS
/-! ### is_name, are_figures, is_number, is_count -/
def nmB (x : Str) : Bool := decide (1 ≤ x.length) && decide (x.length ≤ 8) && x.cps.toList.all fun c => decide (c ∈ smallS.cps.toList)
def spName : Sp := fun vs H Q _ => ∃ x, vs = [.str x] ∧ x.length ≤ 100000 ∧ ∀ H', Same H H' → Q (.bl (nmB x)) H'
theorem scName : FnScope ["value"] ["value"] (defScope s_is_name) := ⟨rfl, rfl, rfl, by decide +kernel, rfl, by decide +kernel, by decide +kernel⟩
theorem ok_name {f : Addr} {fd : FuncData} {t1 t2 : Tok} (F : Fun K "is_name" "is_name" s_is_name f fd) (dHas : Def P w K mg base CX0 "has_only" 1 ["text", "signs"] spHas)
    (mSMALL : mg "SMALL_LETTERS" = some (.str smallS t1)) (mLONG : mg "LONGEST_NAME" = some (.int 8 t2)) (n_isinstance : mg "isinstance" = none) (n_str : mg "str" = none) (n_len : mg "len" = none) : FnOk P w K mg base CX0 2 f fd ["value"] spName := by
  refine F.ok scName (fun vs H Q E h => ?_) (fun cdv A outer s H vs Q E hr h => ?_)
  · obtain ⟨x, rfl, _⟩ := h
    rfl
  obtain ⟨x, rfl, hx, q⟩ := h
  refine ⟨_, QSs.h (ss_one (s_ret (e_and (e_b call_isinst n_isinstance PyProof.Rows.boot_isinstance (a_cons (e_v 0) (a_cons (e_bt (v := .ty "str") n_str PyProof.Rows.boot_str rfl) a_nil))) (e_and (e_chain op_le op_le e_int (e_b call_len_str n_len PySem.boot_len (a_cons (e_v 0) a_nil)) (e_gl (v := .int 8) mLONG ⟨_, rfl⟩)) (e_one (e_call dHas hr pass0 (a_cons (e_v 0) (a_cons (e_gl (v := .str smallS) mSMALL ⟨_, rfl⟩) a_nil)))))))), ?_⟩
  refine ⟨_, rfl, _, _, _, true, rfl, TyOf.str x, .inr ⟨_, rfl⟩, kit_self, true, rfl, iteT ⟨_, rfl, x, rfl, big hx, _, _, rfl, rfl, _, rfl, ?_⟩⟩
  have e1 : decide ((1 : Int) ≤ ((x.length : Nat) : Int)) = decide (1 ≤ x.length) := decide_eq_decide.mpr (by omega)
  have e2 : decide (((x.length : Nat) : Int) ≤ 8) = decide (x.length ≤ 8) := decide_eq_decide.mpr (by omega)
  refine ite2 (fun c1 => ?_) (fun c1 => ?_)
  · refine ⟨_, _, rfl, rfl, _, rfl, ?_⟩
    rw [e1] at c1
    refine ite2 (fun c2 => ?_) (fun c2 => ?_)
    · rw [e2] at c2
      refine ⟨_, rfl, x, smallS, rfl, hx, fun H' hS => ?_⟩
      have z := q H' hS
      rw [nmB, c1, c2, Bool.true_and, Bool.true_and] at z
      exact z
    · rw [e2] at c2
      have z := q H (Same.refl _)
      rw [nmB, c1, Bool.eq_false_iff.mpr c2, Bool.true_and, Bool.false_and] at z
      exact z
  · rw [e1] at c1
    have z := q H (Same.refl _)
    rw [nmB, Bool.eq_false_iff.mpr c1, Bool.false_and, Bool.false_and] at z
    exact ⟨_, rfl, iteF z⟩
def spFig : Sp := fun vs H Q _ => ∃ x : Str, vs = [.str x] ∧ x.length ≤ 100000 ∧ ∀ H', Same H H' → Q (.bl (x.cps.toList.all fun c => decide (c ∈ K01.figS.cps.toList))) H'
theorem scFig : FnScope ["text"] ["text"] (defScope s_are_figures) := ⟨rfl, rfl, rfl, by decide +kernel, rfl, by decide +kernel, by decide +kernel⟩
theorem ok_fig {f : Addr} {fd : FuncData} {t1 : Tok} (F : Fun K "are_figures" "are_figures" s_are_figures f fd) (dHas : Def P w K mg base CX0 "has_only" 1 ["text", "signs"] spHas) (mFIG : mg "FIGURES" = some (.str K01.figS t1)) : FnOk P w K mg base CX0 2 f fd ["text"] spFig := by
  refine F.ok scFig (fun vs H Q E h => ?_) (fun cdv A outer s H vs Q E hr h => ?_)
  · obtain ⟨x, rfl, _⟩ := h
    rfl
  obtain ⟨x, rfl, hx, q⟩ := h
  refine ⟨_, QSs.h (ss_one (s_ret (e_call dHas hr pass0 (a_cons (e_v 0) (a_cons (e_gl (v := .str K01.figS) mFIG ⟨_, rfl⟩) a_nil))))), ?_⟩
  exact ⟨_, rfl, x, K01.figS, rfl, hx, q⟩
def nuB (x : Str) : Bool := (decide (1 ≤ x.length) && decide (x.length ≤ 9)) && (x.cps.toList.all fun c => decide (c ∈ K01.figS.cps.toList)) && (decide (x.cps.toList = [48]) || decide (x.cps.toList[0]? ≠ some 48))
def spNumB : Sp := fun vs H Q _ => ∃ x : Str, vs = [.str x] ∧ x.length ≤ 100000 ∧ ∀ H', Same H H' → Q (.bl (nuB x)) H'
theorem dec_str0 (x : Str) : decide (V.str x = V.str "0") = decide (x.cps.toList = [48]) := decide_eq_decide.mpr ⟨fun h => by rw [V.str.inj h]; decide, fun h => by rw [TX.ext (y := ("0" : Str)) (h.trans (by decide))]⟩
theorem scIsNum : FnScope ["text"] ["text"] (defScope s_is_number) := ⟨rfl, rfl, rfl, by decide +kernel, rfl, by decide +kernel, by decide +kernel⟩
theorem ok_isNum {f : Addr} {fd : FuncData} {t1 : Tok} (F : Fun K "is_number" "is_number" s_is_number f fd) (dFig : Def P w K mg base CX0 "are_figures" 2 ["text"] spFig) (mLNUM : mg "LONGEST_NUMBER" = some (.int 9 t1)) (n_len : mg "len" = none) : FnOk P w K mg base CX0 3 f fd ["text"] spNumB := by
  refine F.ok scIsNum (fun vs H Q E h => ?_) (fun cdv A outer s H vs Q E hr h => ?_)
  · obtain ⟨x, rfl, _⟩ := h
    rfl
  obtain ⟨x, rfl, hx, q⟩ := h
  refine ⟨_, QSs.h (ss_cons (s_if (t_w (w_or (t_not (t_chain op_le op_le e_int (e_b call_len_str n_len PySem.boot_len (a_cons (e_v 0) a_nil)) (e_gl (v := .int 9) mLNUM ⟨_, rfl⟩))) (w_or1 (t_not (t_val (e_call dFig hr pass0 (a_cons (e_v 0) a_nil)))))))
      (ss_one (s_ret e_bl))
      ss_nil)
    (ss_one (s_ret (e_or (e_cmp op_eq (e_v 0) e_str) (e_one (e_cmp op_ne (e_ix ix_str (e_v 0) e_int) e_str)))))), ?_⟩
  have e1 : decide ((1 : Int) ≤ ((x.length : Nat) : Int)) = decide (1 ≤ x.length) := decide_eq_decide.mpr (by omega)
  have e2 : decide (((x.length : Nat) : Int) ≤ 9) = decide (x.length ≤ 9) := decide_eq_decide.mpr (by omega)
  refine ⟨_, rfl, x, rfl, big hx, _, _, rfl, rfl, _, rfl, ?_⟩
  refine ite2 (fun c1 => ?_) (fun c1 => ?_)
  · rw [e1] at c1
    refine ⟨_, _, rfl, rfl, _, rfl, ?_⟩
    rw [e2]
    by_cases c2 : decide (x.length ≤ 9) = true
    · rw [c2]
      refine iteF ⟨_, rfl, x, rfl, hx, fun H' hS => ⟨_, rfl, ?_⟩⟩
      have z := q H' hS
      rw [nuB, c1, c2] at z
      cases c3 : x.cps.toList.all fun c => decide (c ∈ K01.figS.cps.toList) with
      | false =>
        rw [c3] at z
        exact iteT z
      | true =>
        rw [c3] at z
        refine iteF ⟨_, rfl, rfl, _, rfl, ?_⟩
        rw [dec_str0]
        cases c4 : decide (x.cps.toList = [48]) with
        | true =>
          rw [c4] at z
          exact iteT z
        | false =>
          rw [c4] at z
          have hl : 1 ≤ x.length := of_decide_eq_true c1
          obtain ⟨c, r, ec⟩ : ∃ c r, x.cps.toList = c :: r := by
            cases e : x.cps.toList with
            | nil => rw [← K06.len_cps, e] at hl; exact absurd hl (by decide)
            | cons c r => exact ⟨c, r, rfl⟩
          refine iteF ⟨_, rfl, _, _, c, rfl, rfl, big hx, atI_nat (j := 0) (by rw [ec]; rfl), rfl, ?_⟩
          rw [ec] at z
          have ed : (!decide (V.str ⟨#[c]⟩ = V.str "0")) = decide ((c :: r)[0]? ≠ some 48) := by
            rw [dec_str0]
            show (!decide ([c] = [48])) = decide (some c ≠ some 48)
            by_cases y : c = 48
            · subst y; rfl
            · rw [decide_eq_false (fun h => y (List.cons.inj h).1), decide_eq_true (p := some c ≠ some 48) (fun h => y (Option.some.inj h))]; rfl
          rw [ed]
          exact z
    · rw [Bool.eq_false_iff.mpr c2]
      refine iteT ?_
      have z := q H (Same.refl _)
      rw [nuB, c1, Bool.eq_false_iff.mpr c2] at z
      exact z
  · rw [e1] at c1
    have z := q H (Same.refl _)
    rw [nuB, Bool.eq_false_iff.mpr c1] at z
    exact ⟨_, rfl, iteT z⟩
def coB (x : Str) : Bool := nuB x && !decide (x.cps.toList = [48])
def spCoB : Sp := fun vs H Q _ => ∃ x : Str, vs = [.str x] ∧ x.length ≤ 100000 ∧ ∀ H', Same H H' → Q (.bl (coB x)) H'
theorem scIsCount : FnScope ["text"] ["text"] (defScope s_is_count) := ⟨rfl, rfl, rfl, by decide +kernel, rfl, by decide +kernel, by decide +kernel⟩
theorem ok_isCount {f : Addr} {fd : FuncData} (F : Fun K "is_count" "is_count" s_is_count f fd) (dIsNum : Def P w K mg base CX0 "is_number" 3 ["text"] spNumB) : FnOk P w K mg base CX0 4 f fd ["text"] spCoB := by
  refine F.ok scIsCount (fun vs H Q E h => ?_) (fun cdv A outer s H vs Q E hr h => ?_)
  · obtain ⟨x, rfl, _⟩ := h
    rfl
  obtain ⟨x, rfl, hx, q⟩ := h
  refine ⟨_, QSs.h (ss_one (s_ret (e_and (e_call dIsNum hr pass0 (a_cons (e_v 0) a_nil)) (e_one (e_cmp op_ne (e_v 0) e_str))))), ?_⟩
  refine ⟨_, rfl, x, rfl, hx, fun H' hS => ⟨_, rfl, ?_⟩⟩
  have z := q H' hS
  cases c : nuB x with
  | false =>
    rw [coB, c] at z
    exact iteF z
  | true =>
    rw [coB, c, ← dec_str0] at z
    exact iteT ⟨_, rfl, rfl, z⟩
/-! numbers and names as written -/
theorem nu_st {i : Int} (h : KW.Num9 i) : nuB (TX.st i) = true := by
  obtain ⟨l1, l2⟩ := KW.st_lenI h
  have d : ((TX.st i).cps.toList.all fun c => decide (c ∈ K01.figS.cps.toList)) = true := List.all_eq_true.mpr fun c hc => by
    have := KW.st_digI h c hc
    exact K01.dg_mk this.1 this.2
  unfold nuB
  rw [decide_eq_true l1, decide_eq_true l2, d]
  obtain ⟨n, rfl, _⟩ := h.nat
  rcases Nat.eq_zero_or_pos n with rfl | hn
  · have : (TX.st ((0 : Nat) : Int)).cps.toList = [48] := by decide
    rw [decide_eq_true this]
    rfl
  · obtain ⟨c, r, e, hc⟩ := TX.st_head n hn
    have e : (TX.st (n : Int)).cps.toList = c :: r := e
    rw [e, decide_eq_true (p := (c :: r)[0]? ≠ some 48) (fun z => hc (Option.some.inj z)), Bool.or_true]
    rfl
theorem co_st {i : Int} (h : 1 ≤ i ∧ i < 1000000000) : coB (TX.st i) = true := by
  unfold coB
  rw [nu_st (KW.pos9 h)]
  obtain ⟨n, rfl, _⟩ := (KW.pos9 h).nat
  obtain ⟨c, r, e, hc⟩ := TX.st_head n (by omega)
  have e : (TX.st (n : Int)).cps.toList = c :: r := e
  rw [e, decide_eq_false (fun z => hc (List.cons.inj z).1)]
  rfl
theorem sm_mem {c : Nat} (h : 97 ≤ c ∧ c ≤ 122) : c ∈ smallS.cps.toList := by
  rw [smallL]
  simp only [List.mem_cons, List.not_mem_nil, or_false]
  omega
theorem nm_name {x : Str} (h : KW.NameOk x) : nmB x = true := by
  unfold nmB
  rw [decide_eq_true h.l1, decide_eq_true h.l2]
  exact List.all_eq_true.mpr fun c hc => decide_eq_true (sm_mem (h.sm c hc))
theorem nm_not {x : Str} {c : Nat} (hc : c ∈ x.cps.toList) (h : c < 97 ∨ 122 < c) : nmB x = false := by
  unfold nmB
  have : (x.cps.toList.all fun c => decide (c ∈ smallS.cps.toList)) = false := by
    rw [List.all_eq_false]
    refine ⟨c, hc, fun z => ?_⟩
    have z := of_decide_eq_true z
    rw [smallL] at z
    simp only [List.mem_cons, List.not_mem_nil, or_false] at z
    omega
  rw [this, Bool.and_false]
/-! ### _law_cell -/
def cellOf (ns : List Int) (k : Nat) : Int := ns.getD k 0
def spCell (K : PySem.W.Frag) : Sp := fun vs H Q _ => ∃ (a : Addr) (ns : List Int) (k : Nat), vs = [.ref a, .int (k : Int)] ∧ SqL K H a (ns.map V.int) ∧ ∀ H', Same H H' → Q (.int (cellOf ns k)) H'
theorem cut_one (ns : List Int) (k : Nat) : cutV (ns.map V.int) (some (k : Int)) (some ((k : Int) + 1)) = ((ns.drop k).take 1).map V.int := by
  unfold cutV
  have e : ((k : Int) + 1) = ((k + 1 : Nat) : Int) := by omega
  rw [e, HT.sIx_nat, HT.sIx_nat, List.length_map]
  by_cases h : k < ns.length
  · rw [Nat.min_eq_left (by omega), Nat.min_eq_left (by omega), show k + 1 - k = 1 by omega, ← List.map_drop, ← List.map_take]
  · rw [Nat.min_eq_right (by omega), Nat.min_eq_right (by omega), Nat.sub_self, List.take_zero, List.drop_eq_nil_of_le (by omega)]
    rfl
theorem head_cell (ns : List Int) (k : Nat) : ((((ns.drop k).take 1).map V.int) ++ [V.int 0])[0]? = some (V.int (cellOf ns k)) := by
  by_cases h : k < ns.length
  · have e : cellOf ns k = ns[k] := by
      unfold cellOf
      rw [List.getD_eq_getElem?_getD, List.getElem?_eq_getElem h]
      rfl
    rw [e, List.drop_eq_getElem_cons h]
    rfl
  · have e : cellOf ns k = 0 := by
      unfold cellOf
      rw [List.getD_eq_getElem?_getD, List.getElem?_eq_none (by omega)]
      rfl
    rw [e, List.drop_eq_nil_of_le (by omega)]
    rfl
theorem scCell : FnScope ["_law_script", "_law_k"] ["_law_script", "_law_k"] (defScope s__law_cell) := ⟨rfl, rfl, rfl, by decide +kernel, rfl, by decide +kernel, by decide +kernel⟩
theorem ok_cell {f : Addr} {fd : FuncData} (F : Fun K "_law_cell" "_law_cell" s__law_cell f fd) : FnOk P w K mg base CX0 1 f fd ["_law_script", "_law_k"] (spCell K) := by
  refine F.ok scCell (fun vs H Q E h => ?_) (fun cdv A outer s H vs Q E hr h => ?_)
  · obtain ⟨a, ns, k, rfl, _⟩ := h
    rfl
  obtain ⟨a, ns, k, rfl, hS, q⟩ := h
  refine ⟨_, QSs.h (ss_one (s_ret (e_ix ix_list (e_op op_cat (e_sl sl_list (e_v 0) (o_some (e_v 1)) (o_some (e_op op_add (e_v 1) e_int))) (e_lst (a_cons e_int a_nil))) e_int))), ?_⟩
  refine ⟨_, rfl, _, rfl, _, rfl, _, rfl, _, _, rfl, rfl, _, rfl, a, _, rfl, hS, fun p hp => ⟨(by show 1 ≤ sizeLine; decide), fun r hr' => ?_⟩⟩
  have hpr : p ≠ r := by intro z; subst z; rw [upd_same] at hr'; cases hr'
  refine ⟨p, r, _, _, rfl, rfl, (by rw [upd_ne hpr]; exact upd_same), upd_same, ?_, fun t ht => ?_⟩
  · rw [cut_one, List.length_map, List.length_take]
    show min 1 _ + 1 ≤ sizeLine
    have zl : sizeLine = 16777216 := sizeLine_eq
    omega
  · refine ⟨t, _, 0, _, rfl, rfl, SqL.of upd_same, atI_nat (j := 0) (by rw [cut_one]; exact head_cell ns k), ?_⟩
    exact q _ (((Same.new hp _).trans (Same.new hr' _)).trans (Same.new ht _))
/-! ### _law_numbers -/
def spNum : Sp := fun vs H Q _ => ∃ (c : Int) (n : Nat), vs = [.int c, .int (n : Int)] ∧ n ≤ 1000 ∧ ∀ (l : Addr) (ns : List Int) (H' : Hp), Same H H' → ns.length = n → H l = none → H' l = some (.lst (ns.map V.int)) → Q (.ref l) H'
theorem scNum : FnScope ["_law_cell_here", "_law_many", "_law_found", "_law_number_here", "_law_digits", "_law_k"] ["_law_cell_here", "_law_many"] (defScope s__law_numbers) := ⟨rfl, rfl, rfl, by decide +kernel, rfl, by decide +kernel, by decide +kernel⟩
theorem ok_num {f : Addr} {fd : FuncData} (F : Fun K "_law_numbers" "_law_numbers" s__law_numbers f fd) (n_abs : mg "abs" = none) (n_range : mg "range" = none) (n_int : mg "int" = none) : FnOk P w K mg base CX0 1 f fd ["_law_cell_here", "_law_many"] spNum := by
  refine F.ok scNum (fun vs H Q E h => ?_) (fun cdv A outer s H vs Q E hr h => ?_)
  · obtain ⟨c, n, rfl, _⟩ := h
    rfl
  obtain ⟨c, n, rfl, hn, q⟩ := h
  refine ⟨_, QSs.h (ss_cons (s_set (i := 2) scNum.nd (e_lst a_nil))
    (ss_cons (s_set (i := 3) scNum.nd (e_op op_mod (e_op op_mul (e_op op_add (e_op op_mod (e_v 0) e_int) e_int) e_int) e_int))
    (ss_cons (s_set (i := 4) scNum.nd e_int)
    (ss_cons (s_cut (s_if (t_w (w_or (t_cmp op_lt (e_v 0) e_int) (w_or1 (t_cmp op_ge (e_v 0) (e_op op_pow e_int e_int)))))
      (ss_one (s_set (i := 4) scNum.nd (e_b call_abs n_abs (by decide +kernel) (a_cons (e_v 0) a_nil))))
      ss_nil))
    (ss_cons (s_for PassesOwn.never rfl (i_rng1 n_range (e_v 1)) (g_name (i := 5) scNum.nd)
      (ss_cons (s_set (i := 3) scNum.nd (e_op op_mod (e_op op_add (e_op op_add (e_op op_mul (e_v 3) (e_op op_add (e_op op_mod (e_v 3) e_int) e_int)) (e_op op_mul e_int (e_v 5))) e_int) e_int))
      (ss_cons (s_expr (e_append (e_v 2) (e_ix ix_list (e_lst (a_cons (e_v 3) (a_cons (e_op op_mod (e_v 4) e_int) a_nil))) (e_t call_int1 n_int PyProof.Rows.boot_int (a_cons (e_cmp op_gt (e_v 4) e_int) a_nil)))))
      (ss_one (s_set (i := 4) scNum.nd (e_op op_fdiv (e_v 4) e_int))))))
    (ss_one (s_ret (e_v 2)))))))), ?_⟩
  have zl : sizeLine = 16777216 := sizeLine_eq
  refine ⟨(by show 0 ≤ sizeLine; decide), fun p hp => ?_⟩
  refine ⟨_, rfl, _, _, rfl, rfl, (by show (0 : Int) < 1999999973; decide), _, _, rfl, rfl, _, _, rfl, rfl, .inr ⟨by decide, by decide⟩, _, _, rfl, rfl, (by show (0 : Int) < 1999999973; decide), ?_⟩
  refine ⟨fun σ' H' => ∃ a d : Int, σ' = [some (.int c), some (.int (n : Int)), some (.ref p), some (.int a), some (.int d), none] ∧ 0 ≤ a ∧ a < 1999999973 ∧ H' = upd H p (.lst []), ?_, ?_⟩
  · have b1 : 0 ≤ (c % 1999999973 + 31) * 765432101 % 1999999973 := by omega
    have b2 : (c % 1999999973 + 31) * 765432101 % 1999999973 < 1999999973 := by omega
    refine ⟨_, rfl, _, _, rfl, rfl, _, rfl, ?_⟩
    refine ite2 (fun _ => ?_) (fun _ => ?_)
    · exact iteT ⟨_, rfl, _, rfl, _, _, rfl, b1, b2, rfl⟩
    · refine ⟨_, rfl, _, _, rfl, rfl, ⟨by decide, by decide, by decide⟩, _, _, rfl, rfl, _, rfl, ?_⟩
      refine ite2 (fun _ => ?_) (fun _ => ?_)
      · exact ⟨_, rfl, _, rfl, _, _, rfl, b1, b2, rfl⟩
      · exact ⟨_, _, rfl, b1, b2, rfl⟩
  rintro σ H1 ⟨a, d, rfl, h1, h2, rfl⟩
  refine ⟨_, rfl, (n : Int), rfl, by omega, by omega, for_range (lo := 0) (n := n) (fun i σ H' => ∃ (a d : Int) (ns : List Int) (o : Option V), σ = [some (.int c), some (.int (n : Int)), some (.ref p), some (.int a), some (.int d), o] ∧ 0 ≤ a ∧ a < 1999999973 ∧ ns.length = i ∧ H' p = some (.lst (ns.map V.int)) ∧ Same H H')
    ⟨a, d, [], none, rfl, h1, h2, rfl, upd_same, Same.new hp _⟩ ?_ ?_⟩
  · rintro i σ H' hi ⟨a, d, ns, o, rfl, h1, h2, hl, hpp, hS⟩
    refine ⟨_, rfl, _, rfl, _, _, rfl, rfl, (by show (0 : Int) < 65521; decide), _, _, rfl, rfl, _, _, rfl, rfl, .inl ⟨by omega, by omega⟩, _, rfl, _, _, rfl, rfl, .inl ⟨by decide, by decide⟩, _, _, rfl, rfl, _, _, rfl, rfl, _, _, rfl, rfl, (by show (0 : Int) < 1999999973; decide), ?_⟩
    have z1 : 0 ≤ (a * (a % 65521 + 40487) + 7 * (0 + (i : Int)) + 5) % 1999999973 := Int.emod_nonneg _ (by decide)
    have z2 : (a * (a % 65521 + 40487) + 7 * (0 + (i : Int)) + 5) % 1999999973 < 1999999973 := Int.emod_lt_of_pos _ (by decide)
    obtain ⟨v, hv, hm⟩ := at_list (xs := [V.int ((a * (a % 65521 + 40487) + 7 * (0 + (i : Int)) + 5) % 1999999973), .int (d % 1000000)]) (i := if decide (0 < d) = true then 1 else 0) (by split <;> decide) (by split <;> (show _ < (2 : Int); decide))
    obtain ⟨u, rfl⟩ : ∃ u, v = .int u := by
      simp only [List.mem_cons, List.not_mem_nil, or_false] at hm
      rcases hm with rfl | rfl
      · exact ⟨_, rfl⟩
      · exact ⟨_, rfl⟩
    refine ⟨_, rfl, .inl ⟨rfl, _, SqL.of hpp⟩, _, rfl, _, rfl, _, _, rfl, rfl, (by show (0 : Int) < 1000000; decide), (by show 2 ≤ sizeLine; decide), fun p2 hp2 => ⟨_, rfl, _, _, rfl, rfl, .inr ⟨_, rfl, p2, _, _, .int u, rfl, rfl, SqL.of upd_same, hv, p, _, _, rfl, rfl, Same.new hp2 _ _ _ hpp, (by rw [List.length_map]; omega), ?_⟩⟩⟩
    refine ⟨_, rfl, _, _, rfl, rfl, ⟨by decide, by decide⟩, (a * (a % 65521 + 40487) + 7 * (0 + (i : Int)) + 5) % 1999999973, _, ns ++ [u], _, rfl, z1, z2, (by rw [List.length_append, hl]; rfl), ?_, ?_⟩
    · rw [upd_same, List.map_append]
      rfl
    · intro b o hb
      rw [upd_ne (ne_of_none hb hp)]
      exact Same.new hp2 _ _ _ (hS _ _ hb)
  · rintro σ H' ⟨a, d, ns, o, rfl, h1, h2, hl, hpp, hS⟩
    exact ⟨_, rfl, q p ns H' hS hl hp hpp⟩
end
end K06

set_option linter.all false
set_option maxRecDepth 100000
set_option maxHeartbeats 1000000
namespace K06
open PySem L2 G
theorem get_int {ns : List Int} {j : Nat} (h : j < ns.length) : (ns.map V.int)[j]? = some (.int ns[j]) := by rw [List.getElem?_map, List.getElem?_eq_getElem h]; rfl
theorem cut_take {α : Type} (f : α → V) (ns : List α) (k : Nat) : cutV (ns.map f) none (some (k : Int)) = (ns.take k).map f := by
  unfold cutV
  rw [HT.sIx_nat, HT.sIx_none, List.length_map, List.drop_zero, Nat.sub_zero, ← List.map_take, List.take_eq_take_min (i := k), Nat.min_comm]
section
variable {P : Program} {w : World} {K : PySem.W.Frag} {mg : Str → Option Value} {base : Heap}
def spNames : Sp := fun vs H Q _ => ∃ (c : Int) (m : Nat), vs = [.int c, .int (m : Int)] ∧ m ≤ 13 ∧ ∀ (l : Addr) (ss : List Str) (H' : Hp), Same H H' → ss.length = m → (∀ s ∈ ss, s.length ≤ 100 ∧ Fine s) → ss.Nodup → (∀ s ∈ ss, KW.NameOk s) → H l = none → H' l = some (.lst (ss.map V.str)) → Q (.ref l) H'
theorem scNames : FnScope ["_law_cell_here", "_law_many", "_law_letters", "_law_xs", "_law_stem", "_law_at", "_law_size", "_law_found", "_law_k", "_law_sign"] ["_law_cell_here", "_law_many"] (defScope s__law_names) := ⟨rfl, rfl, rfl, by decide +kernel, rfl, by decide +kernel, by decide +kernel⟩
theorem ok_names {f : Addr} {fd : FuncData} (F : Fun K "_law_names" "_law_names" s__law_names f fd) (dNum : Def P w K mg base CX0 "_law_numbers" 1 ["_law_cell_here", "_law_many"] spNum) (n_range : mg "range" = none) : FnOk P w K mg base CX0 2 f fd ["_law_cell_here", "_law_many"] spNames := by
  refine F.ok scNames (fun vs H Q E h => ?_) (fun cdv A outer s H vs Q E hr h => ?_)
  · obtain ⟨c, m, rfl, _⟩ := h
    rfl
  obtain ⟨c, m, rfl, hm, q⟩ := h
  refine ⟨_, QSs.h (ss_cons (s_setc (i := 2) scNames.nd e_str)
    (ss_cons (s_set (i := 3) scNames.nd (e_call dNum hr pass0 (a_cons (e_v 0) (a_cons e_int a_nil))))
    (ss_cons (s_setc (i := 4) scNames.nd (e_join e_str (e_comp ["_law_letters"] [2] [("_law_letters", s.heap.objs.size + 1)] rfl ⟨rfl, rfl, rfl, rfl, trivial⟩ ⟨rfl, trivial⟩ (i_list (e_sl sl_list (e_v 3) o_none (o_some e_int))) (fun _ _ _ _ => (e_ix ix_str (e_n 1) (e_op op_mod (e_n 0) e_int))))))
    (ss_cons (s_cut (s_if (t_w (w_and (t_cmp op_eq (e_op op_mod (e_v 0) e_int) e_int) (w_and1 (t_cmp op_lt (e_v 1) e_int))))
      (ss_one (s_ret (e_comp ["_law_stem"] [4] [("_law_stem", s.heap.objs.size + 2)] rfl ⟨rfl, rfl, rfl, rfl, trivial⟩ ⟨rfl, trivial⟩ (i_rng1 n_range (e_v 1)) (fun _ _ _ _ => (e_sl sl_str (e_n 1) o_none (o_some (e_op op_add (e_n 0) e_int)))))))
      ss_nil))
    (ss_cons (s_set (i := 5) scNames.nd (e_op op_mod (e_ix ix_list (e_v 3) e_int) e_int))
    (ss_cons (s_set (i := 6) scNames.nd (e_op op_add (e_op op_add (e_v 5) e_int) (e_op op_mod (e_ix ix_list (e_v 3) e_int) (e_op op_sub e_int (e_v 5)))))
    (ss_cons (s_set (i := 7) scNames.nd (e_lst a_nil))
    (ss_cons (s_for PassesOwn.never rfl (i_rng1 n_range (e_v 1)) (g_name (i := 8) scNames.nd)
      (ss_cons (s_set (i := 9) scNames.nd (e_ix ix_str (e_c 2) (e_op op_mod (e_op op_add (e_ix ix_list (e_v 3) e_int) (e_op op_mul e_int (e_v 8))) e_int)))
      (ss_one (s_expr (e_append (e_v 7) (e_sl sl_str (e_op op_add_str (e_op op_add_str (e_sl sl_str (e_c 4) o_none (o_some (e_v 5))) (e_v 9)) (e_sl sl_str (e_c 4) (o_some (e_op op_add (e_v 5) e_int)) o_none)) o_none (o_some (e_v 6))))))))
    (ss_one (s_ret (e_v 7))))))))))), ?_⟩
  have zl : sizeLine = 16777216 := sizeLine_eq
  refine ⟨_, rfl, c, 12, rfl, by decide, fun px ns H1 s1 hl hpx0 hpx => ?_⟩
  refine ⟨rfl, _, rfl, _, rfl, px, _, rfl, SqL.of hpx, fun p8 hp8 => ⟨p8, rfl, ⟨_, SqL.of upd_same⟩, ?_⟩⟩
  have s8 := Same.new hp8 (.lst (cutV (ns.map V.int) none (some 8)))
  have e8 : cutV (ns.map V.int) none (some 8) = (ns.take 8).map V.int := cut_take V.int ns 8
  have len8 : (ns.take 8).length ≤ 8 := by rw [List.length_take]; omega
  refine comp_list (((ns.take 8).map fun x => (⟨#[lc x]⟩ : Str)).map V.str) (SqL.of upd_same) (by rw [e8, List.length_map]; omega) (by rw [e8, List.length_map, List.length_map, List.length_map]) ?_ ?_
  · intro i x y H' R hS hx hy hR
    rw [e8, List.getElem?_map] at hx
    rw [List.getElem?_map, List.getElem?_map] at hy
    cases hz : (ns.take 8)[i]? with
    | none => rw [hz] at hx; cases hx
    | some z =>
      rw [hz] at hx hy
      cases hx
      cases hy
      exact ⟨_, rfl, _, rfl, _, _, rfl, rfl, (by show (0 : Int) < 26; decide), _, _, lc z, rfl, rfl, smallLen, (lc_at z).1, hR H' (Same.refl _)⟩
  intro D H2 s2 hD0 hD
  have hone : ∀ x ∈ (ns.take 8).map fun x => (⟨#[lc x]⟩ : Str), x.length = 1 ∧ Fine x := by
    intro x hx
    obtain ⟨z, _, rfl⟩ := List.mem_map.mp hx
    exact ⟨rfl, fine_one (lc_at z).2⟩
  refine ⟨_, D, (ns.take 8).map fun x => (⟨#[lc x]⟩ : Str), rfl, rfl, SqL.of hD, join_ok (fun x hx => by rw [(hone x hx).1]; decide) (by rw [List.length_map]; omega), ?_⟩
  have fstem := fine_join fun x hx => (hone x hx).2
  have lst8 : (Txt.join (Str.ofString "") ((ns.take 8).map fun x => (⟨#[lc x]⟩ : Str))).length = 8 := by
    rw [PySem.W.KT.join_ones _ fun x hx => (hone x hx).1, List.length_map, List.length_take]
    omega
  have ssm := stem_sm (xs := ns.take 8)
  generalize hst : Txt.join (Str.ofString "") ((ns.take 8).map fun x => (⟨#[lc x]⟩ : Str)) = stem at fstem lst8 ssm
  have lstem : stem.length ≤ 8 := by omega
  have S2 := (s1.trans s8).trans s2
  have hpx2 := s2 _ _ (s8 _ _ hpx)
  refine ⟨fun σ' H' => σ' = [some (.int c), some (.int (m : Int)), some (.str smallS), some (.ref px), some (.str stem), none, none, none, none, none] ∧ H' = H2, ?_, ?_⟩
  · rw [← hst]
    refine ⟨_, rfl, _, _, rfl, rfl, (by show (0 : Int) < 2; decide), rfl, _, rfl, ?_⟩
    refine ite2 (fun _ => ?_) (fun _ => iteF ⟨rfl, rfl⟩)
    refine ⟨_, rfl, _, _, rfl, rfl, _, rfl, ?_⟩
    refine ite2 (fun c9 => ?_) (fun _ => ⟨rfl, rfl⟩)
    have hm9 : m < 9 := by
      have := of_decide_eq_true c9
      omega
    rw [hst]
    refine ⟨_, rfl, (m : Int), rfl, by omega, by omega, comp_rng (lo := 0) (n := m) (fun i => V.str (Txt.slice stem none (some (0 + (i : Int) + 1)))) (by omega) ?_ ?_⟩
    · intro i H' R hi hS hR
      exact ⟨_, rfl, _, rfl, _, _, rfl, rfl, _, rfl, _, rfl, (by omega), hR H' (Same.refl _)⟩
    · intro D H' hS hD0 hD
      refine q D ((List.range m).map fun (i : Nat) => Txt.slice stem none (some (0 + (i : Int) + 1))) H' (S2.trans hS) (by rw [List.length_map, List.length_range]) (fun x hx => ?_) (nodup_pre lst8 hm9) (fun x hx => by
        obtain ⟨i, hi, rfl⟩ := List.mem_map.mp hx
        have := List.mem_range.mp hi
        exact pre_ok lst8 ssm (by omega) (by omega)) (S2.free hD0) (by rw [List.map_map]; exact hD)
      obtain ⟨i, _, rfl⟩ := List.mem_map.mp hx
      exact ⟨Nat.le_trans (Txt.slice_le _ _ _) (by omega), fine_slice fstem _ _⟩
  rintro σ H3 ⟨rfl, rfl⟩
  refine ⟨_, rfl, px, _, _, _, rfl, rfl, SqL.of hpx2, atI_nat (j := 8) (get_int (by omega)), _, _, rfl, rfl, (by show (0 : Int) < 8; decide), ?_⟩
  refine ⟨_, rfl, _, _, rfl, rfl, _, rfl, px, _, _, _, rfl, rfl, SqL.of hpx2, atI_nat (j := 9) (get_int (by omega)), _, rfl, _, _, rfl, rfl, _, _, rfl, rfl, (by show (0 : Int) < 8 - ns[8] % 8; omega), _, _, rfl, rfl, ?_⟩
  refine ⟨(by show 0 ≤ sizeLine; decide), fun pf hpf => ?_⟩
  have sf := Same.new hpf (.lst [])
  have hb8 : 0 ≤ ns[8] % 8 ∧ ns[8] % 8 < ns[8] % 8 + 1 + ns[9] % (8 - ns[8] % 8) ∧ ns[8] % 8 + 1 + ns[9] % (8 - ns[8] % 8) ≤ 8 := by
    have p0 : 0 < 8 - ns[8] % 8 := by omega
    have p1 := Int.emod_nonneg ns[9] (b := 8 - ns[8] % 8) (by omega)
    have p2 := Int.emod_lt_of_pos ns[9] p0
    omega
  refine ⟨_, rfl, (m : Int), rfl, by omega, by omega, for_range (lo := 0) (n := m) (fun i σ H' => ∃ (ss : List Str) (o8 o9 : Option V) (at' size : Int), (0 ≤ at' ∧ at' < size ∧ size ≤ 8) ∧ ss = ((List.range i).map fun (k : Nat) => nmAt stem at' size (lc (ns[10] + 5 * (0 + (k : Int))))) ∧ σ = [some (.int c), some (.int (m : Int)), some (.str smallS), some (.ref px), some (.str stem), some (.int at'), some (.int size), some (.ref pf), o8, o9] ∧
    H' pf = some (.lst (ss.map V.str)) ∧ ss.length = i ∧ (∀ s ∈ ss, s.length ≤ 100 ∧ Fine s) ∧ Same H3 H') ⟨[], none, none, ns[8] % 8, ns[8] % 8 + 1 + ns[9] % (8 - ns[8] % 8), hb8, rfl, rfl, upd_same, rfl, (fun s hs => nomatch hs), sf⟩ ?_ ?_⟩
  · rintro i σ H' hi ⟨ss, o8, o9, at', size, hb, hse, rfl, hpp, hsl, hss, hS⟩
    have len3 : (ns.map V.int)[10]? = some (.int ns[10]) := get_int (by omega)
    refine ⟨_, rfl, _, rfl, px, _, _, _, rfl, rfl, SqL.of (hS _ _ hpx2), atI_nat (j := 10) len3, _, rfl, _, _, rfl, rfl, .inl ⟨by decide, by decide⟩, _, _, rfl, rfl, _, _, rfl, rfl, (by show (0 : Int) < 26; decide), _, _, lc (ns[10] + 5 * (0 + (i : Int))), rfl, rfl, smallLen, (lc_at _).1, ?_⟩
    have f1 := fine_one (lc_at (ns[10] + 5 * (0 + (i : Int)))).2
    have sl : ∀ lo hi, (Txt.slice stem lo hi).length ≤ 8 := fun lo hi => Nat.le_trans (Txt.slice_le _ _ _) lstem
    have ls : stem.length ≤ sizeLine := by omega
    have l1 : (⟨#[lc (ns[10] + 5 * (0 + (i : Int)))]⟩ : Str).length ≤ 1 := Nat.le_refl 1
    refine ⟨_, rfl, .inl ⟨rfl, _, SqL.of hpp⟩, _, rfl, _, rfl, _, rfl, _, rfl, ls, _, rfl, _, _, rfl, rfl, fitS (Nat.le_trans (sl _ _) (by decide)) (Nat.le_trans l1 (by decide)), _, rfl, _, rfl, _, _, rfl, rfl, _, rfl, _, rfl, ls, _, _, rfl, rfl, fitS (Nat.le_trans (appS (sl _ _) l1) (by decide)) (Nat.le_trans (sl _ _) (by decide)),
      _, rfl, _, rfl, _, rfl, Nat.le_trans (appS (appS (sl _ _) l1) (sl _ _)) (by omega), pf, _, _, rfl, rfl, hpp, (by rw [List.length_map]; omega), ?_⟩
    refine ⟨ss ++ [Txt.slice (Txt.slice stem none (some at') ++ ⟨#[lc (ns[10] + 5 * (0 + (i : Int)))]⟩ ++ Txt.slice stem (some (at' + 1)) none) none (some size)], _, _, at', size, hb, (by rw [List.range_succ, List.map_append, ← hse]; rfl), rfl, ?_, (by rw [List.length_append, hsl]; rfl), fun s hs => ?_, fun b o hb => ?_⟩
    · rw [upd_same, List.map_append]
      rfl
    · rcases List.mem_append.mp hs with h | h
      · exact hss s h
      · rw [List.mem_singleton.mp h]
        exact ⟨Nat.le_trans (Txt.slice_le _ _ _) (Nat.le_trans (appS (appS (sl _ _) l1) (sl _ _)) (by decide)), fine_slice (fine_app (fine_app (fine_slice fstem _ _) f1) (fine_slice fstem _ _)) _ _⟩
    · rw [upd_ne (ne_of_none hb hpf)]
      exact hS _ _ hb
  · rintro σ H' ⟨ss, o8, o9, at', size, hb, hse, rfl, hpp, hsl, hss, hS⟩
    exact ⟨_, rfl, q pf ss H' (S2.trans hS) hsl hss (by rw [hse]; exact nodup_one lst8 hb.1 hb.2.1 hb.2.2 hm) (fun x hx => by
      rw [hse] at hx
      obtain ⟨k, _, rfl⟩ := List.mem_map.mp hx
      exact nm_ok lst8 ssm (lc_sm _) hb.1 hb.2.1 hb.2.2) (S2.free hpf) hpp⟩
end
end K06

set_option linter.all false
set_option maxRecDepth 100000
set_option maxHeartbeats 1000000
namespace K06
open PySem L2 G
theorem cut_drop {α : Type} (f : α → V) (ns : List α) (k : Nat) : cutV (ns.map f) (some (k : Int)) none = (ns.drop k).map f := by
  unfold cutV
  rw [HT.sIx_nat, HT.sIx_none, List.length_map, ← List.map_drop, ← List.map_take]
  congr 1
  by_cases h : k ≤ ns.length
  · rw [Nat.min_eq_left h, List.take_of_length_le (by rw [List.length_drop]; omega)]
  · rw [Nat.min_eq_right (by omega), Nat.sub_self, List.take_zero, List.drop_eq_nil_of_le (by omega)]
theorem great_at {i : Int} (h0 : 0 ≤ i) (h : i < 26) : ∃ c, atI K01.greatS.cps.toList i = some c ∧ c < 0x110000 := by
  obtain ⟨c, h1, h2⟩ := at_list (xs := K01.greatS.cps.toList) h0 (by rw [K01.greatL]; exact h)
  have : ∀ c ∈ K01.greatS.cps.toList, c < 0x110000 := by rw [K01.greatL]; decide
  exact ⟨c, h1, this c h2⟩
theorem greatLen : K01.greatS.length ≤ sizeLine := small (by show K01.greatS.cps.toList.length ≤ 1000; rw [K01.greatL]; decide)
structure Reel where
  name : Str
  letters : Str
  start : Int
  many : Int
def Reel.vs (r : Reel) : List V := [.str r.name, .str r.letters, .int r.start, .int r.many]
structure ROk (r : Reel) : Prop where
  nl : r.name.length ≤ 100
  nf : Fine r.name
  lf : Fine r.letters
  m1 : 1 ≤ r.many
  m2 : r.many ≤ 160000
  nn : KW.NameOk r.name
def RL (H : Hp) (p : Addr) (prs : List (Addr × Reel)) : Prop := H p = some (.lst (prs.map fun x => V.ref x.1)) ∧ ∀ x ∈ prs, H x.1 = some (.tup x.2.vs) ∧ ROk x.2
theorem RL.same {H H' : Hp} {p : Addr} {prs : List (Addr × Reel)} (h : RL H p prs) (s : Same H H') : RL H' p prs := ⟨s _ _ h.1, fun x hx => ⟨s _ _ (h.2 x hx).1, (h.2 x hx).2⟩⟩
/-- one reel more -/
theorem RL.push {H : Hp} {p pt : Addr} {prs : List (Addr × Reel)} {r : Reel} (h : RL H p prs) (ht : H pt = some (.tup r.vs)) (hr : ROk r) : RL (upd H p (.lst ((prs.map fun x => V.ref x.1) ++ [.ref pt]))) p (prs ++ [(pt, r)]) := by
  have ne : ∀ a xs, H a = some (.tup xs) → a ≠ p := fun a xs e => ne_of e h.1 (by intro z; cases z)
  refine ⟨by rw [upd_same, List.map_append]; rfl, fun x hx => ?_⟩
  rcases List.mem_append.mp hx with z | z
  · obtain ⟨h1, h2⟩ := h.2 x z
    exact ⟨by rw [upd_ne (ne _ _ h1)]; exact h1, h2⟩
  · rw [List.mem_singleton.mp z]
    exact ⟨by rw [upd_ne (ne _ _ ht)]; exact ht, hr⟩
section
variable {P : Program} {w : World} {K : PySem.W.Frag} {mg : Str → Option Value} {base : Heap}
def spReels : Sp := fun vs H Q _ => ∃ (c mo : Int) (pn : Addr) (ss : List Str), vs = [.int c, .ref pn, .int mo] ∧ 1 ≤ mo ∧ mo ≤ 160000 ∧ H pn = some (.lst (ss.map V.str)) ∧ (∀ s ∈ ss, (s.length ≤ 100 ∧ Fine s) ∧ KW.NameOk s) ∧ ss.length ≤ 100 ∧
  ∀ (l : Addr) (prs : List (Addr × Reel)) (H' : Hp), Same H H' → prs.map (fun x => x.2.name) = ss → H l = none → RL H' l prs → Q (.ref l) H'
theorem scReels : FnScope ["_law_cell_here", "_law_names_here", "_law_most", "_law_great", "_law_found", "_law_k", "_law_xs", "_law_many", "_law_start"] ["_law_cell_here", "_law_names_here", "_law_most"] (defScope s__law_reels) := ⟨rfl, rfl, rfl, by decide +kernel, rfl, by decide +kernel, by decide +kernel⟩
theorem ok_reels {f : Addr} {fd : FuncData} (F : Fun K "_law_reels" "_law_reels" s__law_reels f fd) (dNum : Def P w K mg base CX0 "_law_numbers" 1 ["_law_cell_here", "_law_many"] spNum) (n_range : mg "range" = none) (n_len : mg "len" = none) : FnOk P w K mg base CX0 2 f fd ["_law_cell_here", "_law_names_here", "_law_most"] spReels := by
  refine F.ok scReels (fun vs H Q E h => ?_) (fun cdv A outer s H vs Q E hr h => ?_)
  · obtain ⟨c, mo, pn, ss, rfl, _⟩ := h
    rfl
  obtain ⟨c, mo, pn, ss, rfl, hm1, hm2, hpn, hss, hsl, q⟩ := h
  refine ⟨_, QSs.h (ss_cons (s_set (i := 3) scReels.nd e_str)
    (ss_cons (s_set (i := 4) scReels.nd (e_lst a_nil))
    (ss_cons (s_for PassesOwn.never rfl (i_rng1 n_range (e_b call_len_seq n_len PySem.boot_len (a_cons (e_v 1) a_nil))) (g_name (i := 5) scReels.nd)
      (ss_cons (s_set (i := 6) scReels.nd (e_call dNum hr pass0 (a_cons (e_op op_add (e_v 0) (e_op op_mul e_int (e_v 5))) (a_cons e_int a_nil))))
      (ss_cons (s_set (i := 7) scReels.nd (e_op op_add e_int (e_op op_mod (e_ix ix_list (e_v 6) e_int) (e_v 2))))
      (ss_cons (s_set (i := 8) scReels.nd (e_op op_mod (e_ix ix_list (e_v 6) e_int) (e_op op_sub e_int (e_v 7))))
      (ss_cons (s_cut (s_if (t_cmp op_eq (e_op op_mod (e_ix ix_list (e_v 6) e_int) e_int) e_int)
        (ss_one (s_set (i := 8) scReels.nd (e_ix ix_list (e_lst (a_cons e_int (a_cons (e_op op_sub e_int (e_v 7)) a_nil))) (e_op op_mod (e_ix ix_list (e_v 6) e_int) e_int))))
        ss_nil))
      (ss_one (s_expr (e_append (e_v 4) (e_tup (a_cons (e_ix ix_list (e_v 1) (e_v 5)) (a_cons (e_op op_add_str (e_ix ix_str (e_v 3) (e_op op_mod (e_ix ix_list (e_v 6) e_int) e_int)) (e_ix ix_str (e_v 3) (e_op op_mod (e_ix ix_list (e_v 6) e_int) e_int))) (a_cons (e_v 8) (a_cons (e_v 7) a_nil)))))))))))))
    (ss_one (s_ret (e_v 4)))))), ?_⟩
  have zl : sizeLine = 16777216 := sizeLine_eq
  refine ⟨(by show 0 ≤ sizeLine; decide), fun pf hpf => ?_⟩
  have sf := Same.new hpf (.lst [])
  refine ⟨_, rfl, pn, _, rfl, .inl (SqL.of (sf _ _ hpn)), _, rfl, by rw [List.length_map]; omega, by rw [List.length_map]; omega, for_range (lo := 0) (n := (ss.map V.str).length) (fun i σ H' => ∃ (prs : List (Addr × Reel)) (o5 o6 o7 o8 : Option V), σ = [some (.int c), some (.ref pn), some (.int mo), some (.str K01.greatS), some (.ref pf), o5, o6, o7, o8] ∧ RL H' pf prs ∧ prs.map (fun x => x.2.name) = ss.take i ∧ Same H H')
    ⟨[], none, none, none, none, rfl, ⟨upd_same, fun x hx => nomatch hx⟩, rfl, sf⟩ ?_ ?_⟩
  · rintro i σ H' hi ⟨prs, o5, o6, o7, o8, rfl, rl, hpl, hS⟩
    rw [List.length_map] at hi
    have hpn' : prs.length ≤ 100 := by
      have := congrArg List.length hpl
      rw [List.length_map, List.length_take] at this
      omega
    refine ⟨_, rfl, _, rfl, _, _, rfl, rfl, .inl ⟨by decide, by decide⟩, _, _, rfl, rfl, _, 5, rfl, by decide, fun px ns H1 s1 hl hp0 hpx => ?_⟩
    have k0 : 0 < ns.length := by omega
    have mb0 := Int.emod_nonneg ns[0] (b := mo) (by omega)
    have mb1 := Int.emod_lt_of_pos ns[0] (b := mo) (by omega)
    have k1 : 1 < ns.length := by omega
    have k2 : 2 < ns.length := by omega
    have k3 : 3 < ns.length := by omega
    have k4 : 4 < ns.length := by omega
    refine ⟨_, rfl, px, _, _, _, rfl, rfl, SqL.of hpx, atI_nat (j := 0) (get_int k0), _, rfl, _, _, rfl, rfl, (by show (0 : Int) < mo; omega), _, _, rfl, rfl, ?_⟩
    refine ⟨_, rfl, px, _, _, _, rfl, rfl, SqL.of hpx, atI_nat (j := 1) (get_int k1), _, rfl, _, _, rfl, rfl, _, _, rfl, rfl, (by show (0 : Int) < 160001 - (1 + ns[0] % mo); omega), ?_⟩
    refine ⟨fun σ' H2 => ∃ st : Int, σ' = [some (.int c), some (.ref pn), some (.int mo), some (.str K01.greatS), some (.ref pf), some (.int (0 + (i : Int))), some (.ref px), some (.int (1 + ns[0] % mo)), some (.int st)] ∧ Same H1 H2, ?_, ?_⟩
    · refine ⟨_, rfl, px, _, _, _, rfl, rfl, SqL.of hpx, atI_nat (j := 2) (get_int k2), _, _, rfl, rfl, (by show (0 : Int) < 4; decide), rfl, _, rfl, ?_⟩
      refine ite2 (fun _ => ?_) (fun _ => ⟨_, rfl, Same.refl _⟩)
      refine ⟨_, rfl, _, _, rfl, rfl, (by show 2 ≤ sizeLine; decide), fun p2 hp2 => ⟨_, rfl, px, _, _, _, rfl, rfl, SqL.of (Same.new hp2 _ _ _ hpx), atI_nat (j := 3) (get_int k3), _, _, rfl, rfl, (by show (0 : Int) < 2; decide), ?_⟩⟩
      obtain ⟨v, hv, hm⟩ := at_list (xs := [V.int 0, .int (160000 - (1 + ns[0] % mo))]) (i := ns[3] % 2) (by omega) (by show _ < (2 : Int); omega)
      refine ⟨p2, _, _, v, rfl, rfl, SqL.of upd_same, hv, ?_⟩
      simp only [List.mem_cons, List.not_mem_nil, or_false] at hm
      rcases hm with rfl | rfl
      · exact ⟨_, rfl, Same.new hp2 _⟩
      · exact ⟨_, rfl, Same.new hp2 _⟩
    rintro σ H2 ⟨st, rfl, s2⟩
    obtain ⟨ca, hca, fa⟩ := great_at (i := ns[3] % 2) (by omega) (by omega)
    obtain ⟨cb, hcb, fb⟩ := great_at (i := ns[4] % 3) (by omega) (by omega)
    have S12 := s1.trans s2
    have hgs : ss[i]? = some ss[i] := List.getElem?_eq_getElem hi
    have hnm : atI (ss.map V.str) (0 + (i : Int)) = some (.str ss[i]) := by
      rw [Int.zero_add]
      exact atI_nat (by rw [List.getElem?_map, hgs]; rfl)
    refine ⟨_, rfl, .inl ⟨rfl, _, SqL.of (S12 _ _ rl.1)⟩, _, rfl, _, rfl, pn, _, _, _, rfl, rfl, SqL.of (S12 _ _ (hS _ _ hpn)), hnm, _, rfl, _, rfl, px, _, _, _, rfl, rfl, SqL.of (s2 _ _ hpx), atI_nat (j := 3) (get_int k3), _, _, rfl, rfl, (by show (0 : Int) < 2; decide), _, _, ca, rfl, rfl, greatLen, hca,
      _, rfl, _, rfl, px, _, _, _, rfl, rfl, SqL.of (s2 _ _ hpx), atI_nat (j := 4) (get_int k4), _, _, rfl, rfl, (by show (0 : Int) < 3; decide), _, _, cb, rfl, rfl, greatLen, hcb, _, _, rfl, rfl, (by show 2 ≤ sizeLine; decide), _, rfl, _, rfl, (by show 4 ≤ sizeLine; decide), fun pt hpt => ?_⟩
    have st3 := Same.new hpt (.tup [.str ss[i], .str (⟨#[ca]⟩ ++ ⟨#[cb]⟩), .int st, .int (1 + ns[0] % mo)])
    have rl3 : RL (upd H2 pt (.tup [.str ss[i], .str (⟨#[ca]⟩ ++ ⟨#[cb]⟩), .int st, .int (1 + ns[0] % mo)])) pf prs := rl.same (S12.trans st3)
    obtain ⟨⟨hs1, hs2⟩, hs3⟩ := hss ss[i] (List.getElem_mem hi)
    refine ⟨pf, _, _, rfl, rfl, rl3.1, (by rw [List.length_map]; omega), prs ++ [(pt, ⟨ss[i], ⟨#[ca]⟩ ++ ⟨#[cb]⟩, st, 1 + ns[0] % mo⟩)], _, _, _, _, rfl, ?_, (by rw [List.map_append, hpl, List.take_add_one, hgs]; rfl), fun b o hb => ?_⟩
    · exact rl3.push (r := ⟨ss[i], ⟨#[ca]⟩ ++ ⟨#[cb]⟩, st, 1 + ns[0] % mo⟩) upd_same ⟨hs1, hs2, fine_app (fine_one fa) (fine_one fb), by show 1 ≤ 1 + ns[0] % mo; omega, by show 1 + ns[0] % mo ≤ 160000; omega, hs3⟩
    · rw [upd_ne (ne_of_none hb hpf)]
      exact st3 _ _ (S12 _ _ (hS _ _ hb))
  · rintro σ H' ⟨prs, o5, o6, o7, o8, rfl, rl, hpl, hS⟩
    exact ⟨_, rfl, q pf prs H' hS (by rw [hpl, List.length_map, List.take_length]) hpf rl⟩
end
end K06

set_option linter.all false
set_option maxRecDepth 100000
set_option maxHeartbeats 2000000
namespace K06
open PySem L2 G DT
open IT hiding It
theorem cut_part (ns : List Int) (k m : Nat) (h : k + m ≤ ns.length) {a b : Int} (ea : a = (k : Int)) (eb : b = ((k + m : Nat) : Int)) : cutV (ns.map V.int) (some a) (some b) = ((ns.drop k).take m).map V.int := by
  subst ea eb
  unfold cutV
  rw [HT.sIx_nat, HT.sIx_nat, List.length_map, Nat.min_eq_left (by omega), Nat.min_eq_left (by omega), show k + m - k = m by omega, ← List.map_drop, ← List.map_take]
theorem cut4 (ns : List Int) (k : Nat) (h : k + 4 ≤ ns.length) {a b : Int} (ea : a = (k : Int)) (eb : b = ((k + 4 : Nat) : Int)) : ∃ x y z w : Int, cutV (ns.map V.int) (some a) (some b) = [.int x, .int y, .int z, .int w] := by
  have l : ((ns.drop k).take 4).length = 4 := by rw [List.length_take, List.length_drop]; omega
  rw [cut_part ns k 4 h ea eb]
  match e : (ns.drop k).take 4, l with
  | [x, y, z, w], _ => exact ⟨x, y, z, w, rfl⟩
theorem cut3 (ns : List Int) (k : Nat) (h : k + 3 ≤ ns.length) {a b : Int} (ea : a = (k : Int)) (eb : b = ((k + 3 : Nat) : Int)) : ∃ x y z : Int, cutV (ns.map V.int) (some a) (some b) = [.int x, .int y, .int z] := by
  have l : ((ns.drop k).take 3).length = 3 := by rw [List.length_take, List.length_drop]; omega
  rw [cut_part ns k 3 h ea eb]
  match e : (ns.drop k).take 3, l with
  | [x, y, z], _ => exact ⟨x, y, z, rfl⟩
/-- what a drawn list is -/
structure GIt (e : Nat) (xs : List IT.It) : Prop where
  ne : xs ≠ []
  vv : KW.vL xs
  dp : dpL xs ≤ e + 1
  w : wL xs ≤ 6 ^ (e + 1)
  nb : KR.nb (KW.wdL xs) ≤ 3 * KR.mb e
/-- the list as far as it is drawn -/
structure Fd (e : Nat) (H0 H' : Hp) (pf : Addr) (i b : Nat) (vs : List V) (xs : List IT.It) : Prop where
  at' : H' pf = some (.lst vs)
  ds : Tds H' vs (dL xs)
  vv : KW.vL xs
  dp : dpL xs ≤ e + 1
  w : wL xs ≤ i * (2 * 6 ^ e) + b
  nb : KR.nb (KW.wdL xs) ≤ i * KR.mb e
  same : Same H0 H'
section
variable {e : Nat} {H0 H' H2 : Hp} {pf pt : Addr} {i b : Nat} {vs : List V} {xs : List IT.It} {x : IT.It}
theorem Fd.later (h : Fd e H0 H' pf i b vs xs) (s : Same H' H2) : Fd e H0 H2 pf i b vs xs := ⟨s _ _ h.at', h.ds.tk (TK.of s), h.vv, h.dp, h.w, h.nb, h.same.trans s⟩
theorem six_le {e : Nat} (he : e ≤ 5) : 6 ^ e ≤ 7776 := Nat.pow_le_pow_right (by decide) he
theorem Fd.room (h : Fd e H0 H' pf i b vs xs) (he : e ≤ 5) (hi : i ≤ 3) (hb : b ≤ 1) : vs.length < sizeLine := by
  have z := sizeLine_eq
  have l : vs.length = xs.length := by rw [h.ds.len, dL_map, List.length_map]
  have := wL_len xs
  have := h.w
  have s6 := six_le he
  have : i * (2 * 6 ^ e) ≤ 3 * (2 * 7776) := Nat.mul_le_mul hi (Nat.mul_le_mul_left 2 s6)
  omega
/-- one thing more -/
theorem Fd.add {i' b' : Nat} (h : Fd e H0 H' pf i b vs xs) (hpf : H0 pf = none) (ht : Td H' (.ref pt) (dI x)) (hv : KW.vI x) (hd : dpI x ≤ e + 1) (hw : i * (2 * 6 ^ e) + b + wI x ≤ i' * (2 * 6 ^ e) + b') (hn : i * KR.mb e + KR.nb (KW.wdI x) ≤ i' * KR.mb e) :
    Fd e H0 (upd H' pf (.lst (vs ++ [.ref pt]))) pf i' b' (vs ++ [.ref pt]) (xs ++ [x]) := by
  refine ⟨upd_same, ?_, KW.vL_app h.vv (KW.v1 hv), dpL_app h.dp (dp1 hd), ?_, ?_, fun a o ha => by rw [upd_ne (ne_of_none ha hpf)]; exact h.same _ _ ha⟩
  · rw [dL_app]
    refine (h.ds.tk (TK.lst h.at')).app ?_
    have := Tds.one (ht.tk (TK.lst (o := .lst (vs ++ [.ref pt])) h.at'))
    rw [dL, dL]
    exact this
  · rw [wL_app, wL, wL]
    exact Nat.le_trans (Nat.add_le_add_right h.w _) hw
  · rw [KR.nb_snoc]
    exact Nat.le_trans (Nat.add_le_add_right h.nb _) hn
theorem Fd.fade (h : Fd e H0 H' pf i 0 vs xs) (hpf : H0 pf = none) {m : Int} (hm : 1 ≤ m ∧ m < 1000000000) (ht : H' pt = some (.tup [.str "fade", .int m])) : Fd e H0 (upd H' pf (.lst (vs ++ [.ref pt]))) pf i 1 (vs ++ [.ref pt]) (xs ++ [.fade m]) :=
  h.add hpf (mk_fade ht) (by rw [KW.vI]; exact hm) (by rw [dpI]; exact Nat.zero_le _) (by rw [wI]; exact Nat.le_refl _) (by rw [KW.wdI]; exact Nat.le_refl _)
theorem Fd.push (h : Fd e H0 H' pf i b vs xs) (hb : b ≤ 1) (hpf : H0 pf = none) (ht : Td H' (.ref pt) (dI x)) (hv : KW.vI x) (hd : dpI x ≤ e + 1) (hw : wI x + 1 ≤ 2 * 6 ^ e) (hn : KR.nb (KW.wdI x) ≤ KR.mb e) :
    Fd e H0 (upd H' pf (.lst (vs ++ [.ref pt]))) pf (i + 1) 0 (vs ++ [.ref pt]) (xs ++ [x]) := by
  refine h.add hpf ht hv hd ?_ ?_
  · have e1 : (i + 1) * (2 * 6 ^ e) = i * (2 * 6 ^ e) + 2 * 6 ^ e := by rw [Nat.add_mul, Nat.one_mul]
    omega
  · rw [Nat.add_mul, Nat.one_mul]
    exact Nat.add_le_add_left hn _
/-- times, back: one more around -/
theorem GIt.deep {ys : List IT.It} (g : GIt (e - 1) ys) (he : 1 ≤ e) : dpL ys + 1 ≤ e + 1 ∧ wL ys + 1 + 1 ≤ 2 * 6 ^ e ∧ KR.nb (KW.wdL ys) + 1 ≤ KR.mb e := by
  have g2 := g.dp
  have g3 := g.w
  have g4 := g.nb
  rw [show e - 1 + 1 = e by omega] at g2 g3
  have q6 : 6 ≤ 6 ^ e := Nat.pow_le_pow_right (n := 6) (by decide) he
  rw [KR.mb_pred he]
  exact ⟨by omega, by omega, by omega⟩
end
section
variable {P : Program} {w : World} {K : PySem.W.Frag} {mg : Str → Option Value} {base : Heap}
def spItems (d : Nat) : Sp := fun vs H Q _ => ∃ (e : Nat) (c : Int) (lr lp : Addr) (prs : List (Addr × Reel)) (ss : List Str), e ≤ d ∧ vs = [.int c, .int (e : Int), .ref lr, .ref lp] ∧ RL H lr prs ∧ 1 ≤ prs.length ∧ H lp = some (.lst (ss.map V.str)) ∧
  (∀ s ∈ ss, Fine s ∧ KW.NameOk s) ∧ ∀ p xs H', Same H H' → Td H' (.ref p) (.tuple (dL xs)) → GIt e xs → Q (.ref p) H'
def spItemsP : Nat → Sp
  | 0 => fun _ _ _ _ => False
  | d + 1 => spItems d
theorem spItemsP_of {d : Nat} {vs : List V} {H : Hp} {Q : VK} {E : XK} (h : 0 < d) (z : spItems (d - 1) vs H Q E) : spItemsP d vs H Q E := by
  cases d with
  | zero => exact absurd h (Nat.lt_irrefl _)
  | succ d => exact z
/-- a test of two parts: what follows if it fails is said once -/
theorem goAnd {c T A' : Prop} [Decidable c] {B : Hp → Prop} {H H0 : Hp} (hB : ∀ H', Same H0 H' → B H') (s : Same H0 H) (hT : (∀ H', Same H0 H' → B H') → c → T) : if c then T else (if false = true then A' else B H) :=
  ite2 (hT hB) fun _ => iteF (hB H s)
theorem lay_strs : ∀ {ss : List Str}, (∀ s ∈ ss, Fine s) → PyData.canLayAll0 (ss.map PyData.str) = true
  | [], _ => rfl
  | s :: r, h => by
    have h1 : (PyData.str s).canLay0 = true := by simpa [PyData.canLay0] using h s (List.mem_cons_self ..)
    rw [List.map_cons, PyData.canLayAll0, h1, lay_strs fun x hx => h x (List.mem_cons_of_mem _ hx)]
    rfl
theorem dep_strs : ∀ ss : List Str, PyData.depthAll (ss.map PyData.str) = 0
  | [] => by simp [PyData.depthAll]
  | s :: r => by simp [PyData.depthAll, PyData.depth, dep_strs r]
theorem den_strs {H : Hp} : ∀ ss : List Str, DenAll K H (ss.map V.str) (ss.map PyData.str)
  | [] => .nil
  | s :: r => .cons (.str s) (den_strs r)
theorem scItems : FnScope ["_law_cell_here", "_law_deep", "_law_reels_here", "_law_parts", "_law_xs", "_law_found", "_law_k", "_law_kind", "_law_reel", "_law_first", "_law_last", "_law_fade", "_law_inner", "_law_times", "_law_name", "_law_letters", "_law_start", "_law_many", "_law_some", "_law_end"] ["_law_cell_here", "_law_deep", "_law_reels_here", "_law_parts"] (defScope s__law_items) := ⟨rfl, rfl, rfl, by decide +kernel, rfl, by decide +kernel, by decide +kernel⟩
theorem ok_items {d : Nat} (hd5 : d ≤ 5) {f : Addr} {fd : FuncData} (F : Fun K "_law_items" "_law_items" s__law_items f fd) (dNum : Def P w K mg base CX0 "_law_numbers" 1 ["_law_cell_here", "_law_many"] spNum) (dItems : Def P w K mg base CX0 "_law_items" (d + 1) ["_law_cell_here", "_law_deep", "_law_reels_here", "_law_parts"] (spItemsP d))
    (n_range : mg "range" = none) (n_len : mg "len" = none) (n_min : mg "min" = none) (n_max : mg "max" = none) (n_tuple : mg "tuple" = none) : FnOk P w K mg base CX0 (d + 2) f fd ["_law_cell_here", "_law_deep", "_law_reels_here", "_law_parts"] (spItems d) := by
  refine F.ok scItems (fun vs H Q E h => ?_) (fun cdv A outer s H vs Q E hr h => ?_)
  · obtain ⟨e, c, lr, lp, prs, ss, _, rfl, _⟩ := h
    rfl
  obtain ⟨e, c, lr, lp, prs, ss, hed, rfl, rl, hp1, hlp, hss, q⟩ := h
  refine ⟨_, QSs.h (ss_cons (s_set (i := 4) scItems.nd (e_call dNum hr pass0 (a_cons (e_v 0) (a_cons e_int a_nil)) (hj := by omega)))
    (ss_cons (s_set (i := 5) scItems.nd (e_lst a_nil))
    (ss_cons (s_for PassesOwn.never rfl (i_rng1 n_range (e_op op_add e_int (e_op op_mod (e_ix ix_list (e_v 4) e_int) e_int))) (g_name (i := 6) scItems.nd)
      (ss_cons (s_asg (e_sl sl_list (e_v 4) (o_some (e_op op_add (e_op op_mul e_int (e_v 6)) e_int)) (o_some (e_op op_add (e_op op_mul e_int (e_v 6)) e_int))) (g_tupL rfl (gs_cons (g_name (i := 7) scItems.nd) (gs_cons (g_name (i := 8) scItems.nd) (gs_cons (g_name (i := 9) scItems.nd) (gs_cons (g_name (i := 10) scItems.nd) gs_nil))))))
      (ss_cons (s_asg (e_sl sl_list (e_v 4) (o_some (e_op op_add (e_op op_mul e_int (e_v 6)) e_int)) (o_some (e_op op_add (e_op op_mul e_int (e_v 6)) e_int))) (g_tupL rfl (gs_cons (g_name (i := 11) scItems.nd) (gs_cons (g_name (i := 12) scItems.nd) (gs_cons (g_name (i := 13) scItems.nd) gs_nil)))))
      (ss_cons (s_cut (s_if (t_w (w_and (t_cmp op_gt (e_v 6) e_int) (w_and1 (t_cmp op_eq (e_op op_mod (e_v 11) e_int) e_int))))
        (ss_one (s_expr (e_append (e_v 5) (e_tup (a_cons e_str (a_cons (e_op op_add e_int (e_op op_mod (e_op op_fdiv (e_v 11) e_int) e_int)) a_nil))))))
        ss_nil))
      (ss_cons (s_asg (e_ix ix_list (e_v 2) (e_op op_mod (e_v 8) (e_b call_len_seq n_len PySem.boot_len (a_cons (e_v 2) a_nil)))) (g_tup rfl (gs_cons (g_name (i := 14) scItems.nd) (gs_cons (g_name (i := 15) scItems.nd) (gs_cons (g_name (i := 16) scItems.nd) (gs_cons (g_name (i := 17) scItems.nd) gs_nil))))))
      (ss_one (s_if (t_w (w_and (t_cmp op_eq (e_op op_mod (e_v 7) e_int) e_int) (w_and1 (t_cmp (op_neD hr) (e_v 3) (e_lst a_nil)))))
        (ss_one (s_expr (e_append (e_v 5) (e_tup (a_cons e_str (a_cons (e_ix ix_list (e_v 3) (e_op op_mod (e_op op_fdiv (e_v 7) e_int) (e_b call_len_seq n_len PySem.boot_len (a_cons (e_v 3) a_nil)))) a_nil))))))
        (ss_one (s_if (t_w (w_and (t_cmp op_eq (e_op op_mod (e_v 7) e_int) e_int) (w_and1 (t_cmp op_gt (e_v 1) e_int))))
          (ss_cons (s_set (i := 18) scItems.nd (e_call dItems hr pass0 (a_cons (e_v 12) (a_cons (e_op op_sub (e_v 1) e_int) (a_cons (e_v 2) (a_cons (e_v 3) a_nil)))) (hj := by omega)))
          (ss_one (s_expr (e_append (e_v 5) (e_tup (a_cons e_str (a_cons (e_op op_add e_int (e_op op_mod (e_v 13) e_int)) (a_cons (e_v 18) a_nil))))))))
          (ss_one (s_if (t_w (w_and (t_cmp op_eq (e_op op_mod (e_v 7) e_int) e_int) (w_and1 (t_cmp op_gt (e_v 1) e_int))))
            (ss_cons (s_set (i := 18) scItems.nd (e_call dItems hr pass0 (a_cons (e_v 12) (a_cons (e_op op_sub (e_v 1) e_int) (a_cons (e_v 2) (a_cons (e_v 3) a_nil)))) (hj := by omega)))
            (ss_one (s_expr (e_append (e_v 5) (e_tup (a_cons e_str (a_cons (e_v 18) a_nil)))))))
            (ss_cons (s_set (i := 19) scItems.nd (e_b (call_min2 rfl) n_min (by decide +kernel) (a_cons (e_op op_sub (e_v 17) e_int) (a_cons (e_b (call_max2 rfl) n_max (by decide +kernel) (a_cons e_int (a_cons (e_op op_sub (e_op op_add (e_op op_mod (e_v 9) (e_v 17)) (e_op op_mod (e_v 10) e_int)) e_int) a_nil))) a_nil))))
            (ss_one (s_expr (e_append (e_v 5) (e_tup (a_cons e_str (a_cons (e_v 14) (a_cons (e_op op_mod (e_v 9) (e_v 17)) (a_cons (e_v 19) a_nil))))))))))))))))))))
    (ss_one (s_ret (e_t call_tuple_of n_tuple (by decide +kernel) (a_cons (e_v 5) a_nil))))))), ?_⟩
  have zl : sizeLine = 16777216 := sizeLine_eq
  have he5 : e ≤ 5 := by omega
  have p6 : 1 ≤ 6 ^ e := Nat.pow_pos (by decide)
  refine ⟨_, rfl, c, 22, rfl, by decide, fun px ns H1 s1 hl hpx0 hpx => ?_⟩
  refine ⟨(by show 0 ≤ sizeLine; decide), fun pf hpf => ?_⟩
  have sf := Same.new hpf (.lst [])
  have hpf0 : H pf = none := s1.free hpf
  have npf : px ≠ pf := ne_of_none hpx hpf
  have k0 : 0 < ns.length := by omega
  refine ⟨_, rfl, px, _, _, _, rfl, rfl, SqL.of (sf _ _ hpx), atI_nat (j := 0) (get_int k0), _, _, rfl, rfl, (by show (0 : Int) < 3; decide), _, _, rfl, rfl, _, rfl, by omega, by omega,
    for_range (lo := 0) (n := (1 + ns[0] % 3).toNat) (fun i σ H' => ∃ (xs : List IT.It) (vs : List V) (o6 o7 o8 o9 o10 o11 o12 o13 o14 o15 o16 o17 o18 o19 : Option V), σ = [some (.int c), some (.int (e : Int)), some (.ref lr), some (.ref lp), some (.ref px), some (.ref pf), o6, o7, o8, o9, o10, o11, o12, o13, o14, o15, o16, o17, o18, o19] ∧ Fd e H H' pf i 0 vs xs ∧ H' px = some (.lst (ns.map V.int)) ∧ (i ≠ 0 → xs ≠ []))
    ⟨[], [], none, none, none, none, none, none, none, none, none, none, none, none, none, none, rfl, ⟨upd_same, (by rw [dL]; exact .nil), (by rw [KW.vL]; trivial), (by rw [dpL]; exact Nat.zero_le _), (by rw [wL]; exact Nat.zero_le _), (by rw [KW.wdL]; exact Nat.zero_le _), s1.trans sf⟩, sf _ _ hpx, fun z => absurd rfl z⟩ ?_ ?_⟩
  · rintro i σ H' hi ⟨xs, vs, o6, o7, o8, o9, o10, o11, o12, o13, o14, o15, o16, o17, o18, o19, rfl, fd, hpx, hwl⟩
    have hi3 : i < 3 := by omega
    obtain ⟨vk, vr, vf, vl, e4⟩ := cut4 ns (7 * i + 1) (by omega) (a := 7 * (0 + (i : Int)) + 1) (b := 7 * (0 + (i : Int)) + 5) (by omega) (by omega)
    obtain ⟨wf, wi, wt, e3⟩ := cut3 ns (7 * i + 5) (by omega) (a := 7 * (0 + (i : Int)) + 5) (b := 7 * (0 + (i : Int)) + 8) (by omega) (by omega)
    refine ⟨_, rfl, _, rfl, _, _, rfl, rfl, .inl ⟨by decide, by decide⟩, _, _, rfl, rfl, _, rfl, _, rfl, _, _, rfl, rfl, .inl ⟨by decide, by decide⟩, _, _, rfl, rfl, _, rfl, px, _, rfl, SqL.of hpx, fun p4 hp4 => ⟨p4, [.int vk, .int vr, .int vf, .int vl], rfl, SqL.of (by rw [← e4]; exact upd_same), rfl, _, _, rfl, _, _, rfl, _, _, rfl, _, _, rfl, rfl, ?_⟩⟩
    have t4 := Same.new hp4 (.lst (cutV (ns.map V.int) (some (7 * (0 + (i : Int)) + 1)) (some (7 * (0 + (i : Int)) + 5))))
    have hpx4 := t4 _ _ hpx
    refine ⟨_, rfl, _, rfl, _, _, rfl, rfl, .inl ⟨by decide, by decide⟩, _, _, rfl, rfl, _, rfl, _, rfl, _, _, rfl, rfl, .inl ⟨by decide, by decide⟩, _, _, rfl, rfl, _, rfl, px, _, rfl, SqL.of hpx4, fun p3 hp3 => ⟨p3, [.int wf, .int wi, .int wt], rfl, SqL.of (by rw [← e3]; exact upd_same), rfl, _, _, rfl, _, _, rfl, _, _, rfl, rfl, ?_⟩⟩
    have t3 := Same.new hp3 (.lst (cutV (ns.map V.int) (some (7 * (0 + (i : Int)) + 5)) (some (7 * (0 + (i : Int)) + 8))))
    have fd := fd.later (t4.trans t3)
    have hpx := t3 _ _ hpx4
    generalize (upd (upd H' p4 (.lst (cutV (ns.map V.int) (some (7 * (0 + (i : Int)) + 1)) (some (7 * (0 + (i : Int)) + 5))))) p3 (.lst (cutV (ns.map V.int) (some (7 * (0 + (i : Int)) + 5)) (some (7 * (0 + (i : Int)) + 8))))) = H2 at fd hpx
    refine ⟨fun σ' H3 => ∃ (xs2 : List IT.It) (vs2 : List V) (b : Nat), b ≤ 1 ∧ σ' = [some (.int c), some (.int (e : Int)), some (.ref lr), some (.ref lp), some (.ref px), some (.ref pf), some (.int (0 + (i : Int))), some (.int vk), some (.int vr), some (.int vf), some (.int vl), some (.int wf), some (.int wi), some (.int wt), o14, o15, o16, o17, o18, o19] ∧ Fd e H H3 pf i b vs2 xs2 ∧ H3 px = some (.lst (ns.map V.int)), ?_, ?_⟩
    · refine ⟨_, rfl, _, _, rfl, rfl, _, rfl, ?_⟩
      refine ite2 (fun c1 => ?_) (fun _ => iteF ⟨xs, vs, 0, by decide, rfl, fd, hpx⟩)
      refine ⟨_, rfl, _, _, rfl, rfl, (by show (0 : Int) < 4; decide), rfl, _, rfl, ?_⟩
      refine ite2 (fun c2 => ?_) (fun _ => ⟨xs, vs, 0, by decide, rfl, fd, hpx⟩)
      have hi0 : i ≠ 0 := by
        have := of_decide_eq_true c1
        omega
      refine ⟨_, rfl, .inl ⟨rfl, _, SqL.of fd.at'⟩, _, rfl, _, _, rfl, rfl, ⟨by decide, by decide⟩, _, _, rfl, rfl, (by show (0 : Int) < 3; decide), _, _, rfl, rfl, (by show 2 ≤ sizeLine; decide), fun pt hpt => ?_⟩
      have fd2 := fd.later (Same.new hpt (.tup [.str "fade", .int (1 + wf / 4 % 3)]))
      refine ⟨pf, _, _, rfl, rfl, fd2.at', fd2.room he5 (by omega) (by decide), xs ++ [.fade (1 + wf / 4 % 3)], _, 1, by decide, rfl, fd2.fade hpf0 (by omega) upd_same, ?_⟩
      rw [upd_ne npf]
      exact Same.new hpt _ _ _ hpx
    rintro σ H3 ⟨xs2, vs2, b, hb, rfl, fd, hpx⟩
    have rl3 := rl.same fd.same
    have lenp : (prs.map fun x => V.ref x.1).length = prs.length := List.length_map ..
    have hpos : (0 : Int) < (((prs.map fun x => V.ref x.1).length : Nat) : Int) := by rw [lenp]; omega
    obtain ⟨v, hv, hvm⟩ := at_list (xs := prs.map fun x => V.ref x.1) (i := vr % (((prs.map fun x => V.ref x.1).length : Nat) : Int)) (Int.emod_nonneg _ (by omega)) (Int.emod_lt_of_pos _ hpos)
    obtain ⟨y, hy, rfl⟩ := List.mem_map.mp hvm
    obtain ⟨hyt, yok⟩ := rl3.2 y hy
    have m1 := yok.m1
    have hI3 : i ≤ 3 := by omega
    refine ⟨_, rfl, _, rfl, _, rfl, lr, _, rfl, .inl (SqL.of rl3.1), _, _, rfl, rfl, hpos, lr, _, _, _, rfl, rfl, SqL.of rl3.1, hv, y.1, _, rfl, SqT.of hyt, rfl, _, _, rfl, _, _, rfl, _, _, rfl, _, _, rfl, rfl, ?_⟩
    refine ⟨_, rfl, _, _, rfl, rfl, (by show (0 : Int) < 8; decide), rfl, _, rfl, goAnd (H0 := H3) ?e1 (Same.refl _) fun hE c1 => ?t1⟩
    case t1 =>
      refine ⟨_, rfl, (by show 0 ≤ sizeLine; decide), fun p0 hp0 => ?_⟩
      have t0 := Same.new hp0 (.lst [])
      have hlp4 := t0 _ _ (fd.same _ _ hlp)
      refine ⟨.list (ss.map PyData.str), .list [], .lst (SqL.of hlp4) (den_strs ss), .lst (SqL.of upd_same) .nil, (by rw [PyData.canLay0]; exact lay_strs fun s hs => (hss s hs).1), rfl, Nat.le_trans (Nat.min_le_left _ _) (by rw [PyData.depth, dep_strs]; decide), _, rfl, ?_⟩
      cases ss with
      | nil => exact iteN (by rw [List.map_nil, PySem.SeqAt.eqv_refl _ rfl]; rfl) (hE _ t0)
      | cons s0 sr =>
        refine iteY rfl ?_
        have hpos2 : (0 : Int) < ((((s0 :: sr).map V.str).length : Nat) : Int) := by rw [List.length_map, List.length_cons]; omega
        obtain ⟨v2, hv2, hvm2⟩ := at_list (xs := (s0 :: sr).map V.str) (i := vk / 8 % ((((s0 :: sr).map V.str).length : Nat) : Int)) (Int.emod_nonneg _ (by omega)) (Int.emod_lt_of_pos _ hpos2)
        obtain ⟨pn, hpn, rfl⟩ := List.mem_map.mp hvm2
        have hnn := (hss pn hpn).2
        have fd4 := fd.later t0
        refine ⟨_, rfl, .inl ⟨rfl, _, SqL.of fd4.at'⟩, _, rfl, _, rfl, _, _, rfl, rfl, ⟨by decide, by decide⟩, _, rfl, lp, _, rfl, .inl (SqL.of hlp4), _, _, rfl, rfl, hpos2, lp, _, _, _, rfl, rfl, SqL.of hlp4, hv2, (by show 2 ≤ sizeLine; decide), fun pt hpt => ?_⟩
        have tt := Same.new hpt (.tup [.str "part", .str pn])
        have fd5 := fd4.later tt
        have n1 := fd5.push (x := .part pn []) hb hpf0 (mk_part upd_same) (by rw [KW.vI]; exact hnn) (by rw [dpI, dpL]; omega) (by rw [wI]; omega) (by rw [KW.wdI]; exact Nat.zero_le _)
        exact ⟨pf, _, _, rfl, rfl, fd5.at', fd5.room he5 hI3 hb, _, _, _, _, _, _, _, _, _, _, _, _, _, _, _, _, rfl, n1, (by rw [upd_ne npf]; exact tt _ _ (t0 _ _ hpx)), fun _ => fun z => absurd (List.append_eq_nil_iff.mp z).2 (List.cons_ne_nil _ _)⟩
    case e1 =>
      intro H4 t4
      refine ⟨_, rfl, _, _, rfl, rfl, (by show (0 : Int) < 8; decide), rfl, _, rfl, goAnd (H0 := H4) ?e2 (Same.refl _) fun hE c1 => ?t2⟩
      case t2 =>
        refine ⟨_, rfl, _, _, rfl, rfl, _, rfl, ?_⟩
        refine ite2 (fun c2 => ?_) (fun _ => hE _ (Same.refl _))
        have he1 : 1 ≤ e := by
          have := of_decide_eq_true c2
          omega
        have fd4 := fd.later t4
        refine ⟨_, rfl, _, rfl, _, _, rfl, rfl, _, rfl, _, rfl, spItemsP_of (by omega) ⟨e - 1, wi, lr, lp, prs, ss, by omega, (by rw [show ((e - 1 : Nat) : Int) = (e : Int) - 1 by omega]; rfl), rl3.same t4, hp1, fd4.same _ _ hlp, hss, fun p ys H5 s5 hp gi => ?_⟩⟩
        have fd5 := fd4.later s5
        refine ⟨_, rfl, .inl ⟨rfl, _, SqL.of fd5.at'⟩, _, rfl, _, _, rfl, rfl, (by show (0 : Int) < 3; decide), _, _, rfl, rfl, _, rfl, (by show 3 ≤ sizeLine; decide), fun pt hpt => ?_⟩
        have tt := Same.new hpt (.tup [.str "times", .int (1 + wt % 3), .ref p])
        have fd6 := fd5.later tt
        have gd := gi.deep he1
        have n1 := fd6.push (x := .times (1 + wt % 3) ys) hb hpf0 (mk_times upd_same (hp.tk (TK.of tt))) (by rw [KW.vI]; exact ⟨⟨by omega, by omega⟩, gi.ne, gi.vv⟩) (by rw [dpI]; exact gd.1) (by rw [wI]; exact gd.2.1) (by rw [KR.nb_times]; exact gd.2.2)
        exact ⟨pf, _, _, rfl, rfl, fd6.at', fd6.room he5 hI3 hb, _, _, _, _, _, _, _, _, _, _, _, _, _, _, _, _, rfl, n1, (by rw [upd_ne npf]; exact tt _ _ (s5 _ _ (t4 _ _ hpx))), fun _ => fun z => absurd (List.append_eq_nil_iff.mp z).2 (List.cons_ne_nil _ _)⟩
      case e2 =>
        intro H5 t5
        have t5 := t4.trans t5
        refine ⟨_, rfl, _, _, rfl, rfl, (by show (0 : Int) < 8; decide), rfl, _, rfl, goAnd (H0 := H5) ?e3 (Same.refl _) fun hE c1 => ?t3⟩
        case t3 =>
          refine ⟨_, rfl, _, _, rfl, rfl, _, rfl, ?_⟩
          refine ite2 (fun c2 => ?_) (fun _ => hE _ (Same.refl _))
          have he1 : 1 ≤ e := by
            have := of_decide_eq_true c2
            omega
          have fd4 := fd.later t5
          refine ⟨_, rfl, _, rfl, _, _, rfl, rfl, _, rfl, _, rfl, spItemsP_of (by omega) ⟨e - 1, wi, lr, lp, prs, ss, by omega, (by rw [show ((e - 1 : Nat) : Int) = (e : Int) - 1 by omega]; rfl), rl3.same t5, hp1, fd4.same _ _ hlp, hss, fun p ys H5 s5 hp gi => ?_⟩⟩
          have fd5 := fd4.later s5
          refine ⟨_, rfl, .inl ⟨rfl, _, SqL.of fd5.at'⟩, _, rfl, (by show 2 ≤ sizeLine; decide), fun pt hpt => ?_⟩
          have tt := Same.new hpt (.tup [.str "back", .ref p])
          have fd6 := fd5.later tt
          have gd := gi.deep he1
          have n1 := fd6.push (x := .back ys) hb hpf0 (mk_back upd_same (hp.tk (TK.of tt))) (by rw [KW.vI]; exact ⟨gi.ne, gi.vv⟩) (by rw [dpI]; exact gd.1) (by rw [wI]; exact gd.2.1) (by rw [KR.nb_back]; exact gd.2.2)
          exact ⟨pf, _, _, rfl, rfl, fd6.at', fd6.room he5 hI3 hb, _, _, _, _, _, _, _, _, _, _, _, _, _, _, _, _, rfl, n1, (by rw [upd_ne npf]; exact tt _ _ (s5 _ _ (t5 _ _ hpx))), fun _ => fun z => absurd (List.append_eq_nil_iff.mp z).2 (List.cons_ne_nil _ _)⟩
        case e3 =>
          intro H6 t6
          have t6 := t5.trans t6
          have fd4 := fd.later t6
          refine ⟨_, rfl, _, _, rfl, rfl, _, rfl, _, rfl, _, _, rfl, rfl, (by show (0 : Int) < y.2.many; omega), _, rfl, _, _, rfl, rfl, (by show (0 : Int) < 13; decide), _, _, rfl, rfl, _, _, rfl, rfl, _, _, rfl, _, _, rfl, ?_⟩
          refine ⟨_, rfl, .inl ⟨rfl, _, SqL.of fd4.at'⟩, _, rfl, _, rfl, _, rfl, _, _, rfl, rfl, (by show (0 : Int) < y.2.many; omega), _, rfl, (by show 4 ≤ sizeLine; decide), fun pt hpt => ?_⟩
          have m2 := yok.m2
          have md0 := Int.emod_nonneg vf (b := y.2.many) (by omega)
          have md1 := Int.emod_lt_of_pos vf (b := y.2.many) (by omega)
          have np := fun (en : Int) (hen : 0 ≤ en ∧ en < 160000) => (fd4.later (Same.new hpt (.tup [.str "clip", .str y.2.name, .int (vf % y.2.many), .int en]))).push (x := .clip y.2.name (vf % y.2.many) en) hb hpf0 (mk_clip upd_same) (by rw [KW.vI]; exact ⟨yok.nn, ⟨by omega, by omega⟩, ⟨by omega, by omega⟩⟩) (by rw [dpI]; exact Nat.zero_le _) (by rw [wI]; omega) (by rw [KW.wdI]; exact Nat.zero_le _)
          refine ⟨pf, _, _, rfl, rfl, (fd4.later (Same.new hpt _)).at', fd4.room he5 hI3 hb, _, _, _, _, _, _, _, _, _, _, _, _, _, _, _, _, rfl, np _ ?_, (by rw [upd_ne npf]; exact Same.new hpt _ _ _ (t6 _ _ hpx)), fun _ => fun z => absurd (List.append_eq_nil_iff.mp z).2 (List.cons_ne_nil _ _)⟩ <;> (constructor <;> (repeat' split) <;> omega)
  · rintro σ H' ⟨xs, vs, o6, o7, o8, o9, o10, o11, o12, o13, o14, o15, o16, o17, o18, o19, rfl, fd, hpx, hwl⟩
    have hn : (1 + ns[0] % 3).toNat ≤ 3 := by omega
    have hn1 : (1 + ns[0] % 3).toNat ≠ 0 := by omega
    refine ⟨_, rfl, pf, _, rfl, .inl ⟨SqL.of fd.at', fun p hp => ?_⟩⟩
    refine q p xs _ (fd.same.trans (Same.new hp _)) (.tup upd_same (fd.ds.tk (TK.new hp _))) ⟨hwl hn1, fd.vv, fd.dp, ?_, Nat.le_trans fd.nb (Nat.mul_le_mul_right _ hn)⟩
    · have := fd.w
      have z : (1 + ns[0] % 3).toNat * (2 * 6 ^ e) ≤ 3 * (2 * 6 ^ e) := Nat.mul_le_mul_right _ hn
      rw [Nat.pow_succ]
      omega
end
end K06

set_option linter.all false
set_option maxRecDepth 100000
set_option maxHeartbeats 2000000
namespace K06
open PySem L2 G DT
open IT hiding It
open KW
theorem lenS {a : Str} {n : Nat} (h : a.length ≤ n) (hn : n ≤ 10000000) : a.length ≤ sizeLine := by
  have zl : sizeLine = 16777216 := sizeLine_eq
  omega
theorem addS {a b : Str} {m n : Nat} (ha : a.length ≤ m) (hb : b.length ≤ n) (h : m + n ≤ 10000000) : a.length + b.length ≤ sizeLine := by
  have zl : sizeLine = 16777216 := sizeLine_eq
  omega
theorem stL {i : Int} (h : Num9 i) : (TX.st i).length ≤ 9 := (st_lenI h).2
theorem lg {i : Int} (h : Num9 i) : i.natAbs.log2 < 1920 := TX.st_log h.1 (by have := h.2; omega)
/-- an item's first word -/
def fwd : IT.It → Wd
  | .clip r f l => .clip r f l
  | .times m _ => .opT m
  | .back _ => .opB
  | .part n _ => .part n
  | .fade m => .fade m
def sW (ws : List Wd) : List V := ws.map fun w => V.str w.s
theorem take_snoc {α : Type} {l : List α} {i : Nat} {x : α} (h : l[i]? = some x) : l.take (i + 1) = l.take i ++ [x] := by rw [List.take_add_one, h]; rfl
section
variable {P : Program} {w : World} {K : PySem.W.Frag} {mg : Str → Option Value} {base : Heap}
def spShow (d : Nat) : Sp := fun vs H Q _ => ∃ (a : Addr) (xs : List IT.It), vs = [.ref a] ∧ Td H (.ref a) (.tuple (dL xs)) ∧ vL xs ∧ dpL xs ≤ d ∧ wL xs ≤ 100000 ∧ ∀ H', Same H H' → Q (.str (txL xs)) H'
/-! ### _law_text -/
def spTextP : Nat → Sp
  | 0 => fun _ _ _ _ => False
  | d + 1 => spShow d
theorem spTextP_of {d : Nat} {vs : List V} {H : Hp} {Q : VK} {E : XK} (h : 0 < d) (z : spShow (d - 1) vs H Q E) : spTextP d vs H Q E := by
  cases d with
  | zero => exact absurd h (Nat.lt_irrefl _)
  | succ d => exact z
theorem scText : FnScope ["_law_items_here", "_law_found", "_law_item_here"] ["_law_items_here"] (defScope s__law_text) := ⟨rfl, rfl, rfl, by decide +kernel, rfl, by decide +kernel, by decide +kernel⟩
theorem ok_text {d : Nat} {f : Addr} {fd : FuncData} (F : Fun K "_law_text" "_law_text" s__law_text f fd) (dText : Def P w K mg base CX0 "_law_text" (d + 1) ["_law_items_here"] (spTextP d)) (n_str : mg "str" = none) :
    FnOk P w K mg base CX0 (d + 2) f fd ["_law_items_here"] (spShow d) := by
  refine F.ok scText (fun vs H Q E h => ?_) (fun cdv A outer s H vs Q E hr h => ?_)
  · obtain ⟨a, xs, rfl, _⟩ := h
    rfl
  obtain ⟨a, xs, rfl, ht, hv, hdp, hw, q⟩ := h
  refine ⟨_, QSs.h (ss_cons (s_set (i := 1) scText.nd (e_lst a_nil))
    (ss_cons (s_for PassesOwn.never rfl (i_tup (e_v 0)) (g_name (i := 2) scText.nd)
      (ss_one (s_if (t_cmp op_eq (e_ix ix_tup (e_v 2) e_int) e_str)
        (ss_one (s_expr (e_append (e_v 1) (e_ix ix_tup (e_v 2) e_int))))
        (ss_one (s_if (t_cmp op_eq (e_ix ix_tup (e_v 2) e_int) e_str)
          (ss_one (s_expr (e_append (e_v 1) (e_op op_add_str e_str (e_t call_str_int n_str PyProof.Rows.boot_str (a_cons (e_ix ix_tup (e_v 2) e_int) a_nil))))))
          (ss_one (s_if (t_cmp op_eq (e_ix ix_tup (e_v 2) e_int) e_str)
            (ss_one (s_expr (e_append (e_v 1) (e_op op_add_str (e_op op_add_str (e_op op_add_str (e_t call_str_int n_str PyProof.Rows.boot_str (a_cons (e_ix ix_tup (e_v 2) e_int) a_nil)) e_str) (e_call dText hr pass0 (a_cons (e_ix ix_tup (e_v 2) e_int) a_nil) (hj := by omega))) e_str))))
            (ss_one (s_if (t_cmp op_eq (e_ix ix_tup (e_v 2) e_int) e_str)
              (ss_one (s_expr (e_append (e_v 1) (e_op op_add_str (e_op op_add_str e_str (e_call dText hr pass0 (a_cons (e_ix ix_tup (e_v 2) e_int) a_nil) (hj := by omega))) e_str))))
              (ss_one (s_if (t_cmp op_eq (e_ix ix_tup (e_v 2) e_int) (e_ix ix_tup (e_v 2) e_int))
                (ss_one (s_expr (e_append (e_v 1) (e_op op_add_str (e_op op_add_str (e_ix ix_tup (e_v 2) e_int) e_str) (e_t call_str_int n_str PyProof.Rows.boot_str (a_cons (e_ix ix_tup (e_v 2) e_int) a_nil))))))
                (ss_one (s_expr (e_append (e_v 1) (e_op op_add_str (e_op op_add_str (e_op op_add_str (e_op op_add_str (e_ix ix_tup (e_v 2) e_int) e_str) (e_t call_str_int n_str PyProof.Rows.boot_str (a_cons (e_ix ix_tup (e_v 2) e_int) a_nil))) e_str) (e_t call_str_int n_str PyProof.Rows.boot_str (a_cons (e_ix ix_tup (e_v 2) e_int) a_nil)))))))))))))))))
    (ss_one (s_ret (e_join e_str (e_v 1)))))), ?_⟩
  have zl : sizeLine = 16777216 := sizeLine_eq
  obtain ⟨a', vs, z, ha, tds⟩ := ht.tinv
  cases z
  have lv : vs.length = xs.length := by rw [tds.len, dL_map, List.length_map]
  have lx := wL_len xs
  refine ⟨(by show 0 ≤ sizeLine; decide), fun pt hpt => ?_⟩
  have s0 := Same.new hpt (.lst [])
  refine ⟨_, rfl, a, rfl, ⟨_, SqT.of (s0 _ _ ha)⟩, for_tup (K := K) (a := a) (xs := vs) (fun i σ H' => ∃ (o2 : Option V), σ = [some (.ref a), some (.ref pt), o2] ∧ H' pt = some (.lst (((xs.take i).map txI).map V.str)) ∧ Same H H') ⟨none, rfl, (by rw [List.take_zero]; exact upd_same), s0⟩ (fun i σ H' _ ⟨_, _, _, sm⟩ => SqT.of (sm _ _ ha)) ?_ ?_⟩
  · rintro i v σ H' hvv ⟨o2, rfl, hus, sm⟩
    obtain ⟨dd, hd, tv⟩ := tds.get hvv
    obtain ⟨x, hx, rfl⟩ := dL_get hd
    have hxm : x ∈ xs := List.mem_of_getElem? hx
    have hxv := vL_iff.mp hv x hxm
    have hxd := dpL_le.mp hdp x hxm
    have hxw := wL_mem hxm
    have tv := tv.tk (TK.of sm)
    have lu : (((xs.take i).map txI).map V.str).length < sizeLine := by rw [List.length_map, List.length_map, List.length_take]; omega
    have eT : ((xs.take (i + 1)).map txI).map V.str = ((xs.take i).map txI).map V.str ++ [V.str (txI x)] := by rw [take_snoc hx, List.map_append, List.map_append]; rfl
    have o1 : ("~" : Str).length ≤ 1 := by decide
    have o2' : ("*( " : Str).length ≤ 3 := by decide
    have o3 : (" )" : Str).length ≤ 2 := by decide
    have o4 : ("-( " : Str).length ≤ 3 := by decide
    have o5 : (":" : Str).length ≤ 1 := by decide
    have o6 : ("-" : Str).length ≤ 1 := by decide
    have fin : ∀ (H2 : Hp), Same H' H2 → ∃ (o2 : Option V), [some (.ref a), some (.ref pt), some v] = [some (.ref a), some (.ref pt), o2] ∧ upd H2 pt (.lst (((xs.take i).map txI).map V.str ++ [.str (txI x)])) pt = some (.lst (((xs.take (i + 1)).map txI).map V.str)) ∧ Same H (upd H2 pt (.lst (((xs.take i).map txI).map V.str ++ [.str (txI x)]))) := fun H2 s2 => ⟨_, rfl, by rw [upd_same, eT], fun b o hb => by rw [upd_ne (ne_of_none hb hpt)]; exact s2 _ _ (sm _ _ hb)⟩
    cases x with
    | part n ys =>
      obtain ⟨av, rfl, hav⟩ := td_part tv
      rw [txI] at fin
      refine ⟨_, rfl, av, _, _, _, rfl, rfl, SqT.of hav, atI_nat (j := 0) rfl, rfl, _, rfl, iteY (seq _) ?_⟩
      exact ⟨_, rfl, .inl ⟨rfl, _, SqL.of hus⟩, _, rfl, av, _, _, _, rfl, rfl, SqT.of hav, atI_nat (j := 1) rfl, pt, _, _, rfl, rfl, hus, lu, fin H' (Same.refl _)⟩
    | fade m =>
      obtain ⟨av, rfl, hav⟩ := td_fade tv
      rw [vI] at hxv
      rw [txI] at fin
      refine ⟨_, rfl, av, _, _, _, rfl, rfl, SqT.of hav, atI_nat (j := 0) rfl, rfl, _, rfl, iteN sne ?_⟩
      refine ⟨_, rfl, av, _, _, _, rfl, rfl, SqT.of hav, atI_nat (j := 0) rfl, rfl, _, rfl, iteY (seq _) ?_⟩
      exact ⟨_, rfl, .inl ⟨rfl, _, SqL.of hus⟩, _, rfl, av, _, _, _, rfl, rfl, SqT.of hav, atI_nat (j := 1) rfl, _, rfl, lg (pos9 hxv), _, _, rfl, rfl, addS o1 (stL (pos9 hxv)) (by decide), pt, _, _, rfl, rfl, hus, lu, fin H' (Same.refl _)⟩
    | times m ys =>
      obtain ⟨av, b, rfl, hav, tb⟩ := td_times tv
      rw [vI] at hxv
      rw [txI] at fin
      rw [dpI] at hxd
      rw [wI] at hxw
      have lt := txL_len hxv.2.2
      have lt2 : (txL ys).length ≤ 6200000 := by omega
      have a1 := appS (stL (pos9 hxv.1)) o2'
      have a2 := appS a1 lt2
      refine ⟨_, rfl, av, _, _, _, rfl, rfl, SqT.of hav, atI_nat (j := 0) rfl, rfl, _, rfl, iteN sne ?_⟩
      refine ⟨_, rfl, av, _, _, _, rfl, rfl, SqT.of hav, atI_nat (j := 0) rfl, rfl, _, rfl, iteN sne ?_⟩
      refine ⟨_, rfl, av, _, _, _, rfl, rfl, SqT.of hav, atI_nat (j := 0) rfl, rfl, _, rfl, iteY (seq _) ?_⟩
      exact ⟨_, rfl, .inl ⟨rfl, _, SqL.of hus⟩, _, rfl, av, _, _, _, rfl, rfl, SqT.of hav, atI_nat (j := 1) rfl, _, rfl, lg (pos9 hxv.1), _, _, rfl, rfl, addS (stL (pos9 hxv.1)) o2' (by decide), _, rfl, av, _, _, _, rfl, rfl, SqT.of hav, atI_nat (j := 2) rfl, spTextP_of (by omega) ⟨b, ys, rfl, tb, hxv.2.2, by omega, by omega, fun H3 s3 => ⟨_, _, rfl, rfl, addS a1 lt2 (by decide), _, _, rfl, rfl, addS a2 o3 (by decide), pt, _, _, rfl, rfl, s3 _ _ hus, lu, fin H3 s3⟩⟩⟩
    | back ys =>
      obtain ⟨av, b, rfl, hav, tb⟩ := td_back tv
      rw [vI] at hxv
      rw [txI] at fin
      rw [dpI] at hxd
      rw [wI] at hxw
      have lt := txL_len hxv.2
      have lt2 : (txL ys).length ≤ 6200000 := by omega
      have a2 := appS o4 lt2
      refine ⟨_, rfl, av, _, _, _, rfl, rfl, SqT.of hav, atI_nat (j := 0) rfl, rfl, _, rfl, iteN sne ?_⟩
      refine ⟨_, rfl, av, _, _, _, rfl, rfl, SqT.of hav, atI_nat (j := 0) rfl, rfl, _, rfl, iteN sne ?_⟩
      refine ⟨_, rfl, av, _, _, _, rfl, rfl, SqT.of hav, atI_nat (j := 0) rfl, rfl, _, rfl, iteN sne ?_⟩
      refine ⟨_, rfl, av, _, _, _, rfl, rfl, SqT.of hav, atI_nat (j := 0) rfl, rfl, _, rfl, iteY (seq _) ?_⟩
      exact ⟨_, rfl, .inl ⟨rfl, _, SqL.of hus⟩, _, rfl, av, _, _, _, rfl, rfl, SqT.of hav, atI_nat (j := 1) rfl, spTextP_of (by omega) ⟨b, ys, rfl, tb, hxv.2, by omega, by omega, fun H3 s3 => ⟨_, _, rfl, rfl, addS o4 lt2 (by decide), _, _, rfl, rfl, addS a2 o3 (by decide), pt, _, _, rfl, rfl, s3 _ _ hus, lu, fin H3 s3⟩⟩⟩
    | clip r f l =>
      obtain ⟨av, rfl, hav⟩ := td_clip tv
      rw [vI] at hxv
      rw [txI] at fin
      have r8 := hxv.1.l2
      have f9 := stL hxv.2.1
      have l9 := stL hxv.2.2
      refine ⟨_, rfl, av, _, _, _, rfl, rfl, SqT.of hav, atI_nat (j := 0) rfl, rfl, _, rfl, iteN sne ?_⟩
      refine ⟨_, rfl, av, _, _, _, rfl, rfl, SqT.of hav, atI_nat (j := 0) rfl, rfl, _, rfl, iteN sne ?_⟩
      refine ⟨_, rfl, av, _, _, _, rfl, rfl, SqT.of hav, atI_nat (j := 0) rfl, rfl, _, rfl, iteN sne ?_⟩
      refine ⟨_, rfl, av, _, _, _, rfl, rfl, SqT.of hav, atI_nat (j := 0) rfl, rfl, _, rfl, iteN sne ?_⟩
      refine ⟨_, rfl, av, _, _, _, rfl, rfl, SqT.of hav, atI_nat (j := 2) rfl, _, rfl, av, _, _, _, rfl, rfl, SqT.of hav, atI_nat (j := 3) rfl, rfl, _, rfl, ?_⟩
      by_cases e : f = l
      · subst e
        rw [clipS, if_pos rfl] at fin
        refine iteY (decide_eq_true rfl) ?_
        exact ⟨_, rfl, .inl ⟨rfl, _, SqL.of hus⟩, _, rfl, av, _, _, _, rfl, rfl, SqT.of hav, atI_nat (j := 1) rfl, _, _, rfl, rfl, addS r8 o5 (by decide), _, rfl, av, _, _, _, rfl, rfl, SqT.of hav, atI_nat (j := 2) rfl, _, rfl, lg hxv.2.1, _, _, rfl, rfl, addS (appS r8 o5) f9 (by decide), pt, _, _, rfl, rfl, hus, lu, fin H' (Same.refl _)⟩
      · rw [clipS, if_neg e] at fin
        refine iteN (decide_eq_false fun z => e (V.int.inj z)) ?_
        exact ⟨_, rfl, .inl ⟨rfl, _, SqL.of hus⟩, _, rfl, av, _, _, _, rfl, rfl, SqT.of hav, atI_nat (j := 1) rfl, _, _, rfl, rfl, addS r8 o5 (by decide), _, rfl, av, _, _, _, rfl, rfl, SqT.of hav, atI_nat (j := 2) rfl, _, rfl, lg hxv.2.1, _, _, rfl, rfl, addS (appS r8 o5) f9 (by decide), _, _, rfl, rfl, addS (appS (appS r8 o5) f9) o6 (by decide), _, rfl, av, _, _, _, rfl, rfl, SqT.of hav, atI_nat (j := 3) rfl, _, rfl, lg hxv.2.2, _, _, rfl, rfl, addS (appS (appS (appS r8 o5) f9) o6) l9 (by decide), pt, _, _, rfl, rfl, hus, lu, fin H' (Same.refl _)⟩
  · rintro σ H' ⟨o2, rfl, hus, sm⟩
    rw [lv, List.take_length] at hus
    refine ⟨rfl, _, rfl, _, pt, xs.map txI, rfl, rfl, SqL.of hus, (by have := join_txs hv hw; rw [txs_map] at this; exact this), ?_⟩
    have e : Txt.join (Str.ofString " ") (xs.map txI) = txL xs := by rw [txL, txs_map]
    rw [e]
    exact q H' sm
end
end K06

set_option linter.all false
set_option maxRecDepth 100000
set_option maxHeartbeats 2000000
namespace K06
open PySem L2 G DT
open IT hiding It
open KW
/-- what is at hand behind a raise, one field -/
theorem raised1 {H H1 : Hp} {a dx : Addr} {o x o' : HO} (s1 : Same H H1) (ha : H1 a = none) (hdx : upd H1 a o dx = none) (hne : dx ≠ a) : Same H (del (upd (upd (upd H1 a o) dx x) a o') a) ∧ del (upd (upd (upd H1 a o) dx x) a o') a dx = some x := by
  refine ⟨Same.del ?_ (s1.free ha), by rw [del_ne hne, upd_ne hne]; exact upd_same⟩
  intro b o hb
  have hb1 := s1 _ _ hb
  rw [upd_ne (ne_of_none hb1 ha), upd_ne, upd_ne (ne_of_none hb1 ha)]
  · exact hb1
  · intro z
    subst z
    rw [upd_ne hne, hb1] at hdx
    cases hdx
theorem sOne (x : Nat) (s : Str) (h : TX.L s = [x]) : s = ⟨#[x]⟩ := TX.ext h
theorem W640 {x : Str} {n : Nat} (h : x.length ≤ n) (hn : n ≤ 640) : x.length ≤ 640 := Nat.le_trans h hn
theorem numT_of {x : Str} (h : nuB x = true) : KR.NumT x := by
  unfold nuB at h
  rw [Bool.and_eq_true, Bool.and_eq_true, Bool.and_eq_true] at h
  obtain ⟨⟨⟨h1, h2⟩, h3⟩, h4⟩ := h
  refine ⟨of_decide_eq_true h1, of_decide_eq_true h2, fun c hc => ?_, ?_⟩
  · have := of_decide_eq_true (List.all_eq_true.mp h3 c hc)
    rw [K01.figL] at this
    simp only [List.mem_cons, List.not_mem_nil, or_false] at this
    omega
  · rw [Bool.or_eq_true] at h4
    exact h4.imp of_decide_eq_true of_decide_eq_true
theorem coT_of {x : Str} (h : coB x = true) : KR.NumT x ∧ x ≠ ("0" : Str) := by
  unfold coB at h
  rw [Bool.and_eq_true] at h
  refine ⟨numT_of h.1, fun z => ?_⟩
  rw [z] at h
  exact absurd h.2 (by decide)
theorem name_of {x : Str} (h : nmB x = true) : NameOk x := by
  unfold nmB at h
  rw [Bool.and_eq_true, Bool.and_eq_true] at h
  obtain ⟨⟨h1, h2⟩, h3⟩ := h
  refine ⟨of_decide_eq_true h1, of_decide_eq_true h2, fun c hc => ?_⟩
  have := of_decide_eq_true (List.all_eq_true.mp h3 c hc)
  rw [smallL] at this
  simp only [List.mem_cons, List.not_mem_nil, or_false] at this
  omega
section
variable {P : Program} {w : World} {K : PySem.W.Frag} {mg : Str → Option Value} {base : Heap}
def spInit (C : Addr) (f : Str) : Sp := fun vs H Q _ => ∃ a y, vs = [.ref a, y] ∧ H a = some (newO a C none) ∧ ∀ dx, H dx = none → dx ≠ a → Q .non (upd (upd H dx (xdO dx [(f, y)])) a (newO a C (some dx)))
theorem scInit : FnScope ["self", "word"] ["self", "word"] (defScope s_NoList_init) := ⟨rfl, rfl, rfl, by decide +kernel, rfl, by decide +kernel, by decide +kernel⟩
theorem ok_init {f C : Addr} {fd : FuncData} (F : Fun K "__init__" "NoList.__init__" s_NoList_init f fd) (XC : XCls K C) (XN : XNo K C "word") : FnOk P w K mg base CX0 1 f fd ["self", "word"] (spInit C "word") := by
  refine F.ok scInit (fun vs H Q E h => ?_) (fun cdv A outer s0 H vs Q E hr h => ?_)
  · obtain ⟨a, y, rfl, _⟩ := h
    rfl
  obtain ⟨a, y, rfl, hH, q⟩ := h
  refine ⟨_, QSs.h (ss_one (s_xset (e_v 0) (e_v 1))), ?_⟩
  exact ⟨_, rfl, _, rfl, a, C, rfl, XC, XN, .inl ⟨hH, fun dx n1 n2 => q dx n1 n2⟩⟩
def spOpen : Sp := fun vs H Q _ => ∃ x : Str, vs = [.str x] ∧ x.length ≤ 100000 ∧ ((∃ w : Wd, x = w.s ∧ w.ok ∧ (∀ m, w = .opT m → ∀ t H', Same H H' → H' t = some (.tup [.str "times", .int m]) → Q (.ref t) H') ∧ (w = .opB → ∀ t H', Same H H' → H' t = some (.tup [.str "back"]) → Q (.ref t) H') ∧ (w ≠ .opB → (∀ m, w ≠ .opT m) → ∀ H', Same H H' → Q .non H')) ∨ (KR.Bad x ∧ ∀ H', Same H H' → Q .non H'))
theorem scOpen : FnScope ["word", "many"] ["word"] (defScope s_read_opening) := ⟨rfl, rfl, rfl, by decide +kernel, rfl, by decide +kernel, by decide +kernel⟩
theorem ok_open {f : Addr} {fd : FuncData} {t1 t2 : Tok} (F : Fun K "read_opening" "read_opening" s_read_opening f fd) (dIsCount : Def P w K mg base CX0 "is_count" 4 ["text"] spCoB) (mTO : mg "TIMES_OPEN" = some (.str "*(" t1)) (mBO : mg "BACK_OPEN" = some (.str "-(" t2)) (n_len : mg "len" = none) (n_int : mg "int" = none) :
    FnOk P w K mg base CX0 5 f fd ["word"] spOpen := by
  refine F.ok scOpen (fun vs H Q E h => ?_) (fun cdv A outer s H vs Q E hr h => ?_)
  · obtain ⟨x, rfl, _⟩ := h
    rfl
  obtain ⟨x, rfl, lx, h⟩ := h
  refine ⟨_, QSs.h (ss_cons (s_if (t_cmp op_eq (e_v 0) (e_gl (v := .str "-(") mBO ⟨_, rfl⟩))
      (ss_one (s_ret (e_tup (a_cons e_str a_nil))))
      ss_nil)
    (ss_cons (s_set (i := 1) scOpen.nd (e_sl sl_str (e_v 0) o_none (o_some (e_un un_neg (e_b call_len_str n_len PySem.boot_len (a_cons (e_gl (v := .str "*(") mTO ⟨_, rfl⟩) a_nil))))))
    (ss_cons (s_if (t_w (w_and (t_val (e_endswith (e_v 0) (e_gl (v := .str "*(") mTO ⟨_, rfl⟩))) (w_and1 (t_val (e_call dIsCount hr pass0 (a_cons (e_v 1) a_nil))))))
      (ss_one (s_ret (e_tup (a_cons e_str (a_cons (e_t call_int_text n_int PyProof.Rows.boot_int (a_cons (e_v 1) a_nil)) a_nil)))))
      ss_nil)
    (ss_one (s_ret e_non))))), ?_⟩
  have o2 : ("*(" : Str).length ≤ 2 := by decide
  rcases h with ⟨w, rfl, ok, qT, qB, qN⟩ | ⟨bad, q⟩
  · skip
    have l30 := Wd.len ok
    refine ⟨_, rfl, rfl, _, rfl, ?_⟩
    by_cases hB : w = .opB
    · subst hB
      refine iteY (seq _) ⟨(by show 1 ≤ sizeLine; decide), fun t ht => ?_⟩
      exact qB rfl t _ (Same.new ht _) upd_same
    · refine iteN (Wd.neB ok hB) ?_
      refine ⟨_, rfl, _, rfl, lenS o2 (by decide), _, rfl, _, rfl, _, rfl, lenS l30 (by decide), ?_⟩
      by_cases hT : ∃ m, w = .opT m
      · obtain ⟨m, rfl⟩ := hT
        have m9 := pos9 ok
        have e2 : ("*(" : Str).length = 2 := by decide
        have hlen : (Wd.opT m).s.length = (TX.st m).length + 2 := by
          rw [← TX.L_len]
          show (TX.L (TX.st m ++ ("*(" : Str))).length = _
          rw [TX.L_app, topen, List.length_append]
          rfl
        have es : Txt.slice (Wd.opT m).s none (some (-(((Str.ofString "*(").length : Nat) : Int))) = TX.st m := by
          refine TX.ext ?_
          rw [show (Str.ofString "*(").length = 2 from e2, TX.sl_neg (k := 2) (by decide) (by omega), hlen]
          show (TX.L (TX.st m ++ ("*(" : Str))).take _ = _
          rw [TX.L_app, Nat.add_sub_cancel, ← TX.L_len (TX.st m), List.take_left]
        have ee : Txt.endswith (Wd.opT m).s (Str.ofString "*(") = true := TX.ends_iff.mpr ⟨TX.L (TX.st m), by show TX.L (TX.st m ++ ("*(" : Str)) = _; rw [TX.L_app]⟩
        refine ⟨_, rfl, rfl, _, _, rfl, rfl, _, rfl, iteY ee ?_⟩
        refine ⟨_, rfl, TX.st m, congrArg (fun z => [V.str z]) es, Nat.le_trans (stL m9) (by decide), fun H1 s1 => ⟨_, rfl, iteY (co_st ok) ?_⟩⟩
        refine ⟨_, rfl, TX.st m, m, congrArg (fun z => [V.str z]) es, TX.st_int m9.1 (by have := m9.2; omega), W640 (stL m9) (by decide), (by show 2 ≤ sizeLine; decide), fun t ht => ?_⟩
        exact qT m rfl t _ (s1.trans (Same.new ht _)) upd_same
      · have hT' : ∀ m, w ≠ .opT m := fun m e => hT ⟨m, e⟩
        refine ⟨_, rfl, rfl, _, _, rfl, rfl, _, rfl, iteN (Wd.noT ok hB hT') (iteF ?_)⟩
        exact qN hB hT' H (Same.refl _)
  · have nb : decide (V.str x = V.str "-(") = false := decide_eq_false fun z => bad.back (V.str.inj z)
    refine ⟨_, rfl, rfl, _, rfl, iteN nb ?_⟩
    refine ⟨_, rfl, _, rfl, lenS o2 (by decide), _, rfl, _, rfl, _, rfl, lenS lx (by decide), ?_⟩
    refine ⟨_, rfl, rfl, _, _, rfl, rfl, _, rfl, ?_⟩
    cases ee : Txt.endswith x (Str.ofString "*(") with
    | false => exact iteF (iteF (q H (Same.refl _)))
    | true =>
      refine iteT ?_
      obtain ⟨p, hp⟩ := TX.ends_iff.mp ee
      have e2 : (Str.ofString "*(").length = 2 := by decide
      have hp : TX.L x = p ++ [42, 40] := by rw [hp]; exact congrArg (p ++ ·) topen
      have hl : x.length = p.length + 2 := by rw [← TX.L_len, hp, List.length_append]; rfl
      have es : TX.L (Txt.slice x none (some (-(((Str.ofString "*(").length : Nat) : Int)))) = p := by
        rw [e2, TX.sl_neg (k := 2) (by decide) (by omega), hl, hp, Nat.add_sub_cancel, List.take_left]
      refine ⟨_, rfl, _, rfl, (by rw [← TX.L_len, es]; omega), fun H1 s1 => ⟨_, rfl, ?_⟩⟩
      cases ec : coB (Txt.slice x none (some (-(((Str.ofString "*(").length : Nat) : Int)))) with
      | false => exact iteF (q H1 s1)
      | true =>
        obtain ⟨n1, n2⟩ := coT_of ec
        exact absurd (by rw [es]; exact hp) (bad.times n1 n2)
/-! ### read_clip -/
def spClip : Sp := fun vs H Q _ => ∃ x : Str, vs = [.str x] ∧ x.length ≤ 100000 ∧ ((∃ (r : Str) (f l : Int), x = clipS r f l ∧ NameOk r ∧ Num9 f ∧ Num9 l ∧ ∀ t H', Same H H' → H' t = some (.tup [.str "clip", .str r, .int f, .int l]) → Q (.ref t) H') ∨ ((∀ (r : Str) (f l : Int), NameOk r → Num9 f → Num9 l → x ≠ clipS r f l) ∧ ∀ H', Same H H' → Q .non H'))
theorem clip_head {r : Str} {f l : Int} (hr : NameOk r) : (Txt.partition (clipS r f l) (Str.ofString ":")).1 = r := by
  rw [sOne 58 (Str.ofString ":") colon]
  refine TX.ext ?_
  have hc : 58 ∉ TX.L r := fun z => by have := hr.sm 58 z; omega
  by_cases e : f = l
  · subst e
    exact TX.part_head (clipS_eq r f) hc
  · exact TX.part_head (clipS_ne r e) hc
theorem clip_rest {r : Str} {f l : Int} (hf : Num9 f) (hl : Num9 l) : Txt.split (Txt.slice (clipS r f l) (some (((r.length : Nat) : Int) + 1)) none) (Str.ofString "-") = if f = l then [TX.st f] else [TX.st f, TX.st l] := by
  rw [sOne 45 (Str.ofString "-") dash]
  have nd : ∀ {i : Int}, Num9 i → 45 ∉ TX.L (TX.st i) := fun hi z => by have := st_digI hi 45 z; omega
  have hdrop : ∀ (B : List Nat), TX.L (clipS r f l) = TX.L r ++ 58 :: B → TX.L (Txt.slice (clipS r f l) (some (((r.length : Nat) : Int) + 1)) none) = B := fun B h => by
    have hlen : (clipS r f l).length = r.length + 1 + B.length := by rw [← TX.L_len, h, List.length_append, List.length_cons, TX.L_len]; omega
    rw [TX.sl_from (by omega) (by omega), h, show (((r.length : Nat) : Int) + 1).toNat = (TX.L r).length + 1 by rw [TX.L_len]; omega, ← List.drop_drop, List.drop_left]
    rfl
  by_cases e : f = l
  · subst e
    rw [if_pos rfl]
    refine TX.split_is (List.cons_ne_nil _ _) (fun p hp => ?_) ?_
    · rw [List.mem_singleton.mp hp]
      exact nd hf
    · rw [hdrop _ (clipS_eq r f)]
      simp [TX.jn]
  · rw [if_neg e]
    refine TX.split_is (List.cons_ne_nil _ _) (fun p hp => ?_) ?_
    · rcases List.mem_cons.mp hp with rfl | hp
      · exact nd hf
      · rw [List.mem_singleton.mp hp]
        exact nd hl
    · rw [hdrop _ (clipS_ne r e)]
      simp [TX.jn]
theorem scClip : FnScope ["word", "reel", "frames"] ["word"] (defScope s_read_clip) := ⟨rfl, rfl, rfl, by decide +kernel, rfl, by decide +kernel, by decide +kernel⟩
theorem ok_clip {f : Addr} {fd : FuncData} (F : Fun K "read_clip" "read_clip" s_read_clip f fd) (dName : Def P w K mg base CX0 "is_name" 2 ["value"] spName) (dIsNum : Def P w K mg base CX0 "is_number" 3 ["text"] spNumB) (n_len : mg "len" = none) (n_int : mg "int" = none) (n_all : mg "all" = none) :
    FnOk P w K mg base CX0 4 f fd ["word"] spClip := by
  refine F.ok scClip (fun vs H Q E h => ?_) (fun cdv A outer s H vs Q E hr h => ?_)
  · obtain ⟨x, rfl, _⟩ := h
    rfl
  obtain ⟨x, rfl, lx, h⟩ := h
  refine ⟨_, QSs.h (ss_cons (s_set (i := 1) scClip.nd (e_ix ix_tup (e_partition (e_v 0) e_str) e_int))
    (ss_cons (s_set (i := 2) scClip.nd (e_split (e_sl sl_str (e_v 0) (o_some (e_op op_add (e_b call_len_str n_len PySem.boot_len (a_cons (e_v 1) a_nil)) e_int)) o_none) e_str))
    (ss_cons (s_if (t_w (w_or (t_not (t_val (e_call dName hr pass0 (a_cons (e_v 1) a_nil)))) (w_or (t_cmp op_gt (e_b call_len_seq n_len PySem.boot_len (a_cons (e_v 2) a_nil)) e_int) (w_or1 (t_not (t_val (e_b call_all n_all PyProof.Rows.boot_all (a_cons (e_comp [] [] [] rfl trivial trivial (i_list (e_v 2)) (fun _ _ _ _ => (e_call dIsNum hr pass0 (a_cons (e_n 0) a_nil)))) a_nil))))))))
      (ss_one (s_ret e_non))
      ss_nil)
    (ss_cons (s_if (t_w (w_and (t_cmp op_eq (e_b call_len_seq n_len PySem.boot_len (a_cons (e_v 2) a_nil)) e_int) (w_and1 (t_cmp op_eq (e_ix ix_list (e_v 2) e_int) (e_ix ix_list (e_v 2) e_int)))))
      (ss_one (s_ret e_non))
      ss_nil)
    (ss_one (s_ret (e_tup (a_cons e_str (a_cons (e_v 1) (a_cons (e_t call_int_text n_int PyProof.Rows.boot_int (a_cons (e_ix ix_list (e_v 2) e_int) a_nil)) (a_cons (e_t call_int_text n_int PyProof.Rows.boot_int (a_cons (e_ix ix_list (e_v 2) (e_un un_neg e_int)) a_nil)) a_nil))))))))))), ?_⟩
  have zl : sizeLine = 16777216 := sizeLine_eq
  rcases h with ⟨r, f, l, rfl, hr', hf, hl, q⟩ | ⟨noc, q⟩
  · skip
    have l30 : (clipS r f l).length ≤ 30 := Wd.len (w := .clip r f l) ⟨hr', hf, hl⟩
    have r8 := hr'.l2
    refine ⟨_, rfl, rfl, _, _, rfl, rfl, (by decide), lenS l30 (by decide), fun p hp => ⟨p, _, _, .str r, rfl, rfl, SqT.of upd_same, atI_nat (j := 0) (by show some (V.str (Txt.partition (clipS r f l) (Str.ofString ":")).1) = some (V.str r); rw [clip_head hr']), ?_⟩⟩
    have t0 := Same.new hp (.tup [.str (Txt.partition (clipS r f l) (Str.ofString ":")).1, .str (Txt.partition (clipS r f l) (Str.ofString ":")).2.1, .str (Txt.partition (clipS r f l) (Str.ofString ":")).2.2])
    have ls : (Txt.slice (clipS r f l) (some (((r.length : Nat) : Int) + 1)) none).length ≤ 30 := Nat.le_trans (Txt.slice_le _ _ _) l30
    refine ⟨_, rfl, _, rfl, _, rfl, lenS r8 (by decide), _, _, rfl, rfl, _, rfl, _, rfl, lenS l30 (by decide), rfl, _, _, rfl, rfl, (by decide), (by omega), fun pf hpf => ?_⟩
    obtain ⟨fs, hfs, hnum, hl2⟩ : ∃ fs : List Str, Txt.split (Txt.slice (clipS r f l) (some (((r.length : Nat) : Int) + 1)) none) (Str.ofString "-") = fs ∧ (∀ x ∈ fs, nuB x = true ∧ x.length ≤ 9) ∧ fs.length ≤ 2 := by
      refine ⟨_, clip_rest hf hl, fun x hx => ?_, ?_⟩
      · by_cases e : f = l
        · rw [if_pos e] at hx
          rw [List.mem_singleton.mp hx]
          exact ⟨nu_st hf, stL hf⟩
        · rw [if_neg e] at hx
          rcases List.mem_cons.mp hx with rfl | hx
          · exact ⟨nu_st hf, stL hf⟩
          · rw [List.mem_singleton.mp hx]
            exact ⟨nu_st hl, stL hl⟩
      · split
        · exact (by decide : (1 : Nat) ≤ 2)
        · exact Nat.le_refl 2
    have tf := Same.new hpf (.lst ((Txt.split (Txt.slice (clipS r f l) (some (((r.length : Nat) : Int) + 1)) none) (Str.ofString "-")).map V.str))
    have T := t0.trans tf
    generalize hH2 : upd (upd H p (.tup [.str (Txt.partition (clipS r f l) (Str.ofString ":")).1, .str (Txt.partition (clipS r f l) (Str.ofString ":")).2.1, .str (Txt.partition (clipS r f l) (Str.ofString ":")).2.2])) pf (.lst ((Txt.split (Txt.slice (clipS r f l) (some (((r.length : Nat) : Int) + 1)) none) (Str.ofString "-")).map V.str)) = H2 at T
    have hf2 : H2 pf = some (.lst (fs.map V.str)) := by rw [← hH2, upd_same, hfs]
    refine ⟨_, rfl, r, rfl, Nat.le_trans r8 (by decide), fun H3 s3 => ⟨_, rfl, iteN (by rw [nm_name hr']; rfl) ?_⟩⟩
    refine ⟨_, rfl, pf, _, rfl, .inl (SqL.of (s3 _ _ hf2)), _, _, rfl, rfl, _, rfl, iteN (decide_eq_false (by rw [List.length_map]; omega)) ?_⟩
    refine ⟨_, rfl, pf, rfl, ⟨_, SqL.of (s3 _ _ hf2)⟩, comp_list (fs.map fun _ => V.bl true) (SqL.of (s3 _ _ hf2)) (by rw [List.length_map]; omega) (by rw [List.length_map, List.length_map]) ?_ ?_⟩
    · intro i x y H' R hS hx hy hR
      rw [List.getElem?_map] at hx hy
      cases e : fs[i]? with
      | none => rw [e] at hx; cases hx
      | some z =>
        rw [e] at hx hy
        cases hx
        cases hy
        obtain ⟨n1, n2⟩ := hnum z (List.mem_of_getElem? e)
        exact ⟨_, rfl, z, rfl, Nat.le_trans n2 (by decide), fun H'' s'' => by rw [n1]; exact hR H'' s''⟩
    intro D H4 s4 hD0 hD
    have s34 := s3.trans s4
    refine ⟨D, fs.map fun _ => true, rfl, SqL.of (by rw [hD, List.map_map]; rfl), rfl, _, rfl, iteN (by rw [show ((fs.map fun _ => true).all id) = true from List.all_eq_true.mpr fun x hx => by obtain ⟨_, _, rfl⟩ := List.mem_map.mp hx; rfl]; rfl) ?_⟩
    have hf4 := s34 _ _ hf2
    have U := T.trans s34
    by_cases e : f = l
    · have ef : fs = [TX.st f] := by rw [← hfs, clip_rest hf hl, if_pos e]
      subst e
      rw [ef] at hf4
      refine ⟨_, rfl, pf, _, rfl, .inl (SqL.of hf4), rfl, _, rfl, iteN (decide_eq_false fun z => by have z : (1 : Int) = 2 := V.int.inj z; exact absurd z (by decide)) (iteF ?_)⟩
      refine ⟨_, rfl, _, rfl, pf, _, _, _, rfl, rfl, SqL.of hf4, atI_nat (j := 0) rfl, _, f, rfl, TX.st_int hf.1 (by have := hf.2; omega), W640 (stL hf) (by decide), _, rfl, _, rfl, pf, _, _, _, rfl, rfl, SqL.of hf4, (show atI [V.str (TX.st f)] (-1) = some (V.str (TX.st f)) from rfl), _, f, rfl, TX.st_int hf.1 (by have := hf.2; omega), W640 (stL hf) (by decide), (by show 4 ≤ sizeLine; decide), fun t ht => ?_⟩
      exact q t _ (U.trans (Same.new ht _)) upd_same
    · have ef : fs = [TX.st f, TX.st l] := by rw [← hfs, clip_rest hf hl, if_neg e]
      rw [ef] at hf4
      have hne : TX.st f ≠ TX.st l := fun z => by
        obtain ⟨m, rfl, _⟩ := hf.nat
        obtain ⟨n, rfl, _⟩ := hl.nat
        exact e (congrArg _ (TX.st_inj (congrArg TX.L z)))
      refine ⟨_, rfl, pf, _, rfl, .inl (SqL.of hf4), rfl, _, rfl, iteY (decide_eq_true rfl) ?_⟩
      refine ⟨_, rfl, pf, _, _, _, rfl, rfl, SqL.of hf4, atI_nat (j := 0) rfl, _, rfl, pf, _, _, _, rfl, rfl, SqL.of hf4, atI_nat (j := 1) rfl, rfl, _, rfl, iteN (decide_eq_false fun z => hne (V.str.inj z)) ?_⟩
      refine ⟨_, rfl, _, rfl, pf, _, _, _, rfl, rfl, SqL.of hf4, atI_nat (j := 0) rfl, _, f, rfl, TX.st_int hf.1 (by have := hf.2; omega), W640 (stL hf) (by decide), _, rfl, _, rfl, pf, _, _, _, rfl, rfl, SqL.of hf4, (show atI [V.str (TX.st f), V.str (TX.st l)] (-1) = some (V.str (TX.st l)) from rfl), _, l, rfl, TX.st_int hl.1 (by have := hl.2; omega), W640 (stL hl) (by decide), (by show 4 ≤ sizeLine; decide), fun t ht => ?_⟩
      exact q t _ (U.trans (Same.new ht _)) upd_same
  · have e58 : Str.ofString ":" = ⟨#[58]⟩ := sOne 58 _ colon
    have e45 : Str.ofString "-" = ⟨#[45]⟩ := sOne 45 _ dash
    have lr := KR.part_le x 58
    rw [← e58] at lr
    refine ⟨_, rfl, rfl, _, _, rfl, rfl, (by decide), lenS lx (by decide), fun p hp => ⟨p, _, _, _, rfl, rfl, SqT.of upd_same, atI_nat (j := 0) rfl, ?_⟩⟩
    have t0 := Same.new hp (.tup [.str (Txt.partition x (Str.ofString ":")).1, .str (Txt.partition x (Str.ofString ":")).2.1, .str (Txt.partition x (Str.ofString ":")).2.2])
    generalize hr0 : (Txt.partition x (Str.ofString ":")).1 = r at lr
    have ls : (Txt.slice x (some (((r.length : Nat) : Int) + 1)) none).length ≤ 100000 := Nat.le_trans (Txt.slice_le _ _ _) lx
    refine ⟨_, rfl, _, rfl, _, rfl, lenS (Nat.le_trans lr lx) (by decide), _, _, rfl, rfl, _, rfl, _, rfl, lenS lx (by decide), rfl, _, _, rfl, rfl, (by decide), (by omega), fun pf hpf => ?_⟩
    have tf := Same.new hpf (.lst ((Txt.split (Txt.slice x (some (((r.length : Nat) : Int) + 1)) none) (Str.ofString "-")).map V.str))
    rw [hr0] at t0
    have T := t0.trans tf
    have cc := KR.clip_conv (x := x)
    rw [← e58, ← e45, hr0] at cc
    have hle : ∀ z ∈ Txt.split (Txt.slice x (some (((r.length : Nat) : Int) + 1)) none) (Str.ofString "-"), z.length ≤ 100000 := fun z hz => by rw [e45] at hz; exact Nat.le_trans (KR.split_le hz) ls
    generalize hH2 : upd (upd H p (.tup [.str r, .str (Txt.partition x (Str.ofString ":")).2.1, .str (Txt.partition x (Str.ofString ":")).2.2])) pf (.lst ((Txt.split (Txt.slice x (some (((r.length : Nat) : Int) + 1)) none) (Str.ofString "-")).map V.str)) = H2 at T
    have hf2 : H2 pf = some (.lst ((Txt.split (Txt.slice x (some (((r.length : Nat) : Int) + 1)) none) (Str.ofString "-")).map V.str)) := by rw [← hH2, upd_same]
    generalize Txt.split (Txt.slice x (some (((r.length : Nat) : Int) + 1)) none) (Str.ofString "-") = fs at *
    refine ⟨_, rfl, r, rfl, by omega, fun H3 s3 => ⟨_, rfl, ?_⟩⟩
    cases en : nmB r with
    | false => exact iteT (q H3 (T.trans s3))
    | true =>
      refine iteF ⟨_, rfl, pf, _, rfl, .inl (SqL.of (s3 _ _ hf2)), _, _, rfl, rfl, _, rfl, ?_⟩
      refine ite2 (fun c2 => q H3 (T.trans s3)) (fun c2 => ?_)
      have h2 : fs.length ≤ 2 := by
        have c2 := of_decide_eq_false (Bool.eq_false_iff.mpr c2)
        rw [List.length_map] at c2
        omega
      refine ⟨_, rfl, pf, rfl, ⟨_, SqL.of (s3 _ _ hf2)⟩, comp_list (fs.map fun z => V.bl (nuB z)) (SqL.of (s3 _ _ hf2)) (by rw [List.length_map]; omega) (by rw [List.length_map, List.length_map]) ?_ ?_⟩
      · intro i x' y H' R hS hx hy hR
        rw [List.getElem?_map] at hx hy
        cases e : fs[i]? with
        | none => rw [e] at hx; cases hx
        | some z =>
          rw [e] at hx hy
          cases hx
          cases hy
          exact ⟨_, rfl, z, rfl, hle z (List.mem_of_getElem? e), fun H'' s'' => hR H'' s''⟩
      intro D H4 s4 hD0 hD
      have U := T.trans (s3.trans s4)
      have hf4 := s4 _ _ (s3 _ _ hf2)
      refine ⟨D, fs.map nuB, rfl, SqL.of (by rw [hD, List.map_map]; rfl), rfl, _, rfl, ?_⟩
      cases ea : (fs.map nuB).all id with
      | false => exact iteT (q H4 U)
      | true =>
        refine iteF ?_
        have hn : ∀ z ∈ fs, KR.NumT z := fun z hz => numT_of (List.all_eq_true.mp ea _ (List.mem_map.mpr ⟨z, hz, rfl⟩))
        have no : (∀ a b, fs = [a, b] → a ≠ b) → False := fun hd => by
          obtain ⟨r', f', l', h1, h3, h4, h5⟩ := cc (name_of en) h2 hn hd
          exact noc r' f' l' h1 h3 h4 h5
        by_cases l2 : fs.length = 2
        · obtain ⟨a, b, rfl⟩ : ∃ a b, fs = [a, b] := by
            match fs, l2 with
            | [a, b], _ => exact ⟨a, b, rfl⟩
          by_cases eab : a = b
          · subst eab
            refine ⟨_, rfl, pf, _, rfl, .inl (SqL.of hf4), rfl, _, rfl, iteY (decide_eq_true rfl) ?_⟩
            exact ⟨_, rfl, pf, _, _, _, rfl, rfl, SqL.of hf4, atI_nat (j := 0) rfl, _, rfl, pf, _, _, _, rfl, rfl, SqL.of hf4, atI_nat (j := 1) rfl, rfl, _, rfl, iteY (decide_eq_true rfl) (q H4 U)⟩
          · exact (no fun a' b' e => by obtain ⟨rfl, e2⟩ := List.cons.inj e; obtain ⟨rfl, _⟩ := List.cons.inj e2; exact eab).elim
        · exact (no fun a b e => absurd (by rw [e]; rfl) l2).elim
/-! ### read_item -/
open KR (isLeaf)
def spItemR (CL : Addr) : Sp := fun vs H Q E => ∃ (x : Str) (n : V), vs = [.str x, n] ∧ x.length ≤ 100000 ∧ ((∃ w : Wd, x = w.s ∧ w.ok ∧ isLeaf w ∧ ∀ t H', Same H H' → Td H' (.ref t) (dI (leaf w)) → Q (.ref t) H') ∨ (KR.NoLeaf x ∧ ∀ H' dx, Same H H' → H' dx = some (xdO dx [("word", n)]) → E (.ref CL) (some dx) H'))
theorem scItemR : FnScope ["word", "number", "clip"] ["word", "number"] (defScope s_read_item) := ⟨rfl, rfl, rfl, by decide +kernel, rfl, by decide +kernel, by decide +kernel⟩
theorem ok_itemR {f CL fI : Addr} {fd fdI : FuncData} (F : Fun K "read_item" "read_item" s_read_item f fd) (dName : Def P w K mg base CX0 "is_name" 2 ["value"] spName) (dIsCount : Def P w K mg base CX0 "is_count" 4 ["text"] spCoB) (dClip : Def P w K mg base CX0 "read_clip" 4 ["word"] spClip) (n_int : mg "int" = none)
    (m_NoList : mg "NoList" = some (.ref CL)) (R_NoList : XRaise K CL fI) (G_NoList : FnOk P w K mg base CX0 1 fI fdI ["self", "word"] (spInit CL "word")) (b_NoList : Binds K fdI ["self", "word"] []) :
    FnOk P w K mg base (CX1 P w) 5 f fd ["word", "number"] (spItemR CL) := by
  refine F.okX scItemR (fun vs H Q E h => ?_) (fun cdv A outer s H vs Q E hr h => ?_)
  · obtain ⟨x, n, rfl, _⟩ := h
    rfl
  obtain ⟨x, n, rfl, lx, h⟩ := h
  refine ⟨_, QSs.h (ss_cons (s_if (t_val (e_call dName hr pass0 (a_cons (e_v 0) a_nil)))
      (ss_one (s_ret (e_tup (a_cons e_str (a_cons (e_v 0) a_nil)))))
      ss_nil)
    (ss_cons (s_if (t_w (w_and (t_val (e_startswith (e_v 0) e_str)) (w_and1 (t_val (e_call dIsCount hr pass0 (a_cons (e_sl sl_str (e_v 0) (o_some e_int) o_none) a_nil))))))
      (ss_one (s_ret (e_tup (a_cons e_str (a_cons (e_t call_int_text n_int PyProof.Rows.boot_int (a_cons (e_sl sl_str (e_v 0) (o_some e_int) o_none) a_nil)) a_nil)))))
      ss_nil)
    (ss_cons (s_set (i := 2) scItemR.nd (e_call dClip hr pass0 (a_cons (e_v 0) a_nil)))
    (ss_cons (s_if (t_isN (e_v 2))
      (ss_one (s_raiseI m_NoList R_NoList G_NoList hr b_NoList (a_cons (e_v 1) a_nil)))
      ss_nil)
    (ss_one (s_ret (e_v 2))))))), ?_⟩
  rcases h with ⟨w, rfl, ok, hleaf, q⟩ | ⟨nol, q⟩
  · skip
    have l30 := Wd.len ok
    refine ⟨_, rfl, w.s, rfl, Nat.le_trans l30 (by decide), fun H1 s1 => ⟨_, rfl, ?_⟩⟩
    cases w with
    | opT m => exact hleaf.elim
    | opB => exact hleaf.elim
    | sh => exact hleaf.elim
    | part nm =>
      refine iteY (nm_name ok) ⟨_, rfl, (by show 2 ≤ sizeLine; decide), fun t ht => ?_⟩
      exact q t _ (s1.trans (Same.new ht _)) (mk_part upd_same)
    | fade m =>
      have m9 := pos9 ok
      have eL : TX.L (Wd.fade m).s = 126 :: TX.L (TX.st m) := by show TX.L (("~" : Str) ++ TX.st m) = _; rw [TX.L_app, tilde]; rfl
      refine iteN (nm_not (c := 126) (by show 126 ∈ TX.L (Wd.fade m).s; rw [eL]; exact List.mem_cons_self ..) (by omega)) ?_
      have es : Txt.slice (Wd.fade m).s (some 1) none = TX.st m := by
        refine TX.ext ?_
        have : (1 : Int) ≤ (((Wd.fade m).s.length : Nat) : Int) := by rw [← TX.L_len, eL, List.length_cons]; omega
        rw [TX.sl_from (by decide) this, eL]
        rfl
      have est : Txt.startswith (Wd.fade m).s (Str.ofString "~") = true := by
        rw [sOne 126 (Str.ofString "~") tilde, TX.starts_one eL]
        rfl
      refine ⟨_, rfl, rfl, _, _, rfl, rfl, _, rfl, iteY est ?_⟩
      refine ⟨_, rfl, _, rfl, _, rfl, lenS l30 (by decide), TX.st m, congrArg (fun z => [V.str z]) es, Nat.le_trans (stL m9) (by decide), fun H2 s2 => ⟨_, rfl, iteY (co_st ok) ?_⟩⟩
      refine ⟨_, rfl, _, rfl, _, rfl, lenS l30 (by decide), TX.st m, m, congrArg (fun z => [V.str z]) es, TX.st_int m9.1 (by have := m9.2; omega), W640 (stL m9) (by decide), (by show 2 ≤ sizeLine; decide), fun t ht => ?_⟩
      exact q t _ ((s1.trans s2).trans (Same.new ht _)) (mk_fade upd_same)
    | clip r f l =>
      have h58 : 58 ∈ TX.L (clipS r f l) := by
        by_cases e : f = l
        · subst e
          rw [clipS_eq]
          simp
        · rw [clipS_ne r e]
          simp
      refine iteN (nm_not (x := (Wd.clip r f l).s) (c := 58) h58 (by omega)) ?_
      have est : Txt.startswith (Wd.clip r f l).s (Str.ofString "~") = false := by
        obtain ⟨c, q', e1, h1, h2⟩ := ok.1.cons
        rw [sOne 126 (Str.ofString "~") tilde]
        obtain ⟨B, hB⟩ : ∃ B, TX.L (Wd.clip r f l).s = c :: B := by
          show ∃ B, TX.L (clipS r f l) = c :: B
          by_cases e : f = l
          · subst e
            exact ⟨_, by rw [clipS_eq, e1]; rfl⟩
          · exact ⟨_, by rw [clipS_ne r e, e1]; rfl⟩
        rw [TX.starts_one hB]
        exact decide_eq_false (by omega)
      refine ⟨_, rfl, rfl, _, _, rfl, rfl, _, rfl, iteN est (iteF ?_)⟩
      refine ⟨_, rfl, _, rfl, lx, .inl ⟨r, f, l, rfl, ok.1, ok.2.1, ok.2.2, fun t H2 s2 ht => ⟨_, rfl, _, rfl, iteF ⟨_, rfl, ?_⟩⟩⟩⟩
      exact q t H2 (s1.trans s2) (mk_clip ht)
  · refine ⟨_, rfl, x, rfl, lx, fun H1 s1 => ⟨_, rfl, ?_⟩⟩
    have nn : nmB x = false := by
      cases e : nmB x with
      | false => rfl
      | true => exact absurd (name_of e) nol.name
    refine iteN nn ?_
    have e126 : Str.ofString "~" = ⟨#[126]⟩ := sOne 126 _ tilde
    refine ⟨_, rfl, rfl, _, _, rfl, rfl, _, rfl, ?_⟩
    cases est : Txt.startswith x (Str.ofString "~") with
    | false =>
      refine iteF (iteF ⟨_, rfl, x, rfl, lx, .inr ⟨fun r f l h1 h2 h3 => nol.clip h1 h2 h3, fun H2 s2 => ⟨_, rfl, _, rfl, iteT ⟨_, rfl, (by show 1 ≤ sizeLine; decide), fun a ha => ⟨a, _, rfl, upd_same, fun dx n1 n2 => ⟨rfl, some dx, upd_same, ?_⟩⟩⟩⟩⟩⟩)
      obtain ⟨r1, r2⟩ := raised1 (x := xdO dx [("word", n)]) (o' := newO a CL (some dx)) (s1.trans s2) ha n1 n2
      exact q _ dx r1 r2
    | true =>
      obtain ⟨p, hp⟩ := TX.starts_iff.mp est
      have hp : TX.L x = 126 :: p := by rw [hp, tilde]; rfl
      have hl : x.length = p.length + 1 := by rw [← TX.L_len, hp, List.length_cons]
      have es : TX.L (Txt.slice x (some 1) none) = p := by rw [TX.sl_from (by decide) (by omega), hp]; rfl
      refine iteT ⟨_, rfl, _, rfl, _, rfl, lenS lx (by decide), _, rfl, (by rw [← TX.L_len, es]; omega), fun H2' s2' => ⟨_, rfl, ?_⟩⟩
      cases ec : coB (Txt.slice x (some 1) none) with
      | true =>
        obtain ⟨n1, n2⟩ := coT_of ec
        exact absurd (by rw [es]; exact hp) (nol.fade n1 n2)
      | false =>
        refine iteF ⟨_, rfl, x, rfl, lx, .inr ⟨fun r f l h1 h2 h3 => nol.clip h1 h2 h3, fun H2 s2 => ⟨_, rfl, _, rfl, iteT ⟨_, rfl, (by show 1 ≤ sizeLine; decide), fun a ha => ⟨a, _, rfl, upd_same, fun dx n1 n2 => ⟨rfl, some dx, upd_same, ?_⟩⟩⟩⟩⟩⟩
        obtain ⟨r1, r2⟩ := raised1 (x := xdO dx [("word", n)]) (o' := newO a CL (some dx)) ((s1.trans s2').trans s2) ha n1 n2
        exact q _ dx r1 r2
end
end K06

set_option linter.all false
set_option maxRecDepth 100000
set_option maxHeartbeats 2000000
namespace K06
open PySem L2 G DT
open IT hiding It
open KW
def opV : Wd → List V
  | .opT m => [.str "times", .int m]
  | _ => [.str "back"]
def isOp : Wd → Prop
  | .opT _ => True
  | .opB => True
  | _ => False
/-- how much there is at hand -/
def msz (s : Mst) : Nat := (s.1.map fun x => x.2.length + 1).sum + s.2.length
theorem sum_app (a b : List (Wd × List IT.It)) : ((a ++ b).map fun x => x.2.length + 1).sum = (a.map fun x => x.2.length + 1).sum + (b.map fun x => x.2.length + 1).sum := by rw [List.map_append, List.sum_append]
theorem msz_stp (s : Mst) (w : Wd) : msz (stp s w) ≤ msz s + 1 := by
  obtain ⟨br, it⟩ := s
  cases w with
  | opT m => simp [stp, msz, sum_app]; omega
  | opB => simp [stp, msz, sum_app]; omega
  | sh =>
    rcases List.eq_nil_or_concat br with rfl | ⟨l, x, rfl⟩
    · simp [stp, msz]
    · rw [List.concat_eq_append]
      simp [stp, msz, sum_app]
      omega
  | clip r f l => simp [stp, msz]; omega
  | part n => simp [stp, msz]; omega
  | fade m => simp [stp, msz]; omega
theorem msz_len (s : Mst) : s.1.length ≤ msz s ∧ s.2.length ≤ msz s ∧ ∀ x ∈ s.1, x.2.length ≤ msz s := by
  obtain ⟨br, it⟩ := s
  have key : ∀ l : List (Wd × List IT.It), l.length ≤ (l.map fun x => x.2.length + 1).sum ∧ ∀ x ∈ l, x.2.length ≤ (l.map fun x => x.2.length + 1).sum := by
    intro l
    induction l with
    | nil => exact ⟨Nat.zero_le _, fun x hx => (nomatch hx)⟩
    | cons y r ih =>
      rw [List.map_cons, List.sum_cons, List.length_cons]
      refine ⟨by omega, fun x hx => ?_⟩
      rcases List.mem_cons.mp hx with rfl | z
      · omega
      · have := ih.2 x z; omega
  have := key br
  refine ⟨?_, ?_, fun x hx => ?_⟩
  · show br.length ≤ (br.map fun x => x.2.length + 1).sum + it.length; omega
  · show it.length ≤ (br.map fun x => x.2.length + 1).sum + it.length; omega
  · have := this.2 x hx; show x.2.length ≤ (br.map fun x => x.2.length + 1).sum + it.length; omega
/-- a bracket that is open -/
def Fr1 (H : Hp) (p pb : Addr) (v : V) (x : Wd × List IT.It) : Prop := ∃ t o l, v = .ref t ∧ H t = some (.tup [.ref o, .ref l]) ∧ H o = some (.tup (opV x.1)) ∧ IL H l x.2 ∧ l ≠ p ∧ l ≠ pb ∧ isOp x.1
def Frs (H : Hp) (p pb : Addr) : List V → List (Wd × List IT.It) → Prop
  | [], [] => True
  | v :: r, x :: r' => Fr1 H p pb v x ∧ Frs H p pb r r'
  | _, _ => False
/-- all but two lists stays -/
def S2 (p pb : Addr) (H H' : Hp) : Prop := ∀ b o, b ≠ p → b ≠ pb → H b = some o → H' b = some o
/-- no tuple -/
def NT (H : Hp) (p : Addr) : Prop := ∀ ys, H p ≠ some (.tup ys)
theorem NT.lst {H : Hp} {p : Addr} {us : List V} (h : H p = some (.lst us)) : NT H p := fun ys e => by rw [h] at e; cases e
theorem NT.non {H : Hp} {p : Addr} (h : H p = none) : NT H p := fun ys e => by rw [h] at e; cases e
theorem S2.tk {H H' : Hp} {p pb : Addr} (s : S2 p pb H H') (hp : NT H p) (hb : NT H pb) : TK H H' := fun a ys e => s a _ (fun z => hp ys (z ▸ e)) (fun z => hb ys (z ▸ e)) e
theorem Fr1.stay {H H' : Hp} {p pb : Addr} {v : V} {x : Wd × List IT.It} (h : Fr1 H p pb v x) (s : S2 p pb H H') (hp : NT H p) (hb : NT H pb) : Fr1 H' p pb v x := by
  obtain ⟨t, o, l, rfl, h1, h2, ⟨zs, h3, h4⟩, n1, n2, h5⟩ := h
  have tk := s.tk hp hb
  exact ⟨t, o, l, rfl, tk _ _ h1, tk _ _ h2, ⟨zs, s _ _ n1 n2 h3, h4.tk tk⟩, n1, n2, h5⟩
theorem Frs.stay {H H' : Hp} {p pb : Addr} (s : S2 p pb H H') (hp : NT H p) (hb : NT H pb) : ∀ {vs : List V} {br : List (Wd × List IT.It)}, Frs H p pb vs br → Frs H' p pb vs br
  | [], [], _ => trivial
  | v :: r, x :: r', h => ⟨h.1.stay s hp hb, Frs.stay s hp hb h.2⟩
  | [], _ :: _, h => h.elim
  | _ :: _, [], h => h.elim
/-- another list at hand, one that was not there -/
theorem Frs.other {H : Hp} {p p' pb : Addr} (hn : H p' = none) : ∀ {vs : List V} {br : List (Wd × List IT.It)}, Frs H p pb vs br → Frs H p' pb vs br
  | [], [], _ => trivial
  | v :: r, x :: r', h => ⟨by obtain ⟨t, o, l, rfl, h1, h2, h3, n1, n2, h5⟩ := h.1; exact ⟨t, o, l, rfl, h1, h2, h3, (by obtain ⟨zs, hz, _⟩ := h3; exact ne_of_none hz hn), n2, h5⟩, Frs.other hn h.2⟩
  | [], _ :: _, h => h.elim
  | _ :: _, [], h => h.elim
theorem Frs.snoc {H : Hp} {p pb : Addr} : ∀ {vs : List V} {br : List (Wd × List IT.It)} {v : V} {x : Wd × List IT.It}, Frs H p pb vs br → Fr1 H p pb v x → Frs H p pb (vs ++ [v]) (br ++ [x])
  | [], [], _, _, _, h => ⟨h, trivial⟩
  | _ :: _, _ :: _, _, _, h, h' => ⟨h.1, h.2.snoc h'⟩
  | [], _ :: _, _, _, h, _ => h.elim
  | _ :: _, [], _, _, h, _ => h.elim
theorem Frs.len {H : Hp} {p pb : Addr} : ∀ {vs : List V} {br : List (Wd × List IT.It)}, Frs H p pb vs br → vs.length = br.length
  | [], [], _ => rfl
  | _ :: _, _ :: _, h => by rw [List.length_cons, List.length_cons, h.2.len]
  | [], _ :: _, h => h.elim
  | _ :: _, [], h => h.elim
theorem Frs.last {H : Hp} {p pb : Addr} {x : Wd × List IT.It} : ∀ {vs : List V} {br : List (Wd × List IT.It)}, Frs H p pb vs (br ++ [x]) → ∃ us v, vs = us ++ [v] ∧ Frs H p pb us br ∧ Fr1 H p pb v x
  | [], [], h => h.elim
  | [], _ :: _, h => h.elim
  | [v], [], h => ⟨[], v, rfl, trivial, h.1⟩
  | v :: w :: r, [], h => h.2.elim
  | v :: r, y :: br, h => by
    obtain ⟨us, u, rfl, h1, h2⟩ := Frs.last (vs := r) (br := br) h.2
    exact ⟨v :: us, u, rfl, ⟨h.1, h1⟩, h2⟩
section
variable {P : Program} {w : World} {K : PySem.W.Frag} {mg : Str → Option Value} {base : Heap}
def spShut : Sp := fun vs H Q _ => ∃ (t o l li : Addr) (w : Wd) (ahead inner : List IT.It), vs = [.ref t, .ref li] ∧ H t = some (.tup [.ref o, .ref l]) ∧ H o = some (.tup (opV w)) ∧ isOp w ∧ IL H l ahead ∧ IL H li inner ∧ ahead.length ≤ 1000000 ∧ inner.length ≤ 1000000 ∧ ∀ p H', Same H H' → H p = none → IL H' p (ahead ++ [fin w inner]) → Q (.ref p) H'
theorem scShut : FnScope ["bracket", "inner", "opening", "ahead"] ["bracket", "inner"] (defScope s_shut) := ⟨rfl, rfl, rfl, by decide +kernel, rfl, by decide +kernel, by decide +kernel⟩
theorem ok_shut {f : Addr} {fd : FuncData} (F : Fun K "shut" "shut" s_shut f fd) (n_tuple : mg "tuple" = none) : FnOk P w K mg base CX0 1 f fd ["bracket", "inner"] spShut := by
  refine F.ok scShut (fun vs H Q E h => ?_) (fun cdv A outer s H vs Q E hr h => ?_)
  · obtain ⟨t, o, l, li, w, ahead, inner, rfl, _⟩ := h
    rfl
  obtain ⟨t, o, l, li, w, ahead, inner, rfl, ht, ho, hop, ⟨avs, hl, ta⟩, ⟨ivs, hli, ti⟩, la, lin, q⟩ := h
  refine ⟨_, QSs.h (ss_cons (s_set (i := 2) scShut.nd (e_ix ix_tup (e_v 0) e_int))
    (ss_cons (s_set (i := 3) scShut.nd (e_ix ix_tup (e_v 0) e_int))
    (ss_one (s_ret (e_op op_cat (e_v 3) (e_lst (a_cons (e_op op_catG (e_v 2) (e_tup (a_cons (e_t call_tuple_of n_tuple (by decide +kernel) (a_cons (e_v 1) a_nil)) a_nil))) a_nil))))))), ?_⟩
  have zl : sizeLine = 16777216 := sizeLine_eq
  have ea : avs.length = ahead.length := by rw [ta.len, dL_map, List.length_map]
  refine ⟨_, rfl, t, _, _, _, rfl, rfl, SqT.of ht, atI_nat (j := 0) rfl, _, rfl, t, _, _, _, rfl, rfl, SqT.of ht, atI_nat (j := 1) rfl, ?_⟩
  refine ⟨_, rfl, _, rfl, _, rfl, li, _, rfl, .inl ⟨SqL.of hli, fun p1 hp1 => ⟨(by show 1 ≤ sizeLine; decide), fun p2 hp2 => ?_⟩⟩⟩
  have t1 := Same.new hp1 (.tup ivs)
  have t2 := Same.new hp2 (.tup [.ref p1])
  have T := t1.trans t2
  have lop : (opV w).length + 1 ≤ sizeLine := by cases w <;> (show _ ≤ _; simp [opV]; omega)
  refine ⟨o, p2, _, _, rfl, rfl, T _ _ ho, upd_same, lop, fun p3 H3 s3 h3 => ⟨(by show 1 ≤ sizeLine; decide), fun p4 hp4 => ?_⟩⟩
  have t4 := Same.new hp4 (.lst [.ref p3])
  have U := (T.trans s3).trans t4
  refine ⟨l, p4, _, _, rfl, rfl, U _ _ hl, upd_same, (by show avs.length + 1 ≤ sizeLine; omega), fun p hp => ?_⟩
  have t5 := Same.new hp (.lst (avs ++ [.ref p3]))
  refine q p _ (U.trans t5) (U.free hp) ⟨_, upd_same, ?_⟩
  rw [dL_app]
  refine (ta.tk (TK.of (U.trans t5))).app ?_
  have hin : Td (upd (upd H3 p4 (.lst [.ref p3])) p (.lst (avs ++ [.ref p3]))) (.ref p1) (.tuple (dL inner)) := .tup (t5 _ _ (t4 _ _ (s3 _ _ (t2 _ _ upd_same)))) (ti.tk (TK.of (U.trans t5)))
  have h3' := t5 _ _ (t4 _ _ h3)
  rw [dL, dL]
  refine .one ?_
  cases w with
  | opT m => exact mk_times h3' hin
  | opB => exact mk_back h3' hin
  | _ => exact hop.elim
/-! ### read_list -/
open KR (Upto tok Stuck out isLeaf)
abbrev wsOf (x : Str) : List Str := Txt.split x ⟨#[32]⟩
def spRead (CL : Addr) : Sp := fun vs H Q E => ∃ x : Str, vs = [.str x] ∧ x.length ≤ 100000 ∧ (∀ xs t H', out (wsOf x) = .inr xs → Same H H' → Td H' (.ref t) (.tuple (dL xs)) → Q (.ref t) H') ∧ (∀ (n : Nat) H' dx, out (wsOf x) = .inl n → Same H H' → H' dx = some (xdO dx [("word", .int (n : Int))]) → E (.ref CL) (some dx) H')
theorem scRead : FnScope ["text", "words", "brackets", "items", "number", "word", "opening"] ["text"] (defScope s_read_list) := ⟨rfl, rfl, rfl, by decide +kernel, rfl, by decide +kernel, by decide +kernel⟩
theorem ok_read {f CL fI : Addr} {fd fdI : FuncData} {t1 : Tok} (F : Fun K "read_list" "read_list" s_read_list f fd) (dOpen : Def P w K mg base CX0 "read_opening" 5 ["word"] spOpen) (dItem : Def P w K mg base (CX1 P w) "read_item" 5 ["word", "number"] (spItemR CL)) (dShut : Def P w K mg base CX0 "shut" 1 ["bracket", "inner"] spShut)
    (mSH : mg "SHUT" = some (.str ")" t1)) (n_isinstance : mg "isinstance" = none) (n_str : mg "str" = none) (n_enumerate : mg "enumerate" = none) (n_len : mg "len" = none) (n_tuple : mg "tuple" = none)
    (m_NoList : mg "NoList" = some (.ref CL)) (R_NoList : XRaise K CL fI) (G_NoList : FnOk P w K mg base CX0 1 fI fdI ["self", "word"] (spInit CL "word")) (b_NoList : Binds K fdI ["self", "word"] []) :
    FnOk P w K mg base (CX1 P w) 6 f fd ["text"] (spRead CL) := by
  refine F.okX scRead (fun vs H Q E h => ?_) (fun cdv A outer s H vs Q E hr h => ?_)
  · obtain ⟨x, rfl, _⟩ := h
    rfl
  obtain ⟨x, rfl, lx, q, e⟩ := h
  refine ⟨_, QSs.h (ss_cons (s_if (t_not (t_val (e_b call_isinst n_isinstance PyProof.Rows.boot_isinstance (a_cons (e_v 0) (a_cons (e_bt (v := .ty "str") n_str PyProof.Rows.boot_str rfl) a_nil)))))
      (ss_one (s_raiseI m_NoList R_NoList G_NoList hr b_NoList (a_cons e_non a_nil)))
      ss_nil)
    (ss_cons (s_set (i := 1) scRead.nd (e_split (e_v 0) e_str))
    (ss_cons (s_set (i := 2) scRead.nd (e_lst a_nil))
    (ss_cons (s_set (i := 3) scRead.nd (e_lst a_nil))
    (ss_cons (s_for PassesOwn.leaving rfl (i_enum n_enumerate (e_v 1)) (g_tup rfl (gs_cons (g_name (i := 4) scRead.nd) (gs_cons (g_name (i := 5) scRead.nd) gs_nil)))
      (ss_cons (s_set (i := 6) scRead.nd (e_call dOpen hr pass0 (a_cons (e_v 5) a_nil)))
      (ss_one (s_if (t_notN (e_v 6))
        (ss_cons (s_expr (e_append (e_v 2) (e_tup (a_cons (e_v 6) (a_cons (e_v 3) a_nil)))))
        (ss_one (s_set (i := 3) scRead.nd (e_lst a_nil))))
        (ss_one (s_if (t_cmp op_eq (e_v 5) (e_gl (v := .str ")") mSH ⟨_, rfl⟩))
          (ss_cons (s_if (t_w (w_or (t_not (t_tru (e_v 2))) (w_or1 (t_not (t_tru (e_v 3))))))
            (ss_one (s_raiseI m_NoList R_NoList G_NoList hr b_NoList (a_cons (e_v 4) a_nil)))
            ss_nil)
          (ss_one (s_set (i := 3) scRead.nd (e_call dShut hr pass0 (a_cons (e_pop (e_v 2) ) (a_cons (e_v 3) a_nil))))))
          (ss_one (s_expr (e_append (e_v 3) (e_call dItem hr passX (a_cons (e_v 5) (a_cons (e_v 4) a_nil))))))))))))
    (ss_cons (s_if (t_tru (e_v 2))
      (ss_one (s_raiseI m_NoList R_NoList G_NoList hr b_NoList (a_cons (e_b call_len_seq n_len PySem.boot_len (a_cons (e_v 1) a_nil)) a_nil)))
      ss_nil)
    (ss_one (s_ret (e_t call_tuple_of n_tuple (by decide +kernel) (a_cons (e_v 3) a_nil)))))))))), ?_⟩
  have zl : sizeLine = 16777216 := sizeLine_eq
  · refine ⟨_, rfl, _, _, _, true, rfl, TyOf.str _, .inr ⟨_, rfl⟩, kit_self, true, rfl, iteF ?_⟩
    have e32 : Str.ofString " " = ⟨#[32]⟩ := sOne 32 _ blank
    have lws : (wsOf x).length ≤ x.length + 1 := KR.split_len_le x 32
    have lw1 : ∀ z ∈ wsOf x, z.length ≤ 100000 := fun z hz => Nat.le_trans (KR.split_le hz) lx
    have u0 := KR.Upto.zero (wsOf x)
    refine ⟨_, rfl, rfl, _, _, rfl, rfl, (by decide), (by omega), fun pw hpw => ?_⟩
    have tw := Same.new hpw (.lst ((Txt.split x (Str.ofString " ")).map V.str))
    have hpw1 : upd H pw (.lst ((Txt.split x (Str.ofString " ")).map V.str)) pw = some (.lst ((wsOf x).map V.str)) := by rw [upd_same, e32]
    generalize hH1 : upd H pw (.lst ((Txt.split x (Str.ofString " ")).map V.str)) = H1 at tw hpw1
    generalize wsOf x = ws at *
    refine ⟨(by show 0 ≤ sizeLine; decide), fun pb hpb => ⟨(by show 0 ≤ sizeLine; decide), fun p0 hp0 => ?_⟩⟩
    have tb := Same.new hpb (.lst [])
    have t0 := Same.new hp0 (.lst [])
    have hpbH : H pb = none := tw.free hpb
    have hp0H : H p0 = none := (tw.trans tb).free hp0
    have n1 : pw ≠ pb := ne_of_none hpw1 hpb
    have n2 : pw ≠ p0 := ne_of_none (tb _ _ hpw1) hp0
    have n3 : pb ≠ p0 := ne_of_none upd_same hp0
    refine ⟨_, rfl, pw, rfl, ⟨_, SqL.of (t0 _ _ (tb _ _ hpw1))⟩, for_enum (K := K) (a := pw) (xs := ws.map V.str) (fun i σ H' => ∃ (m : Mst) (p : Addr) (bvs : List V) (o4 o5 o6 : Option V), σ = [some (.str x), some (.ref pw), some (.ref pb), some (.ref p), o4, o5, o6] ∧ Upto ws i m ∧ msz m ≤ i ∧ H' pb = some (.lst bvs) ∧ Frs H' p pb bvs m.1 ∧ IL H' p m.2 ∧ p ≠ pb ∧ p ≠ pw ∧ H p = none ∧ H' pw = some (.lst (ws.map V.str)) ∧ Same H H')
      ⟨([], []), p0, [], none, none, none, rfl, u0, Nat.le_refl _, t0 _ _ upd_same, trivial, ⟨[], upd_same, by rw [dL]; exact .nil⟩, fun z => n3 z.symm, fun z => n2 z.symm, hp0H, t0 _ _ (tb _ _ hpw1), (tw.trans tb).trans t0⟩ (fun i σ H' _ ⟨_, _, _, _, _, _, _, _, _, _, _, _, _, _, _, hw', _⟩ => SqL.of hw') ?_ ?_⟩
    · rintro i v σ H' pe hvv ⟨m, p, bvs, o4, o5, o6, rfl, hm, hsz, hpb', hfr, hil, np, npw, hpH, hpw', sm⟩ hpe
      obtain ⟨y, hy, rfl⟩ : ∃ y, ws[i]? = some y ∧ v = .str y := by
        rw [List.getElem?_map] at hvv
        cases e : ws[i]? with
        | none => rw [e] at hvv; cases hvv
        | some y => rw [e] at hvv; exact ⟨y, rfl, (Option.some.inj hvv).symm⟩
      have ly := lw1 y (List.mem_of_getElem? hy)
      have hil' : i < ws.length := (List.getElem?_eq_some_iff.mp hy).1
      obtain ⟨b1, b2, b3⟩ := msz_len m
      have te := Same.new hpe (.tup [.int (i : Int), .str y])
      refine ⟨pe, _, rfl, SqT.of upd_same, rfl, _, _, rfl, _, _, rfl, rfl, ?_⟩
      -- what stays behind new things
      have stay : ∀ {Ha Hb : Hp}, Same Ha Hb → S2 p pb Ha Hb := fun s b o _ _ h => s b o h
      obtain ⟨ivs, hiv, tiv⟩ := hil
      have liv : ivs.length = m.2.length := by rw [tiv.len, dL_map, List.length_map]
      have lbv := hfr.len
      cases htk : tok y with
      | none =>
        have bad := KR.tok_none htk
        refine ⟨_, rfl, y, rfl, ly, .inr ⟨bad, fun H2 s2 => ?_⟩⟩
        have T := te.trans s2
        refine ⟨_, rfl, _, rfl, iteF ⟨_, rfl, rfl, _, rfl, iteN (decide_eq_false fun z => bad.shut (V.str.inj z)) ?_⟩⟩
        refine ⟨_, rfl, .inl ⟨rfl, _, SqL.of (T _ _ hiv)⟩, _, rfl, _, rfl, y, _, rfl, ly, .inr ⟨bad.noLeaf, fun H3 dx s3 hdx => ?_⟩⟩
        exact e i H3 dx (hm.bad hy (by rw [htk]; trivial)) (sm.trans (T.trans s3)) hdx
      | some wd =>
      obtain ⟨hwok, rfl⟩ := KR.tok_some htk
      refine ⟨_, rfl, wd.s, rfl, ly, .inl ⟨wd, rfl, hwok, ?_, ?_, ?_⟩⟩
      · -- times are opened
        intro k e0 t H2 s2 ht
        subst e0
        have hm' := hm.step hy htk (fun z => z)
        have hsz' : msz (stp m (.opT k)) ≤ i + 1 := Nat.le_trans (msz_stp m _) (by omega)
        have T := te.trans s2
        refine ⟨_, rfl, _, rfl, iteT ⟨_, rfl, .inl ⟨rfl, _, SqL.of (T _ _ hpb')⟩, _, rfl, _, rfl, (by show 2 ≤ sizeLine; decide), fun pt hpt => ?_⟩⟩
        have tp := Same.new hpt (.tup [.ref t, .ref p])
        have U := T.trans tp
        refine ⟨pb, _, _, rfl, rfl, U _ _ hpb', by omega, (by show 0 ≤ sizeLine; decide), fun p' hp' => ?_⟩
        have hpbN : pb ≠ p' := ne_of_none upd_same hp'
        have hfree : (upd H2 pt (.tup [.ref t, .ref p])) p' = none := by rw [upd_ne (fun z => hpbN z.symm)] at hp'; exact hp'
        have hp'H : H p' = none := (sm.trans U).free hfree
        have tn := Same.new hp' (.lst [])
        have hpU := U _ _ hiv
        have hbU := U _ _ hpb'
        have s2b : ∀ c, S2 c pb (upd H2 pt (.tup [.ref t, .ref p])) (upd (upd (upd H2 pt (.tup [.ref t, .ref p])) pb (.lst (bvs ++ [.ref pt]))) p' (.lst [])) := fun c b o h1 h2 hb => tn _ _ (by rw [upd_ne h2]; exact hb)
        have tk := (s2b p).tk (NT.lst hpU) (NT.lst hbU)
        have hpN : p ≠ p' := ne_of_none hpU hfree
        have fr2 : Frs (upd (upd (upd H2 pt (.tup [.ref t, .ref p])) pb (.lst (bvs ++ [.ref pt]))) p' (.lst [])) p' pb bvs m.1 := ((hfr.stay (stay U) (NT.lst hiv) (NT.lst hpb')).other hfree).stay (s2b p') (NT.non hfree) (NT.lst hbU)
        have hown : Fr1 (upd (upd (upd H2 pt (.tup [.ref t, .ref p])) pb (.lst (bvs ++ [.ref pt]))) p' (.lst [])) p' pb (.ref pt) (.opT k, m.2) := ⟨pt, t, p, rfl, tk _ _ upd_same, tk _ _ (tp _ _ ht), ⟨ivs, tn _ _ (by rw [upd_ne np]; exact hpU), (tiv.tk (TK.of U)).tk tk⟩, hpN, np, trivial⟩
        exact ⟨_, p', _, _, _, _, rfl, hm', hsz', tn _ _ upd_same, fr2.snoc hown, ⟨[], upd_same, by rw [show (stp m (.opT k)).2 = [] from rfl, dL]; exact .nil⟩, fun z => hpbN z.symm, (fun z => by rw [z, U _ _ hpw'] at hfree; cases hfree), hp'H, tn _ _ (by rw [upd_ne n1]; exact U _ _ hpw'), fun b o hb => tn _ _ (by rw [upd_ne (ne_of_none hb hpbH)]; exact U _ _ (sm _ _ hb))⟩
      · -- back is opened
        intro e0 t H2 s2 ht
        subst e0
        have hm' := hm.step hy htk (fun z => z)
        have hsz' : msz (stp m .opB) ≤ i + 1 := Nat.le_trans (msz_stp m _) (by omega)
        have T := te.trans s2
        refine ⟨_, rfl, _, rfl, iteT ⟨_, rfl, .inl ⟨rfl, _, SqL.of (T _ _ hpb')⟩, _, rfl, _, rfl, (by show 2 ≤ sizeLine; decide), fun pt hpt => ?_⟩⟩
        have tp := Same.new hpt (.tup [.ref t, .ref p])
        have U := T.trans tp
        refine ⟨pb, _, _, rfl, rfl, U _ _ hpb', by omega, (by show 0 ≤ sizeLine; decide), fun p' hp' => ?_⟩
        have hpbN : pb ≠ p' := ne_of_none upd_same hp'
        have hfree : (upd H2 pt (.tup [.ref t, .ref p])) p' = none := by rw [upd_ne (fun z => hpbN z.symm)] at hp'; exact hp'
        have hp'H : H p' = none := (sm.trans U).free hfree
        have tn := Same.new hp' (.lst [])
        have hpU := U _ _ hiv
        have hbU := U _ _ hpb'
        have s2b : ∀ c, S2 c pb (upd H2 pt (.tup [.ref t, .ref p])) (upd (upd (upd H2 pt (.tup [.ref t, .ref p])) pb (.lst (bvs ++ [.ref pt]))) p' (.lst [])) := fun c b o h1 h2 hb => tn _ _ (by rw [upd_ne h2]; exact hb)
        have tk := (s2b p).tk (NT.lst hpU) (NT.lst hbU)
        have hpN : p ≠ p' := ne_of_none hpU hfree
        have fr2 : Frs (upd (upd (upd H2 pt (.tup [.ref t, .ref p])) pb (.lst (bvs ++ [.ref pt]))) p' (.lst [])) p' pb bvs m.1 := ((hfr.stay (stay U) (NT.lst hiv) (NT.lst hpb')).other hfree).stay (s2b p') (NT.non hfree) (NT.lst hbU)
        have hown : Fr1 (upd (upd (upd H2 pt (.tup [.ref t, .ref p])) pb (.lst (bvs ++ [.ref pt]))) p' (.lst [])) p' pb (.ref pt) (.opB, m.2) := ⟨pt, t, p, rfl, tk _ _ upd_same, tk _ _ (tp _ _ ht), ⟨ivs, tn _ _ (by rw [upd_ne np]; exact hpU), (tiv.tk (TK.of U)).tk tk⟩, hpN, np, trivial⟩
        exact ⟨_, p', _, _, _, _, rfl, hm', hsz', tn _ _ upd_same, fr2.snoc hown, ⟨[], upd_same, by rw [show (stp m (.opB)).2 = [] from rfl, dL]; exact .nil⟩, fun z => hpbN z.symm, (fun z => by rw [z, U _ _ hpw'] at hfree; cases hfree), hp'H, tn _ _ (by rw [upd_ne n1]; exact U _ _ hpw'), fun b o hb => tn _ _ (by rw [upd_ne (ne_of_none hb hpbH)]; exact U _ _ (sm _ _ hb))⟩
      · intro hB hT H2 s2
        have T := te.trans s2
        refine ⟨_, rfl, _, rfl, iteF ?_⟩
        refine ⟨_, rfl, rfl, _, rfl, ?_⟩
        by_cases hS : wd = .sh
        · -- a bracket is shut
          subst hS
          refine iteY (seq _) ?_
          by_cases hst : m.1 = [] ∨ m.2 = []
          · have hout := hm.bad hy (by rw [htk]; exact hst)
            have raise : ∀ (a dx : Addr), H2 a = none → upd H2 a (newO a CL none) dx = none → dx ≠ a → E (.ref CL) (some dx) (del (upd (upd (upd H2 a (newO a CL none)) dx (xdO dx [("word", .int (i : Int))])) a (newO a CL (some dx))) a) := fun a dx ha n1 n2 => by
              obtain ⟨r1, r2⟩ := raised1 (x := xdO dx [("word", .int (i : Int))]) (o' := newO a CL (some dx)) (sm.trans T) ha n1 n2
              exact e i _ dx hout r1 r2
            refine ⟨_, rfl, _, .inl ⟨_, SqL.of (T _ _ hpb'), rfl⟩, ?_⟩
            cases bvs with
            | nil => exact iteY rfl ⟨_, rfl, (by show 1 ≤ sizeLine; decide), fun a ha => ⟨a, _, rfl, upd_same, fun dx n1 n2 => ⟨rfl, some dx, upd_same, raise a dx ha n1 n2⟩⟩⟩
            | cons b0 bs =>
              have hi0 : m.2 = [] := by
                rcases hst with z | z
                · rw [z] at lbv
                  cases lbv
                · exact z
              have hivs : ivs = [] := List.eq_nil_of_length_eq_zero (by rw [liv, hi0]; rfl)
              subst hivs
              exact iteN rfl ⟨_, rfl, _, .inl ⟨_, SqL.of (T _ _ hiv), rfl⟩, iteY rfl ⟨_, rfl, (by show 1 ≤ sizeLine; decide), fun a ha => ⟨a, _, rfl, upd_same, fun dx n1 n2 => ⟨rfl, some dx, upd_same, raise a dx ha n1 n2⟩⟩⟩⟩
          have hb0 : m.1 ≠ [] := fun z => hst (.inl z)
          have hi0 : m.2 ≠ [] := fun z => hst (.inr z)
          have hm' := hm.step hy htk hst
          have hsz' : msz (stp m .sh) ≤ i + 1 := Nat.le_trans (msz_stp m _) (by omega)
          have hbvs : bvs ≠ [] := fun z => hb0 (List.eq_nil_of_length_eq_zero (by rw [← lbv, z]; rfl))
          have hivs : ivs ≠ [] := fun z => hi0 (List.eq_nil_of_length_eq_zero (by rw [← liv, z]; rfl))
          have e1 : bvs.isEmpty = false := by cases bvs with | nil => exact absurd rfl hbvs | cons _ _ => rfl
          have e2 : ivs.isEmpty = false := by cases ivs with | nil => exact absurd rfl hivs | cons _ _ => rfl
          refine ⟨_, rfl, _, .inl ⟨_, SqL.of (T _ _ hpb'), rfl⟩, iteN (by rw [e1]; rfl) ⟨_, rfl, _, .inl ⟨_, SqL.of (T _ _ hiv), rfl⟩, iteN (by rw [e2]; rfl) ?_⟩⟩
          obtain ⟨br, x, hbr⟩ : ∃ br x, m.1 = br ++ [x] := by
            rcases List.eq_nil_or_concat m.1 with z | ⟨l, x, z⟩
            · exact absurd z hb0
            · exact ⟨l, x, by rw [z, List.concat_eq_append]⟩
          rw [hbr] at hfr
          obtain ⟨us, u, rfl, hfr', hf1⟩ := hfr.last
          have hpbT := T _ _ hpb'
          have hivT := T _ _ hiv
          have hf1T := hf1.stay (stay T) (NT.lst hiv) (NT.lst hpb')
          have hfrT := hfr'.stay (stay T) (NT.lst hiv) (NT.lst hpb')
          obtain ⟨t, o, l, rfl, ht, ho, hil2, nl1, nl2, hop⟩ := hf1T
          have edl : (us ++ [V.ref t]).dropLast = us := by simp
          have elast : (us ++ [V.ref t])[(us ++ [V.ref t]).length - 1]? = some (V.ref t) := by simp
          have tkp : TK H2 (upd H2 pb (.lst (us ++ [V.ref t]).dropLast)) := TK.lst hpbT
          have hlx := b3 x (by rw [hbr]; simp)
          refine ⟨_, rfl, .inl ⟨rfl, _, SqL.of hpbT⟩, pb, _, V.ref t, rfl, rfl, hpbT, elast, _, rfl, t, o, l, p, x.1, x.2, m.2, rfl, tkp _ _ ht, tkp _ _ ho, hop, ?_, ⟨ivs, by rw [upd_ne np]; exact hivT, (tiv.tk (TK.of T)).tk tkp⟩, by omega, by omega, fun p' H3 s3 hp' hil3 => ?_⟩
          · obtain ⟨zs, hz, tz⟩ := hil2
            exact ⟨zs, by rw [upd_ne nl2]; exact hz, tz.tk tkp⟩
          · have hpbN : p' ≠ pb := fun z => by rw [z, upd_same] at hp'; cases hp'
            have hfree : H2 p' = none := by rw [upd_ne hpbN] at hp'; exact hp'
            have s2b : S2 p' pb H2 H3 := fun b o' h1 h2 hb => s3 _ _ (by rw [upd_ne h2]; exact hb)
            have fr3 : Frs H3 p' pb us br := (hfrT.other hfree).stay s2b (NT.non hfree) (NT.lst hpbT)
            have est : stp m .sh = (br, x.2 ++ [fin x.1 m.2]) := by
              obtain ⟨m1, m2⟩ := m
              have hbr : m1 = br ++ [x] := hbr
              subst hbr
              simp [stp]
            rw [est] at hm' hsz'
            refine ⟨(br, x.2 ++ [fin x.1 m.2]), p', us, _, _, _, rfl, hm', hsz', s3 _ _ (by rw [upd_same, edl]), fr3, hil3, hpbN, (fun z => ?_), (sm.trans T).free hfree, s3 _ _ (by rw [upd_ne n1]; exact T _ _ hpw'), fun b o' hb => s3 _ _ (by rw [upd_ne (ne_of_none hb hpbH)]; exact T _ _ (sm _ _ hb))⟩
            rw [z, T _ _ hpw'] at hfree
            cases hfree
        · -- an item
          have hleaf : isLeaf wd := by
            cases wd with
            | clip r f l => trivial
            | part n => trivial
            | fade k => trivial
            | opT k => exact absurd rfl (hT k)
            | opB => exact absurd rfl hB
            | sh => exact absurd rfl hS
          have est : stp m wd = (m.1, m.2 ++ [leaf wd]) := by
            cases wd with
            | clip r f l => rfl
            | part n => rfl
            | fade k => rfl
            | opT k => exact hleaf.elim
            | opB => exact hleaf.elim
            | sh => exact hleaf.elim
          have hm' := hm.step hy htk (by cases wd with | clip r f l => exact fun z => z | part n => exact fun z => z | fade k => exact fun z => z | opT k => exact hleaf.elim | opB => exact hleaf.elim | sh => exact hleaf.elim)
          have hsz' : msz (stp m wd) ≤ i + 1 := Nat.le_trans (msz_stp m _) (by omega)
          refine iteN (Wd.noSh hwok hS) ?_
          refine ⟨_, rfl, .inl ⟨rfl, _, SqL.of (T _ _ hiv)⟩, _, rfl, _, rfl, wd.s, _, rfl, ly, .inl ⟨wd, rfl, hwok, hleaf, fun t H3 s3 td => ?_⟩⟩
          have U := T.trans s3
          have hivU := U _ _ hiv
          have hbU := U _ _ hpb'
          have s2b : S2 p pb H3 (upd H3 p (.lst (ivs ++ [.ref t]))) := fun b o h1 h2 hb => by rw [upd_ne h1]; exact hb
          have tk := s2b.tk (NT.lst hivU) (NT.lst hbU)
          rw [est] at hm' hsz'
          refine ⟨p, _, _, rfl, rfl, hivU, by omega, (m.1, m.2 ++ [leaf wd]), p, bvs, _, _, _, rfl, hm', hsz', by rw [upd_ne (fun z => np z.symm)]; exact hbU, (hfr.stay (stay U) (NT.lst hiv) (NT.lst hpb')).stay s2b (NT.lst hivU) (NT.lst hbU), ⟨_, upd_same, ?_⟩, np, npw, hpH, by rw [upd_ne (fun z => npw z.symm)]; exact U _ _ hpw', fun b o hb => by rw [upd_ne (ne_of_none hb hpH)]; exact U _ _ (sm _ _ hb)⟩
          rw [dL_app]
          refine ((tiv.tk (TK.of U)).tk tk).app ?_
          rw [dL, dL]
          exact .one (td.tk tk)
    · rintro σ H' ⟨m, p, bvs, o4, o5, o6, rfl, hm, hsz, hpb', hfr, hil, np, npw, hpH, hpw', sm⟩
      rw [List.length_map] at hm
      obtain ⟨ivs, hiv, tiv⟩ := hil
      have lbv := hfr.len
      refine ⟨_, rfl, _, .inl ⟨_, SqL.of hpb', rfl⟩, ?_⟩
      cases bvs with
      | cons b0 bs =>
        have hne : m.1 ≠ [] := fun z => by rw [z] at lbv; cases lbv
        refine iteY rfl ⟨_, rfl, pw, _, rfl, .inl (SqL.of hpw'), (by show 1 ≤ sizeLine; decide), fun a ha => ⟨a, _, rfl, upd_same, fun dx n1 n2 => ⟨rfl, some dx, upd_same, ?_⟩⟩⟩
        obtain ⟨r1, r2⟩ := raised1 (x := xdO dx [("word", .int ((ws.map V.str).length : Int))]) (o' := newO a CL (some dx)) sm ha n1 n2
        refine e ws.length _ dx (hm.left hne) r1 ?_
        rw [r2, List.length_map]
      | nil =>
        have hne : m.1 = [] := List.eq_nil_of_length_eq_zero (by rw [← lbv]; rfl)
        refine iteN rfl ⟨_, rfl, p, _, rfl, .inl ⟨SqL.of hiv, fun pr hpr => ?_⟩⟩
        have tr := Same.new hpr (.tup ivs)
        exact q m.2 pr _ (hm.good hne) (sm.trans tr) (.tup upd_same (tiv.tk (TK.of tr)))
end
end K06

set_option linter.all false
set_option maxRecDepth 100000
set_option maxHeartbeats 2000000
namespace K06
open PySem L2 G DT
open IT hiding It
open KW
open KR (Bad NoLeaf NumT isLeaf)
theorem sl_to_any {x : Str} (j : Nat) : TX.L (Txt.slice x none (some (j : Int))) = (TX.L x).take j := by
  by_cases h : j ≤ x.length
  · rw [TX.sl_to (by omega) (by omega)]
    rfl
  · have l := PyProof.Rows.slice_ns_cases x (j : Int) (by omega)
    rcases l with ⟨z, _⟩ | ⟨_, z⟩
    · omega
    · rw [List.take_of_length_le (by rw [TX.L_len]; omega)]
      have e : Txt.slice x none (some (j : Int)) = Txt.slice x none (some (x.length : Int)) := by
        unfold Txt.slice
        have : Builtin.Str.strSliceIndices none (some (j : Int)) 1 x.length = Builtin.Str.strSliceIndices none (some (x.length : Int)) 1 x.length := by
          have h1 : ¬ ((j : Int) < 0) := by omega
          have h2 : ¬ ((x.length : Int) < 0) := by omega
          have h3 : (1 : Int) > 0 := by decide
          simp only [Builtin.Str.strSliceIndices, h1, h2, h3, if_false, if_true, Int.min_eq_right (show (x.length : Int) ≤ (j : Int) by omega), Int.min_self]
        rw [this]
      rw [e, TX.sl_to (by omega) (Int.le_refl _), List.take_of_length_le (by rw [TX.L_len]; omega)]
theorem sl_last2 {x : Str} (h : 2 ≤ x.length) : TX.L (Txt.slice x (some (-2)) none) = (TX.L x).drop (x.length - 2) := by
  rw [PyProof.Rows.slice_from_neg (by decide), show max 0 ((x.length : Int) + -2) = ((x.length - 2 : Nat) : Int) by omega, TX.sl_from (by omega) (by omega)]
  rfl
theorem sl_last2s {x : Str} (h : ¬ 2 ≤ x.length) : TX.L (Txt.slice x (some (-2)) none) = TX.L x := by
  rw [PyProof.Rows.slice_from_neg (by decide), show max 0 ((x.length : Int) + -2) = 0 by omega, TX.sl_from (by omega) (by omega)]
  rfl
/-- the last two signs -/
theorem last2 {x : Str} : Txt.slice x (some (-2)) none = ("*(" : Str) ↔ ∃ p, TX.L x = p ++ [42, 40] := by
  constructor
  · intro e
    have e := congrArg TX.L e
    rw [topen] at e
    by_cases h : 2 ≤ x.length
    · rw [sl_last2 h] at e
      exact ⟨(TX.L x).take (x.length - 2), by rw [← e, List.take_append_drop]⟩
    · rw [sl_last2s h] at e
      exact ⟨[], e⟩
  · rintro ⟨p, e⟩
    have hl : x.length = p.length + 2 := by rw [← TX.L_len, e, List.length_append]; rfl
    refine TX.ext ?_
    rw [sl_last2 (by omega), e, hl, Nat.add_sub_cancel, List.drop_left, topen]
open Classical in
/-- a number, or none -/
noncomputable def nv (x : Str) : V := if h : ∃ i, Num9 i ∧ x = TX.st i then .int h.choose else .non
theorem st_injI {i j : Int} (hi : Num9 i) (hj : Num9 j) (e : TX.st i = TX.st j) : i = j := by
  obtain ⟨m, rfl, _⟩ := hi.nat
  obtain ⟨n, rfl, _⟩ := hj.nat
  exact congrArg _ (TX.st_inj (congrArg TX.L e))
theorem nv_st {i : Int} (hi : Num9 i) : nv (TX.st i) = .int i := by
  have h : ∃ j, Num9 j ∧ TX.st i = TX.st j := ⟨i, hi, rfl⟩
  unfold nv
  rw [dif_pos h]
  exact congrArg V.int (st_injI hi h.choose_spec.1 h.choose_spec.2).symm
theorem nv_no {x : Str} (h : ¬ NumT x) : nv x = .non := by
  unfold nv
  rw [dif_neg]
  rintro ⟨i, hi, rfl⟩
  exact h (KR.st_numT hi)
theorem nv_cases (x : Str) : (∃ i, Num9 i ∧ x = TX.st i ∧ nv x = .int i) ∨ (¬ NumT x ∧ nv x = .non) := by
  by_cases h : NumT x
  · obtain ⟨i, hi, rfl⟩ := h.st
    exact .inl ⟨i, hi, rfl, nv_st hi⟩
  · exact .inr ⟨h, nv_no h⟩
theorem fig_all {x : Str} : (x.cps.toList.all fun c => decide (c ∈ K01.figS.cps.toList)) = true ↔ ∀ c ∈ TX.L x, 48 ≤ c ∧ c ≤ 57 := by
  rw [List.all_eq_true]
  constructor
  · intro h c hc
    have := of_decide_eq_true (h c hc)
    rw [K01.figL] at this
    simp only [List.mem_cons, List.not_mem_nil, or_false] at this
    omega
  · intro h c hc
    have := h c hc
    exact K01.dg_mk this.1 this.2
section
variable {P : Program} {w : World} {K : PySem.W.Frag} {mg : Str → Option Value} {base : Heap}
def spLNum : Sp := fun vs H Q _ => ∃ x : Str, vs = [.str x] ∧ x.length ≤ 100000 ∧ ∀ H', Same H H' → Q (nv x) H'
theorem scLNum : FnScope ["_law_word"] ["_law_word"] (defScope s__law_number) := ⟨rfl, rfl, rfl, by decide +kernel, rfl, by decide +kernel, by decide +kernel⟩
theorem ok_lnum {f : Addr} {fd : FuncData} (F : Fun K "_law_number" "_law_number" s__law_number f fd) (n_len : mg "len" = none) (n_all : mg "all" = none) (n_int : mg "int" = none) : FnOk P w K mg base CX0 1 f fd ["_law_word"] spLNum := by
  refine F.ok scLNum (fun vs H Q E h => ?_) (fun cdv A outer s H vs Q E hr h => ?_)
  · obtain ⟨x, rfl, _⟩ := h
    rfl
  obtain ⟨x, rfl, lx, q⟩ := h
  refine ⟨_, QSs.h (ss_cons (s_if (t_w (w_or (t_cmp op_eq (e_v 0) e_str) (w_or (t_cmp op_gt (e_b call_len_str n_len PySem.boot_len (a_cons (e_v 0) a_nil)) e_int) (w_or1 (t_not (t_val (e_b call_all n_all PyProof.Rows.boot_all (a_cons (e_comp [] [] [] rfl trivial trivial (i_str (e_v 0)) (fun _ _ _ _ => (e_cmp op_in_str (e_n 0) e_str))) a_nil))))))))
      (ss_one (s_ret e_non))
      ss_nil)
    (ss_cons (s_if (t_w (w_and (t_cmp op_gt (e_b call_len_str n_len PySem.boot_len (a_cons (e_v 0) a_nil)) e_int) (w_and1 (t_cmp op_eq (e_ix ix_str (e_v 0) e_int) e_str))))
      (ss_one (s_ret e_non))
      ss_nil)
    (ss_one (s_ret (e_t call_int_text n_int PyProof.Rows.boot_int (a_cons (e_v 0) a_nil)))))), ?_⟩
  have none_ : ¬ NumT x → ∀ H', Same H H' → Q .non H' := fun hn H' s' => by rw [← nv_no hn]; exact q H' s'
  refine ⟨_, rfl, rfl, _, rfl, ?_⟩
  refine ite2 (fun c => none_ (fun z => ?_) H (Same.refl _)) (fun c0 => ?_)
  · have e : x = ("" : Str) := V.str.inj (of_decide_eq_true c)
    have := z.l1
    rw [e] at this
    exact absurd this (by decide)
  refine ⟨_, rfl, x, rfl, big lx, _, _, rfl, rfl, _, rfl, ?_⟩
  refine ite2 (fun c => none_ (fun z => ?_) H (Same.refl _)) (fun c1 => ?_)
  · have := of_decide_eq_true c
    have := z.l9
    omega
  refine ⟨_, rfl, x, rfl, comp_signs (fun c => V.bl (decide (c ∈ K01.figS.cps.toList))) (big lx) (fun c H' R hS hR => ?_) (fun D H' hS hD => ?_)⟩
  · refine ⟨_, rfl, _, _, rfl, rfl, ?_⟩
    rw [PySem.StrLaws.found_one]
    exact hR H' (Same.refl _)
  refine ⟨D, x.cps.toList.map fun c => decide (c ∈ K01.figS.cps.toList), rfl, SqL.of (by rw [List.map_map]; exact hD), rfl, _, rfl, ?_⟩
  have ea : (x.cps.toList.map fun c => decide (c ∈ K01.figS.cps.toList)).all id = x.cps.toList.all fun c => decide (c ∈ K01.figS.cps.toList) := by
    rw [List.all_map]
    rfl
  rw [ea]
  cases c2 : x.cps.toList.all fun c => decide (c ∈ K01.figS.cps.toList) with
  | false =>
    refine iteT (none_ (fun z => ?_) H' hS)
    rw [fig_all.mpr z.dg] at c2
    cases c2
  | true =>
    have dg := fig_all.mp c2
    refine iteF ⟨_, rfl, x, rfl, big lx, _, _, rfl, rfl, _, rfl, ?_⟩
    have l9 : x.length ≤ 9 := by
      have := of_decide_eq_false (Bool.eq_false_iff.mpr c1)
      omega
    obtain ⟨c, r, ec⟩ : ∃ c r, TX.L x = c :: r := by
      cases e : TX.L x with
      | nil => exact absurd (decide_eq_true (by rw [TX.ext (y := ("" : Str)) (e.trans (by decide))])) c0
      | cons c r => exact ⟨c, r, rfl⟩
    have l1 : 1 ≤ x.length := by rw [← TX.L_len, ec, List.length_cons]; omega
    have good : NumT x → Q (nv x) H' := fun _ => q H' hS
    have last : NumT x → ∃ i, PySem.intText? x = some i ∧ x.length ≤ 640 ∧ Q (.int i) H' := fun hn => by
      obtain ⟨i, hi, e⟩ := hn.st
      have := q H' hS
      rw [e, nv_st hi] at this
      exact ⟨i, by rw [e]; exact TX.st_int hi.1 (by have := hi.2; omega), by omega, this⟩
    refine ite2 (fun c3 => ?_) (fun c3 => ?_)
    · have l2 := of_decide_eq_true c3
      refine ⟨_, rfl, _, _, c, rfl, rfl, big lx, (by have h1 : ([c] ++ r)[0]? = some c := rfl; exact atI_nat (j := 0) (by rw [show x.cps.toList = c :: r from ec]; rfl)), rfl, _, rfl, ?_⟩
      by_cases c48 : c = 48
      · subst c48
        refine iteY (decide_eq_true rfl) (none_ (fun z => ?_) H' hS)
        rcases z.hz with e | e
        · rw [ec] at e
          have := (List.cons.inj e).2
          rw [← TX.L_len, ec, this] at l2
          exact absurd l2 (by decide)
        · rw [ec] at e
          exact e rfl
      · refine iteN (decide_eq_false fun z => c48 ?_) ?_
        · have e := congrArg TX.L (V.str.inj z)
          have e : [c] = [48] := e.trans (by decide)
          exact (List.cons.inj e).1
        · obtain ⟨i, h1, h2, h3⟩ := last ⟨l1, l9, dg, .inr (by rw [ec]; exact fun z => c48 (Option.some.inj z))⟩
          exact ⟨_, rfl, _, i, rfl, h1, h2, h3⟩
    · have l2 := of_decide_eq_false (Bool.eq_false_iff.mpr c3)
      have hr : r = [] := List.eq_nil_of_length_eq_zero (by
        have : (TX.L x).length = r.length + 1 := by rw [ec]; rfl
        rw [TX.L_len] at this
        omega)
      subst hr
      obtain ⟨i, h1, h2, h3⟩ := last ⟨l1, l9, dg, by
        by_cases c48 : c = 48
        · exact .inl (by rw [ec, c48])
        · exact .inr (by rw [ec]; exact fun z => c48 (Option.some.inj z))⟩
      exact iteF ⟨_, rfl, _, i, rfl, h1, h2, h3⟩
theorem scLName : FnScope ["_law_word"] ["_law_word"] (defScope s__law_is_name) := ⟨rfl, rfl, rfl, by decide +kernel, rfl, by decide +kernel, by decide +kernel⟩
theorem ok_lname {f : Addr} {fd : FuncData} (F : Fun K "_law_is_name" "_law_is_name" s__law_is_name f fd) (n_len : mg "len" = none) (n_all : mg "all" = none) : FnOk P w K mg base CX0 1 f fd ["_law_word"] spName := by
  refine F.ok scLName (fun vs H Q E h => ?_) (fun cdv A outer s H vs Q E hr h => ?_)
  · obtain ⟨x, rfl, _⟩ := h
    rfl
  obtain ⟨x, rfl, lx, q⟩ := h
  refine ⟨_, QSs.h (ss_one (s_ret (e_and (e_chain op_lt op_lt e_int (e_b call_len_str n_len PySem.boot_len (a_cons (e_v 0) a_nil)) e_int) (e_one (e_b call_all n_all PyProof.Rows.boot_all (a_cons (e_comp [] [] [] rfl trivial trivial (i_str (e_v 0)) (fun _ _ _ _ => (e_cmp op_in_str (e_n 0) e_str))) a_nil)))))), ?_⟩
  have e1 : decide ((0 : Int) < ((x.length : Nat) : Int)) = decide (1 ≤ x.length) := decide_eq_decide.mpr (by omega)
  have e2 : decide (((x.length : Nat) : Int) < 9) = decide (x.length ≤ 8) := decide_eq_decide.mpr (by omega)
  refine ⟨_, rfl, x, rfl, big lx, _, _, rfl, rfl, _, rfl, ?_⟩
  refine ite2 (fun c1 => ?_) (fun c1 => ?_)
  · rw [e1] at c1
    refine ⟨_, _, rfl, rfl, _, rfl, ?_⟩
    refine ite2 (fun c2 => ?_) (fun c2 => ?_)
    · rw [e2] at c2
      refine ⟨_, rfl, x, rfl, comp_signs (fun c => V.bl (decide (c ∈ smallS.cps.toList))) (big lx) (fun c H' R hS hR => ?_) (fun D H' hS hD => ?_)⟩
      · refine ⟨_, rfl, _, _, rfl, rfl, ?_⟩
        rw [PySem.StrLaws.found_one]
        exact hR H' (Same.refl _)
      · refine ⟨D, x.cps.toList.map fun c => decide (c ∈ smallS.cps.toList), rfl, SqL.of (by rw [List.map_map]; exact hD), rfl, ?_⟩
        have e : (x.cps.toList.map fun c => decide (c ∈ smallS.cps.toList)).all id = x.cps.toList.all fun c => decide (c ∈ smallS.cps.toList) := by
          rw [List.all_map]
          rfl
        rw [e]
        have z := q H' hS
        rw [nmB, c1, c2, Bool.true_and, Bool.true_and] at z
        exact z
    · rw [e2] at c2
      have z := q H (Same.refl _)
      rw [nmB, c1, Bool.eq_false_iff.mpr c2, Bool.true_and, Bool.false_and] at z
      exact z
  · rw [e1] at c1
    have z := q H (Same.refl _)
    rw [nmB, Bool.eq_false_iff.mpr c1, Bool.false_and, Bool.false_and] at z
    exact ⟨_, rfl, iteF z⟩
end
end K06

set_option linter.all false
set_option maxRecDepth 100000
set_option maxHeartbeats 2000000
namespace K06
open PySem L2 G DT
open IT hiding It
open KW
open KR (Bad NoLeaf NumT isLeaf)
theorem flat_nv (l : List Str) : (l.map nv).all flatV = true := List.all_eq_true.mpr fun v hv => by
  obtain ⟨z, _, rfl⟩ := List.mem_map.mp hv
  rcases nv_cases z with ⟨i, _, _, e⟩ | ⟨_, e⟩ <;> rw [e] <;> rfl
theorem non_in {l : List Str} : inV .non (l.map nv) = false ↔ ∀ z ∈ l, NumT z := by
  unfold inV
  rw [List.any_eq_false]
  constructor
  · intro h z hz
    have := h (nv z) (List.mem_map.mpr ⟨z, hz, rfl⟩)
    rcases nv_cases z with ⟨i, hi, e, _⟩ | ⟨_, e⟩
    · rw [e]
      exact KR.st_numT hi
    · rw [e] at this
      exact absurd rfl this
  · intro h v hv
    obtain ⟨z, hz, rfl⟩ := List.mem_map.mp hv
    rcases nv_cases z with ⟨i, _, _, e⟩ | ⟨n, _⟩
    · rw [e]
      exact fun z => (nomatch z)
    · exact absurd (h z hz) n
theorem cnt_dash {x a b : Str} (h : TX.L x = TX.L a ++ 58 :: TX.L b) : (Txt.split b ⟨#[45]⟩).length ≤ (Txt.split x ⟨#[45]⟩).length := by
  have h1 := PyProof.Rows.split_len x 45
  have h2 := PyProof.Rows.split_len b 45
  have h3 : PyProof.Rows.cnt 45 x.cps.toList = PyProof.Rows.cnt 45 a.cps.toList + PyProof.Rows.cnt 45 (58 :: b.cps.toList) := by
    rw [show x.cps.toList = a.cps.toList ++ 58 :: b.cps.toList from h, PyProof.Rows.cnt_append]
  have h4 : PyProof.Rows.cnt 45 (58 :: b.cps.toList) = PyProof.Rows.cnt 45 b.cps.toList := by
    rw [PyProof.Rows.cnt_cons, if_neg (by decide)]
    omega
  have h5 : 0 ≤ PyProof.Rows.cnt 45 a.cps.toList := by
    have := PyProof.Rows.split_len a 45
    have := List.length_pos_iff.mpr (KR.split_ne a 45)
    omega
  omega
section
variable {P : Program} {w : World} {K : PySem.W.Frag} {mg : Str → Option Value} {base : Heap}
theorem scLClip : FnScope ["_law_word", "_law_reel", "_law_rest", "_law_ends"] ["_law_word"] (defScope s__law_clip) := ⟨rfl, rfl, rfl, by decide +kernel, rfl, by decide +kernel, by decide +kernel⟩
theorem ok_lclip {f : Addr} {fd : FuncData} (F : Fun K "_law_clip" "_law_clip" s__law_clip f fd) (dLNum : Def P w K mg base CX0 "_law_number" 1 ["_law_word"] spLNum) (dLName : Def P w K mg base CX0 "_law_is_name" 1 ["_law_word"] spName) (n_len : mg "len" = none) : FnOk P w K mg base CX0 2 f fd ["_law_word"] spClip := by
  refine F.ok scLClip (fun vs H Q E h => ?_) (fun cdv A outer s H vs Q E hr h => ?_)
  · obtain ⟨x, rfl, _⟩ := h
    rfl
  obtain ⟨x, rfl, lx, h⟩ := h
  refine ⟨_, QSs.h (ss_cons (s_if (t_w (w_or (t_cmp op_ne (e_count (e_v 0) e_str) e_int) (w_or1 (t_cmp op_gt (e_count (e_v 0) e_str) e_int))))
      (ss_one (s_ret e_non))
      ss_nil)
    (ss_cons (s_asg (e_split (e_v 0) e_str) (g_tupL rfl (gs_cons (g_name (i := 1) scLClip.nd) (gs_cons (g_name (i := 2) scLClip.nd) gs_nil))))
    (ss_cons (s_comp (i := 3) scLClip.nd [] [] [] rfl trivial trivial (i_list (e_split (e_v 2) e_str)) (fun _ _ _ _ => (e_call dLNum hr pass0 (a_cons (e_n 0) a_nil))))
    (ss_cons (s_if (t_w (w_or (t_not (t_val (e_call dLName hr pass0 (a_cons (e_v 1) a_nil)))) (w_or (t_cmp op_in_seq e_non (e_v 3)) (w_or1 (t_w (w_and (t_cmp op_eq (e_b call_len_seq n_len PySem.boot_len (a_cons (e_v 3) a_nil)) e_int) (w_and1 (t_cmp op_eq (e_ix ix_list (e_v 3) e_int) (e_ix ix_list (e_v 3) e_int)))))))))
      (ss_one (s_ret e_non))
      ss_nil)
    (ss_one (s_ret (e_tup (a_cons e_str (a_cons (e_v 1) (a_cons (e_ix ix_list (e_v 3) e_int) (a_cons (e_ix ix_list (e_v 3) (e_un un_neg e_int)) a_nil))))))))))), ?_⟩
  have zl : sizeLine = 16777216 := sizeLine_eq
  have e58 : Str.ofString ":" = ⟨#[58]⟩ := sOne 58 _ colon
  have e45 : Str.ofString "-" = ⟨#[45]⟩ := sOne 45 _ dash
  have c58 := KR.count_split x 58
  have c45 := KR.count_split x 45
  rw [← e58] at c58
  rw [← e45] at c45
  -- what is due
  have due : (∀ r f l, NameOk r → Num9 f → Num9 l → x = clipS r f l → ∀ t H', Same H H' → H' t = some (.tup [.str "clip", .str r, .int f, .int l]) → Q (.ref t) H') ∧ ((∀ (r : Str) (f l : Int), NameOk r → Num9 f → Num9 l → x ≠ clipS r f l) → ∀ H', Same H H' → Q .non H') := by
    rcases h with ⟨r, f, l, rfl, hr', hf, hl, q⟩ | ⟨noc, q⟩
    · refine ⟨fun r' f' l' h1 h2 h3 e t H' s ht => ?_, fun z => absurd rfl (z r f l hr' hf hl)⟩
      obtain ⟨y, a1, a2, _⟩ := KR.clip_colon hr' hf hl
      obtain ⟨y', b1, b2, _⟩ := KR.clip_colon h1 h2 h3
      rw [← e, a1] at b1
      obtain ⟨e1, b1⟩ := List.cons.inj b1
      obtain ⟨e2, _⟩ := List.cons.inj b1
      subst e1
      subst e2
      rw [a2] at b2
      have key : f = f' ∧ l = l' := by
        by_cases z : f = l <;> by_cases z' : f' = l'
        · rw [if_pos z, if_pos z'] at b2
          have := st_injI hf h2 (List.cons.inj b2).1
          exact ⟨this, by rw [← z, this, z']⟩
        · rw [if_pos z, if_neg z'] at b2
          exact absurd (congrArg List.length b2) (by simp)
        · rw [if_neg z, if_pos z'] at b2
          exact absurd (congrArg List.length b2) (by simp)
        · rw [if_neg z, if_neg z'] at b2
          obtain ⟨u1, u2⟩ := List.cons.inj b2
          exact ⟨st_injI hf h2 u1, st_injI hl h3 (List.cons.inj u2).1⟩
      obtain ⟨rfl, rfl⟩ := key
      exact q t H' s ht
    · exact ⟨fun r f l h1 h2 h3 e => absurd e (noc r f l h1 h2 h3), fun _ => q⟩
  clear h
  obtain ⟨qC, qN⟩ := due
  refine ⟨_, rfl, rfl, _, _, rfl, rfl, rfl, _, rfl, ?_⟩
  refine ite2 (fun c => ?_) (fun c1 => ?_)
  · refine qN (fun r f l h1 h2 h3 e => ?_) H (Same.refl _)
    obtain ⟨y, a1, _, _⟩ := KR.clip_colon h1 h2 h3
    rw [c58, e, e58, a1] at c
    simp at c
  have two : (Txt.split x (Str.ofString ":")).length = 2 := by
    have : decide (V.int (Txt.count x (Str.ofString ":")) = V.int 1) = true := by simpa using c1
    have := V.int.inj (of_decide_eq_true this)
    rw [e58] at this ⊢
    rw [← e58, c58, e58] at this
    omega
  refine ⟨_, rfl, rfl, _, _, rfl, rfl, _, _, rfl, rfl, _, rfl, ?_⟩
  refine ite2 (fun c => ?_) (fun c2 => ?_)
  · refine qN (fun r f l h1 h2 h3 e => ?_) H (Same.refl _)
    obtain ⟨y, _, _, a3⟩ := KR.clip_colon h1 h2 h3
    have c := of_decide_eq_true c
    rw [c45, e, e45] at c
    omega
  have few : (Txt.split x ⟨#[45]⟩).length ≤ 2 := by
    have := of_decide_eq_false (Bool.eq_false_iff.mpr c2)
    rw [c45, e45] at this
    omega
  obtain ⟨a, b, hab⟩ : ∃ a b, Txt.split x (Str.ofString ":") = [a, b] := by
    match Txt.split x (Str.ofString ":"), two with
    | [a, b], _ => exact ⟨a, b, rfl⟩
  have hxL : TX.L x = TX.L a ++ 58 :: TX.L b := by
    have := KR.split_jn x 58
    rw [← e58, hab] at this
    rw [this]
    simp [TX.jn]
  have la : a.length ≤ 100000 := by
    have : TX.L x = _ := hxL
    have := congrArg List.length this
    rw [List.length_append, List.length_cons, TX.L_len, TX.L_len, TX.L_len] at this
    omega
  have lb : b.length ≤ 100000 := by
    have := congrArg List.length hxL
    rw [List.length_append, List.length_cons, TX.L_len, TX.L_len, TX.L_len] at this
    omega
  refine ⟨_, rfl, rfl, _, _, rfl, rfl, (by decide), (by omega), fun p1 hp1 => ?_⟩
  have t1 := Same.new hp1 (.lst ((Txt.split x (Str.ofString ":")).map V.str))
  rw [hab] at t1
  rw [hab]
  refine ⟨p1, [.str a, .str b], rfl, SqL.of upd_same, rfl, _, _, rfl, _, _, rfl, rfl, ?_⟩
  have lfs := Nat.le_trans (cnt_dash hxL) few
  have hle : ∀ z ∈ Txt.split b (Str.ofString "-"), z.length ≤ 100000 := fun z hz => by rw [e45] at hz; exact Nat.le_trans (KR.split_le hz) lb
  refine ⟨_, rfl, rfl, _, _, rfl, rfl, (by decide), (by omega), fun p2 hp2 => ?_⟩
  have t2 := Same.new hp2 (.lst ((Txt.split b (Str.ofString "-")).map V.str))
  have hj : TX.L x = TX.L a ++ 58 :: TX.jn [45] ((Txt.split b (Str.ofString "-")).map TX.L) := by rw [hxL, e45, ← KR.split_jn b 45]
  have hne : Txt.split b (Str.ofString "-") ≠ [] := by rw [e45]; exact KR.split_ne b 45
  have back : ∀ r f l, NameOk r → Num9 f → Num9 l → x = clipS r f l → NameOk a ∧ (Txt.split b (Str.ofString "-")) = if f = l then [TX.st f] else [TX.st f, TX.st l] := fun r f l h1 h2 h3 e => by
    obtain ⟨y, a1, a2, _⟩ := KR.clip_colon h1 h2 h3
    rw [e58, e, a1] at hab
    obtain ⟨u1, u2⟩ := List.cons.inj hab
    obtain ⟨u2, _⟩ := List.cons.inj u2
    subst u1
    subst u2
    exact ⟨h1, by rw [e45]; exact a2⟩
  rw [← e45] at lfs
  generalize Txt.split b (Str.ofString "-") = fs at *
  refine ⟨p2, rfl, ⟨_, SqL.of upd_same⟩, comp_list (fs.map nv) (SqL.of upd_same) (by rw [List.length_map]; omega) (by rw [List.length_map, List.length_map]) ?_ ?_⟩
  · intro i x' y H' R hS hx hy hR
    rw [List.getElem?_map] at hx hy
    cases e : fs[i]? with
    | none => rw [e] at hx; cases hx
    | some z =>
      rw [e] at hx hy
      cases hx
      cases hy
      exact ⟨_, rfl, z, rfl, hle z (List.mem_of_getElem? e), fun H'' s'' => hR H'' s''⟩
  intro D H4 s4 hD0 hD
  have T := (t1.trans t2).trans s4
  refine ⟨_, rfl, a, rfl, la, fun H5 s5 => ⟨_, rfl, ?_⟩⟩
  have T5 := T.trans s5
  have hD5 := s5 _ _ hD
  cases en : nmB a with
  | false =>
    refine iteT (qN (fun r f l h1 h2 h3 e => ?_) H5 T5)
    rw [nm_name (back r f l h1 h2 h3 e).1] at en
    cases en
  | true =>
    refine iteF ⟨_, rfl, D, _, rfl, .inl (SqL.of hD5), rfl, flat_nv fs, _, rfl, ?_⟩
    cases ei : inV .non (fs.map nv) with
    | true =>
      refine iteY rfl (qN (fun r f l h1 h2 h3 e => ?_) H5 T5)
      have hfs := (back r f l h1 h2 h3 e).2
      have : inV .non (fs.map nv) = false := non_in.mpr fun z hz => by
        rw [hfs] at hz
        split at hz
        · rw [List.mem_singleton.mp hz]; exact KR.st_numT h2
        · rcases List.mem_cons.mp hz with rfl | hz
          · exact KR.st_numT h2
          · rw [List.mem_singleton.mp hz]; exact KR.st_numT h3
      rw [this] at ei
      cases ei
    | false =>
      have hn := non_in.mp ei
      refine iteN rfl ?_
      have na := name_of en
      match fs, lfs, hne, hn, hj, hD5 with
      | [u], _, _, hn, hj, hD5 =>
        obtain ⟨f, hf, rfl⟩ := (hn u (List.mem_singleton.mpr rfl)).st
        have hD5 : H5 D = some (.lst [.int f]) := by rw [hD5, List.map_cons, nv_st hf]; rfl
        have ex : x = clipS a f f := TX.ext (by rw [hj, clipS_eq]; simp [TX.jn])
        refine ⟨_, rfl, D, _, rfl, .inl (SqL.of hD5), rfl, _, rfl, iteN (decide_eq_false fun z => by have z : (1 : Int) = 2 := V.int.inj z; exact absurd z (by decide)) (iteF ?_)⟩
        refine ⟨_, rfl, _, rfl, D, _, _, _, rfl, rfl, SqL.of hD5, atI_nat (j := 0) rfl, _, rfl, _, rfl, D, _, _, _, rfl, rfl, SqL.of hD5, (show atI [V.int f] (-1) = some (V.int f) from rfl), (by show 4 ≤ sizeLine; decide), fun t ht => ?_⟩
        exact qC a f f na hf hf ex t _ (T5.trans (Same.new ht _)) upd_same
      | [u, v], _, _, hn, hj, hD5 =>
        obtain ⟨f, hf, rfl⟩ := (hn u (List.mem_cons_self ..)).st
        obtain ⟨l, hl, rfl⟩ := (hn v (List.mem_cons_of_mem _ (List.mem_singleton.mpr rfl))).st
        have hD5 : H5 D = some (.lst [.int f, .int l]) := by rw [hD5, List.map_cons, List.map_cons, nv_st hf, nv_st hl]; rfl
        refine ⟨_, rfl, D, _, rfl, .inl (SqL.of hD5), rfl, _, rfl, iteY (decide_eq_true rfl) ?_⟩
        refine ⟨_, rfl, D, _, _, _, rfl, rfl, SqL.of hD5, atI_nat (j := 0) rfl, _, rfl, D, _, _, _, rfl, rfl, SqL.of hD5, atI_nat (j := 1) rfl, rfl, _, rfl, ?_⟩
        by_cases efl : f = l
        · subst efl
          refine iteY (decide_eq_true rfl) (qN (fun r f' l' h1 h2 h3 e => ?_) H5 T5)
          have hfs := (back r f' l' h1 h2 h3 e).2
          by_cases z : f' = l'
          · rw [if_pos z] at hfs
            exact absurd (congrArg List.length hfs) (by simp)
          · rw [if_neg z] at hfs
            obtain ⟨u1, u2⟩ := List.cons.inj hfs
            exact z ((st_injI hf h2 u1).symm.trans (st_injI hf h3 (List.cons.inj u2).1))
        · have ex : x = clipS a f l := TX.ext (by rw [hj, clipS_ne a efl]; simp [TX.jn])
          refine iteN (decide_eq_false fun z => efl (V.int.inj z)) ?_
          refine ⟨_, rfl, _, rfl, D, _, _, _, rfl, rfl, SqL.of hD5, atI_nat (j := 0) rfl, _, rfl, _, rfl, D, _, _, _, rfl, rfl, SqL.of hD5, (show atI [V.int f, V.int l] (-1) = some (V.int l) from rfl), (by show 4 ≤ sizeLine; decide), fun t ht => ?_⟩
          exact qC a f l na hf hl ex t _ (T5.trans (Same.new ht _)) upd_same
      | _ :: _ :: _ :: _, lfs, _, _, _, _ => exact absurd lfs (by simp only [List.length_cons]; omega)
      | [], _, hne, _, _, _ => exact absurd rfl hne
end
end K06

set_option linter.all false
set_option maxRecDepth 100000
set_option maxHeartbeats 2000000
namespace K06
open PySem L2 G DT
open IT hiding It
open KW
open KR (Bad NoLeaf NumT isLeaf)
/-- what a word is worth as a count -/
theorem nv_count (x : Str) : (∃ m, 1 ≤ m ∧ m < 1000000000 ∧ x = TX.st m ∧ nv x = .int m) ∨ (nv x = .int 0 ∧ x = ("0" : Str)) ∨ (¬ NumT x ∧ nv x = .non) := by
  rcases nv_cases x with ⟨i, hi, e, h⟩ | h
  · by_cases z : i = 0
    · subst z
      exact .inr (.inl ⟨h, by rw [e]; exact (KR.st0 hi).mpr rfl⟩)
    · exact .inl ⟨i, by have := hi.1; omega, hi.2, e, h⟩
  · exact .inr (.inr h)
section
variable {P : Program} {w : World} {K : PySem.W.Frag} {mg : Str → Option Value} {base : Heap}
def spLItem : Sp := fun vs H Q _ => ∃ x : Str, vs = [.str x] ∧ x.length ≤ 100000 ∧ ((∃ w : Wd, x = w.s ∧ w.ok ∧ isLeaf w ∧ ∀ t H', Same H H' → Td H' (.ref t) (dI (leaf w)) → Q (.ref t) H') ∨ (NoLeaf x ∧ ∀ H', Same H H' → Q .non H'))
theorem scLItem : FnScope ["_law_word", "_law_many"] ["_law_word"] (defScope s__law_item) := ⟨rfl, rfl, rfl, by decide +kernel, rfl, by decide +kernel, by decide +kernel⟩
theorem ok_litem {f : Addr} {fd : FuncData} (F : Fun K "_law_item" "_law_item" s__law_item f fd) (dLNum : Def P w K mg base CX0 "_law_number" 1 ["_law_word"] spLNum) (dLName : Def P w K mg base CX0 "_law_is_name" 1 ["_law_word"] spName) (dLClip : Def P w K mg base CX0 "_law_clip" 2 ["_law_word"] spClip) : FnOk P w K mg base CX0 3 f fd ["_law_word"] spLItem := by
  refine F.ok scLItem (fun vs H Q E h => ?_) (fun cdv A outer s H vs Q E hr h => ?_)
  · obtain ⟨x, rfl, _⟩ := h
    rfl
  obtain ⟨x, rfl, lx, h⟩ := h
  refine ⟨_, QSs.h (ss_cons (s_if (t_val (e_call dLName hr pass0 (a_cons (e_v 0) a_nil)))
      (ss_one (s_ret (e_tup (a_cons e_str (a_cons (e_v 0) a_nil)))))
      ss_nil)
    (ss_cons (s_if (t_cmp op_eq (e_sl sl_str (e_v 0) o_none (o_some e_int)) e_str)
      (ss_cons (s_set (i := 1) scLItem.nd (e_call dLNum hr pass0 (a_cons (e_sl sl_str (e_v 0) (o_some e_int) o_none) a_nil)))
      (ss_cons (s_if (t_w (w_or (t_isN (e_v 1)) (w_or1 (t_cmp op_eq (e_v 1) e_int))))
        (ss_one (s_ret e_non))
        ss_nil)
      (ss_one (s_ret (e_tup (a_cons e_str (a_cons (e_v 1) a_nil)))))))
      ss_nil)
    (ss_one (s_ret (e_call dLClip hr pass0 (a_cons (e_v 0) a_nil)))))), ?_⟩
  -- what is due
  have qN : NoLeaf x → ∀ H', Same H H' → Q .non H' := fun hn => by
    rcases h with ⟨w, e, ok, hl, _⟩ | ⟨_, q⟩
    · exact absurd e (hn w ok hl)
    · exact q
  refine ⟨_, rfl, x, rfl, lx, fun H1 s1 => ⟨_, rfl, ?_⟩⟩
  cases en : nmB x with
  | true =>
    have na := name_of en
    refine iteT ⟨_, rfl, (by show 2 ≤ sizeLine; decide), fun t ht => ?_⟩
    rcases h with ⟨w, e, ok, hl, q⟩ | ⟨nol, _⟩
    · cases w with
      | part n =>
        have e : x = n := e
        subst e
        exact q t _ (s1.trans (Same.new ht _)) (mk_part upd_same)
      | clip r f l =>
        exfalso
        have h58 : 58 ∈ TX.L x := by
          rw [e]
          show 58 ∈ TX.L (clipS r f l)
          by_cases z : f = l
          · subst z
            rw [clipS_eq]
            simp
          · rw [clipS_ne r z]
            simp
        have := na.sm 58 h58
        omega
      | fade m =>
        exfalso
        have h126 : 126 ∈ TX.L x := by
          rw [e]
          show 126 ∈ TX.L (("~" : Str) ++ TX.st m)
          rw [TX.L_app, tilde]
          simp
        have := na.sm 126 h126
        omega
      | opT m => exact hl.elim
      | opB => exact hl.elim
      | sh => exact hl.elim
    · exact absurd na nol.name
  | false =>
    have nn : ¬ NameOk x := fun z => by rw [nm_name z] at en; cases en
    refine iteF ⟨_, rfl, _, rfl, _, rfl, big lx, rfl, _, rfl, ?_⟩
    by_cases c : ∃ p, TX.L x = 126 :: p
    · obtain ⟨p, hp⟩ := c
      have e1 : Txt.slice x none (some 1) = ("~" : Str) := TX.ext (by have := sl_to_any (x := x) 1; rw [show ((1 : Nat) : Int) = 1 from rfl] at this; rw [this, hp, tilde]; rfl)
      refine iteY (decide_eq_true (by rw [e1])) ?_
      have hl : x.length = p.length + 1 := by rw [← TX.L_len, hp, List.length_cons]
      have es : TX.L (Txt.slice x (some 1) none) = p := by rw [TX.sl_from (by decide) (by omega), hp]; rfl
      refine ⟨_, rfl, _, rfl, _, rfl, big lx, _, rfl, (by rw [← TX.L_len, es]; omega), fun H2 s2 => ?_⟩
      have T := s1.trans s2
      rcases nv_count (Txt.slice x (some 1) none) with ⟨m, m1, m2, em, h0⟩ | ⟨h0, e0⟩ | ⟨n0, h0⟩
      · rw [h0]
        have ex : x = (Wd.fade m).s := TX.ext (by rw [hp, ← es, em]; show _ = TX.L (("~" : Str) ++ TX.st m); rw [TX.L_app, tilde]; rfl)
        refine ⟨_, rfl, _, rfl, iteF ⟨_, rfl, rfl, _, rfl, iteN (decide_eq_false fun z => by have := V.int.inj z; omega) ?_⟩⟩
        refine ⟨_, rfl, (by show 2 ≤ sizeLine; decide), fun t ht => ?_⟩
        rcases h with ⟨w, e, ok, hl', q⟩ | ⟨nol, _⟩
        · have : Td (upd H2 t (.tup [.str "fade", .int m])) (.ref t) (dI (leaf w)) := by
            cases w with
            | fade k =>
              have : m = k := by
                have z : (Wd.fade m).s = (Wd.fade k).s := ex.symm.trans e
                have z := congrArg TX.L z
                have z : TX.L (("~" : Str) ++ TX.st m) = TX.L (("~" : Str) ++ TX.st k) := z
                rw [TX.L_app, TX.L_app] at z
                exact st_injI ⟨by omega, by omega⟩ (pos9 ok) (TX.ext (List.append_cancel_left z))
              subst this
              exact mk_fade upd_same
            | part n => exact absurd (by rw [e]; exact ok) nn
            | clip r f l =>
              exfalso
              obtain ⟨c, q', e1, h1, h2⟩ := ok.1.cons
              have z := hp
              rw [e] at z
              have z : TX.L (clipS r f l) = 126 :: p := z
              by_cases y : f = l
              · subst y
                rw [clipS_eq, e1] at z
                have := (List.cons.inj z).1
                omega
              · rw [clipS_ne r y, e1] at z
                have := (List.cons.inj z).1
                omega
            | opT m => exact hl'.elim
            | opB => exact hl'.elim
            | sh => exact hl'.elim
          exact q t _ (T.trans (Same.new ht _)) this
        · exact absurd ex (nol (.fade m) ⟨m1, m2⟩ trivial)
      all_goals
        rw [h0]
        have nol : NoLeaf x := fun w ok hl' e => by
          cases w with
          | fade k =>
            have z := hp
            rw [e] at z
            have z : TX.L (("~" : Str) ++ TX.st k) = 126 :: p := z
            rw [TX.L_app, tilde] at z
            have z := (List.cons.inj z).2
            have ek : Txt.slice x (some 1) none = TX.st k := TX.ext (by rw [es]; exact z.symm)
            rw [ek, nv_st (pos9 ok)] at h0
            first
              | (have := V.int.inj h0; have := ok.1; omega)
              | cases h0
          | part n => exact nn (by rw [e]; exact ok)
          | clip r f l =>
            obtain ⟨c, q', e1, h1, h2⟩ := ok.1.cons
            have z := hp
            rw [e] at z
            have z : TX.L (clipS r f l) = 126 :: p := z
            by_cases y : f = l
            · subst y
              rw [clipS_eq, e1] at z
              have := (List.cons.inj z).1
              omega
            · rw [clipS_ne r y, e1] at z
              have := (List.cons.inj z).1
              omega
          | opT m => exact hl'.elim
          | opB => exact hl'.elim
          | sh => exact hl'.elim
      · exact ⟨_, rfl, _, rfl, iteF ⟨_, rfl, rfl, _, rfl, iteY (decide_eq_true rfl) (qN nol H2 T)⟩⟩
      · exact ⟨_, rfl, _, rfl, iteT (qN nol H2 T)⟩
    · have e1 : Txt.slice x none (some 1) ≠ ("~" : Str) := fun z => c (by
        have z := congrArg TX.L z
        have := sl_to_any (x := x) 1
        rw [show ((1 : Nat) : Int) = 1 from rfl] at this
        rw [this, tilde] at z
        cases e : TX.L x with
        | nil => rw [e] at z; cases z
        | cons a r => rw [e] at z; exact ⟨r, by rw [(List.cons.inj z).1]⟩)
      refine iteN (decide_eq_false fun z => e1 (V.str.inj z)) ?_
      refine ⟨_, rfl, x, rfl, lx, ?_⟩
      rcases h with ⟨w, e, ok, hl, q⟩ | ⟨nol, q⟩
      · cases w with
        | clip r f l => exact .inl ⟨r, f, l, e, ok.1, ok.2.1, ok.2.2, fun t H' s' ht => q t H' (s1.trans s') (mk_clip ht)⟩
        | part n => exact absurd (by rw [e]; exact ok) nn
        | fade m => exact absurd ⟨TX.L (TX.st m), by rw [e]; show TX.L (("~" : Str) ++ TX.st m) = _; rw [TX.L_app, tilde]; rfl⟩ c
        | opT m => exact hl.elim
        | opB => exact hl.elim
        | sh => exact hl.elim
      · exact .inr ⟨fun r f l h1 h2 h3 => nol.clip h1 h2 h3, fun H' s' => q H' (s1.trans s')⟩
theorem scLOpen : FnScope ["_law_word", "_law_many"] ["_law_word"] (defScope s__law_opens) := ⟨rfl, rfl, rfl, by decide +kernel, rfl, by decide +kernel, by decide +kernel⟩
theorem ok_lopen {f : Addr} {fd : FuncData} (F : Fun K "_law_opens" "_law_opens" s__law_opens f fd) (dLNum : Def P w K mg base CX0 "_law_number" 1 ["_law_word"] spLNum) : FnOk P w K mg base CX0 2 f fd ["_law_word"] spOpen := by
  refine F.ok scLOpen (fun vs H Q E h => ?_) (fun cdv A outer s H vs Q E hr h => ?_)
  · obtain ⟨x, rfl, _⟩ := h
    rfl
  obtain ⟨x, rfl, lx, h⟩ := h
  refine ⟨_, QSs.h (ss_cons (s_if (t_cmp op_eq (e_v 0) e_str)
      (ss_one (s_ret (e_tup (a_cons e_str a_nil))))
      ss_nil)
    (ss_cons (s_set (i := 1) scLOpen.nd e_non)
    (ss_cons (s_if (t_cmp op_eq (e_sl sl_str (e_v 0) (o_some (e_un un_neg e_int)) o_none) e_str)
      (ss_one (s_set (i := 1) scLOpen.nd (e_call dLNum hr pass0 (a_cons (e_sl sl_str (e_v 0) o_none (o_some (e_un un_neg e_int))) a_nil))))
      ss_nil)
    (ss_cons (s_if (t_w (w_or (t_isN (e_v 1)) (w_or1 (t_cmp op_eq (e_v 1) e_int))))
      (ss_one (s_ret e_non))
      ss_nil)
    (ss_one (s_ret (e_tup (a_cons e_str (a_cons (e_v 1) a_nil))))))))), ?_⟩
  refine ⟨_, rfl, rfl, _, rfl, ?_⟩
  by_cases hB : x = ("-(" : Str)
  · subst hB
    refine iteY (decide_eq_true rfl) ⟨(by show 1 ≤ sizeLine; decide), fun t ht => ?_⟩
    rcases h with ⟨w, e, ok, _, qB, _⟩ | ⟨bad, _⟩
    · have : w = .opB := by
        by_cases z : w = .opB
        · exact z
        · exact absurd (by rw [← e]) (of_decide_eq_false (Wd.neB ok z))
      exact qB this t _ (Same.new ht _) upd_same
    · exact absurd rfl bad.back
  · refine iteN (decide_eq_false fun z => hB (V.str.inj z)) ?_
    have isT : ∀ k, x = (Wd.opT k).s → TX.L x = TX.L (TX.st k) ++ [42, 40] := fun k e => by rw [e]; show TX.L (TX.st k ++ ("*(" : Str)) = _; rw [TX.L_app, topen]
    have none_ : (∀ k, 1 ≤ k ∧ k < 1000000000 → x ≠ (Wd.opT k).s) → ∀ H', Same H H' → Q .non H' := fun no => by
      rcases h with ⟨w, e, ok, _, _, qN⟩ | ⟨_, q⟩
      · refine qN (fun z => hB (by rw [e, z]; rfl)) fun k z => ?_
        subst z
        exact no k ok e
      · exact q
    refine ⟨_, rfl, _, rfl, _, rfl, _, rfl, big lx, rfl, _, rfl, ?_⟩
    by_cases c : ∃ p, TX.L x = p ++ [42, 40]
    · refine iteY (decide_eq_true (by rw [last2.mpr c])) ?_
      obtain ⟨p, hp⟩ := c
      have hl : x.length = p.length + 2 := by rw [← TX.L_len, hp, List.length_append]; rfl
      have es : TX.L (Txt.slice x none (some (-2))) = p := by
        have := TX.sl_neg (x := x) (k := 2) (by decide) (by omega)
        rw [show (-((2 : Nat) : Int)) = -2 from rfl] at this
        rw [this, hl, hp, Nat.add_sub_cancel, List.take_left]
      refine ⟨_, rfl, _, rfl, _, rfl, _, rfl, big lx, _, rfl, (by rw [← TX.L_len, es]; omega), fun H2 s2 => ?_⟩
      have eqk : ∀ k, x = (Wd.opT k).s → Txt.slice x none (some (-2)) = TX.st k := fun k e => TX.ext (by
        have z := isT k e
        rw [hp] at z
        rw [es]
        exact (List.append_inj' z rfl).1)
      rcases nv_count (Txt.slice x none (some (-2))) with ⟨m, m1, m2, em, h0⟩ | ⟨h0, e0⟩ | ⟨n0, h0⟩
      · rw [h0]
        have ex : x = (Wd.opT m).s := TX.ext (by rw [hp, ← es, em]; show _ = TX.L (TX.st m ++ ("*(" : Str)); rw [TX.L_app, topen])
        refine ⟨_, rfl, _, rfl, iteF ⟨_, rfl, rfl, _, rfl, iteN (decide_eq_false fun z => by have := V.int.inj z; omega) ?_⟩⟩
        refine ⟨_, rfl, (by show 2 ≤ sizeLine; decide), fun t ht => ?_⟩
        rcases h with ⟨w, e, ok, qT, _, qN⟩ | ⟨bad, _⟩
        · have : w = .opT m := by
            by_cases z : ∃ k, w = .opT k
            · obtain ⟨k, rfl⟩ := z
              have := eqk k e
              rw [em] at this
              rw [st_injI ⟨by omega, by omega⟩ (pos9 ok) this]
            · exfalso
              have h1 : w ≠ .opB := fun y => hB (by rw [e, y]; rfl)
              have e1 := Wd.noT ok h1 fun k y => z ⟨k, y⟩
              rw [← e] at e1
              have e2 : Txt.endswith x "*(" = true := TX.ends_iff.mpr ⟨p, by rw [hp]; exact congrArg (p ++ ·) topen.symm⟩
              rw [e2] at e1
              cases e1
          exact qT m this t _ (s2.trans (Same.new ht _)) upd_same
        · exact absurd ex (bad (.opT m) ⟨m1, m2⟩)
      · rw [h0]
        exact ⟨_, rfl, _, rfl, iteF ⟨_, rfl, rfl, _, rfl, iteY (decide_eq_true rfl) (none_ (fun k hk e => by have z := eqk k e; rw [z, nv_st (pos9 hk)] at h0; have := V.int.inj h0; omega) H2 s2)⟩⟩
      · rw [h0]
        exact ⟨_, rfl, _, rfl, iteT (none_ (fun k hk e => by have z := eqk k e; rw [z, nv_st (pos9 hk)] at h0; cases h0) H2 s2)⟩
    · refine iteN (decide_eq_false fun z => c (last2.mp (V.str.inj z))) ?_
      exact ⟨_, rfl, _, rfl, iteT (none_ (fun k _ e => c ⟨_, isT k e⟩) H (Same.refl _))⟩
end
end K06

set_option linter.all false
set_option maxRecDepth 100000
set_option maxHeartbeats 2000000
namespace K06
open PySem L2 G DT
open IT hiding It
open KW
open KR (Bad NoLeaf NumT isLeaf Upto tok Stuck out)
/-- the law's reading: its rows and heads in the heap -/
abbrev lists (m : Mst) : List (List IT.It) := m.1.map (·.2) ++ [m.2]
structure Rd (H0 H : Hp) (pr ph : Addr) (m : Mst) (ls hs : List Addr) : Prop where
  r : H pr = some (.lst (ls.map V.ref))
  h : H ph = some (.lst (hs.map V.ref))
  len : ls.length = m.1.length + 1
  row : ∀ (j : Nat) l xs, ls[j]? = some l → (lists m)[j]? = some xs → IL H l xs
  hlen : hs.length = m.1.length
  head : ∀ (j : Nat) t x, hs[j]? = some t → m.1[j]? = some x → H t = some (.tup (opV x.1)) ∧ isOp x.1
  nd : ls.Nodup
  np : pr ∉ ls
  nh : ph ∉ ls
  ne : pr ≠ ph
  f1 : ∀ l ∈ ls, H0 l = none
  f2 : H0 pr = none
  f3 : H0 ph = none
  same : Same H0 H
theorem nd_inj {α : Type} : ∀ {ls : List α} {i j : Nat} {a : α}, ls.Nodup → ls[i]? = some a → ls[j]? = some a → i = j
  | [], _, _, _, _, h, _ => by cases h
  | b :: r, 0, 0, _, _, _, _ => rfl
  | b :: r, 0, j + 1, a, nd, h1, h2 => by
    have e : b = a := by simpa using h1
    subst e
    exact absurd (List.mem_of_getElem? (by simpa using h2)) (List.nodup_cons.mp nd).1
  | b :: r, i + 1, 0, a, nd, h1, h2 => by
    have e : b = a := by simpa using h2
    subst e
    exact absurd (List.mem_of_getElem? (by simpa using h1)) (List.nodup_cons.mp nd).1
  | b :: r, i + 1, j + 1, a, nd, h1, h2 => congrArg (· + 1) (nd_inj (List.nodup_cons.mp nd).2 (by simpa using h1) (by simpa using h2))
theorem lists_opn (m : Mst) (o : Wd) : lists (m.1 ++ [(o, m.2)], []) = lists m ++ [[]] := by simp [lists]
section
variable {H0 H H2 : Hp} {pr ph : Addr} {m : Mst} {ls hs : List Addr}
theorem IL.tk {l : Addr} {xs : List IT.It} (h : IL H l xs) (t : TK H H2) (e : H2 l = H l) : IL H2 l xs := by
  obtain ⟨vs, h1, h2⟩ := h
  exact ⟨vs, e.trans h1, h2.tk t⟩
theorem Rd.later (d : Rd H0 H pr ph m ls hs) (s : Same H H2) : Rd H0 H2 pr ph m ls hs := ⟨s _ _ d.r, s _ _ d.h, d.len, fun j l xs h1 h2 => (d.row j l xs h1 h2).same s, d.hlen, fun j t x h1 h2 => ⟨s _ _ (d.head j t x h1 h2).1, (d.head j t x h1 h2).2⟩, d.nd, d.np, d.nh, d.ne, d.f1, d.f2, d.f3, d.same.trans s⟩
theorem lists_len (m : Mst) : (lists m).length = m.1.length + 1 := by rw [List.length_append, List.length_map]; rfl
theorem Rd.last (d : Rd H0 H pr ph m ls hs) : ∃ l ivs, ls[ls.length - 1]? = some l ∧ atI (ls.map V.ref) (-1) = some (.ref l) ∧ H l = some (.lst ivs) ∧ Tds H ivs (dL m.2) := by
  have hl := d.len
  obtain ⟨l, hl'⟩ : ∃ l, ls[ls.length - 1]? = some l := ⟨ls[ls.length - 1]'(by omega), List.getElem?_eq_getElem (by omega)⟩
  have hx : (lists m)[ls.length - 1]? = some m.2 := by
    show (m.1.map (·.2) ++ [m.2])[ls.length - 1]? = some m.2
    rw [List.getElem?_append_right (by rw [List.length_map]; omega), List.length_map, show ls.length - 1 - m.1.length = 0 by omega]
    rfl
  obtain ⟨ivs, h1, h2⟩ := d.row _ l m.2 hl' hx
  refine ⟨l, ivs, hl', ?_, h1, h2⟩
  have hne : ls ≠ [] := fun z => by rw [z] at hl; cases hl
  obtain ⟨q, z, rfl⟩ : ∃ q z, ls = q ++ [z] := by
    rcases List.eq_nil_or_concat ls with y | ⟨q, z, y⟩
    · exact absurd y hne
    · exact ⟨q, z, by rw [y, List.concat_eq_append]⟩
  have : z = l := by simpa using hl'
  subst this
  rw [List.map_append]
  exact atI_last _ _
/-- a list is changed: all else stays -/
theorem tk_upd {c : Addr} {us ws : List V} (h : H c = some (.lst us)) : TK H (upd H c (.lst ws)) := TK.lst h
theorem Rd.leaf (d : Rd H0 H pr ph m ls hs) {l t : Addr} {ivs : List V} {y : IT.It} (hl : ls[ls.length - 1]? = some l) (hi : H l = some (.lst ivs)) (ti : Tds H ivs (dL m.2)) (ht : Td H (.ref t) (dI y)) : Rd H0 (upd H l (.lst (ivs ++ [.ref t]))) pr ph (m.1, m.2 ++ [y]) ls hs := by
  have lm : l ∈ ls := List.mem_of_getElem? hl
  have tk : TK H (upd H l (.lst (ivs ++ [.ref t]))) := tk_upd hi
  have hlen := d.len
  have q1 : pr ≠ l := fun z => d.np (z ▸ lm)
  have q2 : ph ≠ l := fun z => d.nh (z ▸ lm)
  refine ⟨by rw [upd_ne q1]; exact d.r, by rw [upd_ne q2]; exact d.h, d.len, fun j l' xs h1 h2 => ?_, d.hlen, fun j t' x h1 h2 => ⟨tk _ _ (d.head j t' x h1 h2).1, (d.head j t' x h1 h2).2⟩, d.nd, d.np, d.nh, d.ne, d.f1, d.f2, d.f3, fun b o hb => by rw [upd_ne (ne_of_none hb (d.f1 l lm))]; exact d.same _ _ hb⟩
  by_cases e : j = ls.length - 1
  · subst e
    rw [hl] at h1
    cases h1
    have : (lists (m.1, m.2 ++ [y]))[ls.length - 1]? = some (m.2 ++ [y]) := by
      show (m.1.map (·.2) ++ [m.2 ++ [y]])[ls.length - 1]? = _
      rw [List.getElem?_append_right (by rw [List.length_map]; omega), List.length_map, show ls.length - 1 - m.1.length = 0 by omega]
      rfl
    rw [this] at h2
    cases h2
    refine ⟨_, upd_same, ?_⟩
    rw [dL_app]
    refine (ti.tk tk).app ?_
    rw [dL, dL]
    exact .one (ht.tk tk)
  · have hj : j < ls.length := (List.getElem?_eq_some_iff.mp h1).1
    have hne : l' ≠ l := fun z => e (nd_inj d.nd (z ▸ h1) hl)
    have h2' : (lists m)[j]? = some xs := by
      rw [← h2]
      show (m.1.map (·.2) ++ [m.2])[j]? = (m.1.map (·.2) ++ [m.2 ++ [y]])[j]?
      rw [List.getElem?_append_left (by rw [List.length_map]; omega), List.getElem?_append_left (by rw [List.length_map]; omega)]
    exact IL.tk (d.row j l' xs h1 h2') tk (upd_ne hne)
theorem Rd.opn (d : Rd H0 H pr ph m ls hs) {t pn : Addr} {o : Wd} (ht : H t = some (.tup (opV o))) (ho : isOp o) (hn : upd H ph (.lst (hs.map V.ref ++ [.ref t])) pn = none) :
    Rd H0 (upd (upd (upd H ph (.lst (hs.map V.ref ++ [.ref t]))) pn (.lst [])) pr (.lst (ls.map V.ref ++ [.ref pn]))) pr ph (m.1 ++ [(o, m.2)], []) (ls ++ [pn]) (hs ++ [t]) := by
  have n1 : ph ≠ pn := ne_of_none upd_same hn
  have hfree : H pn = none := by rw [upd_ne (fun z => n1 z.symm)] at hn; exact hn
  have n2 : pr ≠ pn := ne_of_none d.r hfree
  have nm : pn ∉ ls := fun z => by
    obtain ⟨j, hj⟩ := List.mem_iff_getElem?.mp z
    have hjl := (List.getElem?_eq_some_iff.mp hj).1
    obtain ⟨vs, h1, _⟩ := d.row j pn ((lists m)[j]'(by rw [lists_len, ← d.len]; exact hjl)) hj (List.getElem?_eq_getElem _)
    rw [hfree] at h1
    cases h1
  have t1 : TK H (upd H ph (.lst (hs.map V.ref ++ [.ref t]))) := tk_upd d.h
  have t2 : TK (upd H ph (.lst (hs.map V.ref ++ [.ref t]))) (upd (upd H ph (.lst (hs.map V.ref ++ [.ref t]))) pn (.lst [])) := TK.new hn _
  have hpr : (upd (upd H ph (.lst (hs.map V.ref ++ [.ref t]))) pn (.lst [])) pr = some (.lst (ls.map V.ref)) := by rw [upd_ne n2, upd_ne d.ne]; exact d.r
  have t3 : TK (upd (upd H ph (.lst (hs.map V.ref ++ [.ref t]))) pn (.lst [])) (upd (upd (upd H ph (.lst (hs.map V.ref ++ [.ref t]))) pn (.lst [])) pr (.lst (ls.map V.ref ++ [.ref pn]))) := tk_upd hpr
  have tk := (t1.trans t2).trans t3
  have hlen := d.len
  have hhl := d.hlen
  refine ⟨by rw [upd_same, List.map_append]; rfl, by rw [upd_ne (Ne.symm d.ne), upd_ne n1, upd_same, List.map_append]; rfl, by rw [List.length_append, List.length_append, hlen]; rfl, fun j l xs h1 h2 => ?_, by rw [List.length_append, List.length_append, hhl]; rfl, fun j t' x h1 h2 => ?_, ?_, ?_, ?_, d.ne, fun l hl => ?_, d.f2, d.f3, fun b ob hb => ?_⟩
  · by_cases hj : j < ls.length
    · rw [List.getElem?_append_left hj] at h1
      have lm := List.mem_of_getElem? h1
      rw [lists_opn, List.getElem?_append_left (by rw [lists_len, ← hlen]; exact hj)] at h2
      have q1 : l ≠ pr := fun z => d.np (z ▸ lm)
      have q2 : l ≠ pn := fun z => nm (z ▸ lm)
      have q3 : l ≠ ph := fun z => d.nh (z ▸ lm)
      exact IL.tk (d.row j l xs h1 h2) tk (by rw [upd_ne q1, upd_ne q2, upd_ne q3])
    · rw [List.getElem?_append_right (by omega)] at h1
      have ej : j = ls.length := by
        have := (List.getElem?_eq_some_iff.mp h1).1
        simp at this
        omega
      subst ej
      rw [Nat.sub_self] at h1
      cases h1
      have e2 : (lists (m.1 ++ [(o, m.2)], []))[ls.length]? = some [] := by
        rw [lists_opn, List.getElem?_append_right (by rw [lists_len, ← hlen]; exact Nat.le_refl _), lists_len, ← hlen, Nat.sub_self]
        rfl
      rw [e2] at h2
      cases h2
      exact ⟨[], by rw [upd_ne (Ne.symm n2)]; exact upd_same, by rw [dL]; exact .nil⟩
  · by_cases hj : j < hs.length
    · rw [List.getElem?_append_left hj] at h1
      rw [List.getElem?_append_left (by omega)] at h2
      exact ⟨tk _ _ (d.head j t' x h1 h2).1, (d.head j t' x h1 h2).2⟩
    · rw [List.getElem?_append_right (by omega)] at h1 h2
      have ej : j = hs.length := by
        have := (List.getElem?_eq_some_iff.mp h1).1
        simp at this
        omega
      subst ej
      rw [Nat.sub_self] at h1
      rw [hhl, Nat.sub_self] at h2
      cases h1
      cases h2
      exact ⟨tk _ _ ht, ho⟩
  · exact List.nodup_append.mpr ⟨d.nd, List.nodup_cons.mpr ⟨fun z => (nomatch z), List.nodup_nil⟩, fun a ha b hb e => nm (by rw [List.mem_singleton.mp hb] at e; exact e ▸ ha)⟩
  · exact fun z => (List.mem_append.mp z).elim d.np fun y => n2 (List.mem_singleton.mp y)
  · exact fun z => (List.mem_append.mp z).elim d.nh fun y => n1 (List.mem_singleton.mp y)
  · rcases List.mem_append.mp hl with z | z
    · exact d.f1 l z
    · rw [List.mem_singleton.mp z]
      exact d.same.free hfree
  · rw [upd_ne (ne_of_none hb d.f2), upd_ne (fun z => by have := d.same _ _ hb; rw [z, hfree] at this; cases this), upd_ne (ne_of_none hb d.f3)]
    exact d.same _ _ hb
theorem lists_sh (br : List (Wd × List IT.It)) (o : Wd) (ahead it : List IT.It) : lists (br ++ [(o, ahead)], it) = br.map (·.2) ++ [ahead] ++ [it] := by simp [lists]
/-- a bracket that can be shut -/
theorem Rd.two {br : List (Wd × List IT.It)} {o : Wd} {ahead it : List IT.It} (d : Rd H0 H pr ph (br ++ [(o, ahead)], it) ls hs) : ∃ qs l2 l1 gs t ivs avs, ls = qs ++ [l2] ++ [l1] ∧ hs = gs ++ [t] ∧ qs.length = br.length ∧ gs.length = br.length ∧ H l1 = some (.lst ivs) ∧ Tds H ivs (dL it) ∧ H l2 = some (.lst avs) ∧ Tds H avs (dL ahead) ∧ H t = some (.tup (opV o)) ∧ isOp o := by
  have h1 : ls.length = br.length + 1 + 1 := by have := d.len; rw [List.length_append] at this; exact this
  have h2 : hs.length = br.length + 1 := by have := d.hlen; rw [List.length_append] at this; exact this
  obtain ⟨ps, l1, rfl⟩ : ∃ q z, ls = q ++ [z] := by
    rcases List.eq_nil_or_concat ls with y | ⟨q, z, y⟩
    · rw [y] at h1; cases h1
    · exact ⟨q, z, by rw [y, List.concat_eq_append]⟩
  have h1' : ps.length = br.length + 1 := by rw [List.length_append] at h1; exact Nat.succ.inj h1
  obtain ⟨qs, l2, rfl⟩ : ∃ q z, ps = q ++ [z] := by
    rcases List.eq_nil_or_concat ps with y | ⟨q, z, y⟩
    · rw [y] at h1'; cases h1'
    · exact ⟨q, z, by rw [y, List.concat_eq_append]⟩
  have h1'' : qs.length = br.length := by rw [List.length_append] at h1'; exact Nat.succ.inj h1'
  obtain ⟨gs, t, rfl⟩ : ∃ q z, hs = q ++ [z] := by
    rcases List.eq_nil_or_concat hs with y | ⟨q, z, y⟩
    · rw [y] at h2; cases h2
    · exact ⟨q, z, by rw [y, List.concat_eq_append]⟩
  have h2' : gs.length = br.length := by rw [List.length_append] at h2; exact Nat.succ.inj h2
  have e := lists_sh br o ahead it
  obtain ⟨ivs, i1, i2⟩ := d.row (qs.length + 1) l1 it (by rw [List.getElem?_append_right (by rw [List.length_append]; exact Nat.le_refl _), List.length_append]; simp) (by rw [e, List.getElem?_append_right (by rw [List.length_append, List.length_map, h1'']; exact Nat.le_refl _), List.length_append, List.length_map, h1'']; simp)
  obtain ⟨avs, a1, a2⟩ := d.row qs.length l2 ahead (by simp) (by rw [e, h1'']; simp)
  obtain ⟨t1, t2⟩ := d.head gs.length t (o, ahead) (by simp) (by rw [h2']; simp)
  exact ⟨qs, l2, l1, gs, t, ivs, avs, rfl, rfl, h1'', h2', i1, i2, a1, a2, t1, t2⟩
theorem Rd.shut {br : List (Wd × List IT.It)} {o : Wd} {ahead it : List IT.It} {qs gs : List Addr} {l1 l2 t p3 : Addr} {avs : List V} (d : Rd H0 H pr ph (br ++ [(o, ahead)], it) (qs ++ [l2] ++ [l1]) (gs ++ [t])) (hq : qs.length = br.length) (hg : gs.length = br.length)
    (hr : H2 pr = some (.lst ((qs ++ [l2]).map V.ref))) (hh : H2 ph = some (.lst (gs.map V.ref))) (ha : Tds H avs (dL ahead)) (hl : H2 l2 = some (.lst (avs ++ [.ref p3]))) (tk : TK H H2) (st : ∀ c o, c ≠ pr → c ≠ ph → c ≠ l2 → H c = some o → H2 c = some o) (tp : Td H2 (.ref p3) (dI (fin o it))) :
    Rd H0 H2 pr ph (br, ahead ++ [fin o it]) (qs ++ [l2]) gs := by
  have nd := (List.nodup_append.mp d.nd).1
  have m2 : l2 ∈ qs ++ [l2] ++ [l1] := by simp
  have e := lists_sh br o ahead it
  refine ⟨hr, hh, by rw [List.length_append, hq]; rfl, fun j l xs h1 h2 => ?_, hg, fun j t' x h1 h2 => ?_, nd, fun z => d.np (List.mem_append_left _ z), fun z => d.nh (List.mem_append_left _ z), d.ne, fun l hl => d.f1 l (List.mem_append_left _ hl), d.f2, d.f3, fun b ob hb => st b ob (ne_of_none hb d.f2) (ne_of_none hb d.f3) (ne_of_none hb (d.f1 l2 m2)) (d.same _ _ hb)⟩
  · have h1' : (qs ++ [l2] ++ [l1])[j]? = some l := by rw [List.getElem?_append_left ((List.getElem?_eq_some_iff.mp h1).1)]; exact h1
    by_cases c : j = qs.length
    · subst c
      have el : l = l2 := by simpa using h1.symm
      subst el
      have ex : xs = ahead ++ [fin o it] := by
        have : (br.map (·.2) ++ [ahead ++ [fin o it]])[qs.length]? = some xs := h2
        rw [hq] at this
        simpa using this.symm
      subst ex
      refine ⟨_, hl, ?_⟩
      rw [dL_app]
      refine (ha.tk tk).app ?_
      rw [dL, dL]
      exact .one tp
    · have hj : j < qs.length := by
        have := (List.getElem?_eq_some_iff.mp h1).1
        rw [List.length_append] at this
        have : j < qs.length + 1 := this
        omega
      have nl : l ≠ l2 := fun z => c (nd_inj nd h1 (by rw [z]; simp))
      have lm : l ∈ qs ++ [l2] ++ [l1] := List.mem_of_getElem? h1'
      have q1 : l ≠ pr := fun z => d.np (z ▸ lm)
      have q3 : l ≠ ph := fun z => d.nh (z ▸ lm)
      have h2' : (lists (br ++ [(o, ahead)], it))[j]? = some xs := by
        have : (br.map (·.2) ++ [ahead ++ [fin o it]])[j]? = some xs := h2
        rw [List.getElem?_append_left (by rw [List.length_map]; omega)] at this
        rw [e, List.append_assoc, List.getElem?_append_left (by rw [List.length_map]; omega)]
        exact this
      obtain ⟨vs, v1, v2⟩ := d.row j l xs h1' h2'
      exact ⟨vs, st l _ q1 q3 nl v1, v2.tk tk⟩
  · have := d.head j t' x (by rw [List.getElem?_append_left ((List.getElem?_eq_some_iff.mp h1).1)]; exact h1) (by
      have z : br[j]? = some x := h2
      show (br ++ [(o, ahead)])[j]? = some x
      rw [List.getElem?_append_left ((List.getElem?_eq_some_iff.mp z).1)]
      exact z)
    exact ⟨tk _ _ this.1, this.2⟩
end
end K06

set_option linter.all false
set_option maxRecDepth 100000
set_option maxHeartbeats 2000000
namespace K06
open PySem L2 G DT
open IT hiding It
open KW
open KR (Bad NoLeaf NumT isLeaf Upto tok Stuck out)
theorem fine_name {x : Str} (h : NameOk x) : Fine x := fine_iff.mpr fun c hc => by have := h.sm c hc; omega
theorem fine_lit {x : Str} (h : PyData.strOk x = true := by decide +kernel) : (PyData.str x).canLay0 = true := by simpa [PyData.canLay0] using h
theorem lay_s {x : Str} (h : Fine x) : (PyData.str x).canLay0 = true := by simpa [PyData.canLay0] using h
theorem lay_i (i : Int) : (PyData.int i).canLay0 = true := by simp [PyData.canLay0]
mutual
theorem lay_I : ∀ {x : IT.It}, vI x → (dI x).canLay0 = true
  | .clip r f l, h => by
    rw [vI] at h
    rw [dI, PyData.canLay0]
    simp only [PyData.canLayAll0, fine_lit (x := "clip"), lay_s (fine_name h.1), lay_i, Bool.and_self]
  | .times m xs, h => by
    rw [vI] at h
    rw [dI, PyData.canLay0]
    have e : (PyData.tuple (dL xs)).canLay0 = true := by rw [PyData.canLay0]; exact lay_Ls h.2.2
    simp only [PyData.canLayAll0, fine_lit (x := "times"), lay_i, e, Bool.and_self]
  | .back xs, h => by
    rw [vI] at h
    rw [dI, PyData.canLay0]
    have e : (PyData.tuple (dL xs)).canLay0 = true := by rw [PyData.canLay0]; exact lay_Ls h.2
    simp only [PyData.canLayAll0, fine_lit (x := "back"), e, Bool.and_self]
  | .part n _, h => by
    rw [vI] at h
    rw [dI, PyData.canLay0]
    simp only [PyData.canLayAll0, fine_lit (x := "part"), lay_s (fine_name h), Bool.and_self]
  | .fade m, h => by
    rw [dI, PyData.canLay0]
    simp only [PyData.canLayAll0, fine_lit (x := "fade"), lay_i, Bool.and_self]
theorem lay_Ls : ∀ {xs : List IT.It}, vL xs → PyData.canLayAll0 (dL xs) = true
  | [], _ => by rw [dL, PyData.canLayAll0]
  | x :: r, h => by
    rw [vL] at h
    rw [dL, PyData.canLayAll0, lay_I h.1, lay_Ls h.2]
    rfl
end
mutual
theorem dep_I : ∀ x : IT.It, (dI x).depth ≤ 2 * dpI x + 2
  | .clip _ _ _ => by rw [dI]; simp [PyData.depth, PyData.depthAll]
  | .times _ xs => by have := dep_Ls xs; rw [dI, dpI]; simp only [PyData.depth, PyData.depthAll]; omega
  | .back xs => by have := dep_Ls xs; rw [dI, dpI]; simp only [PyData.depth, PyData.depthAll]; omega
  | .part _ _ => by rw [dI]; simp [PyData.depth, PyData.depthAll]
  | .fade _ => by rw [dI]; simp [PyData.depth, PyData.depthAll]
theorem dep_Ls : ∀ xs : List IT.It, PyData.depthAll (dL xs) ≤ 2 * dpL xs + 2
  | [] => by rw [dL]; simp [PyData.depthAll]
  | x :: r => by have := dep_I x; have := dep_Ls r; rw [dL, dpL, PyData.depthAll]; omega
end
theorem eqv_nil (ds : List PyData) : PyData.eqv (.list ds) (.list []) = ds.isEmpty := by
  cases ds with
  | nil => exact PySem.SeqAt.eqv_refl _ rfl
  | cons d r => rfl
def hdD : Wd → PyData
  | .opT m => .tuple [.str "times", .int m]
  | .opB => .tuple [.str "back"]
  | .sh => .tuple [.str "back"]
  | .part _ => .tuple [.str "back"]
  | .fade _ => .tuple [.str "back"]
  | .clip _ _ _ => .tuple [.str "back"]
theorem lay_back : (PyData.tuple [.str "back"]).canLay0 = true := by rw [PyData.canLay0]; simp only [PyData.canLayAll0, fine_lit (x := "back"), Bool.and_self]
theorem lay_hd : ∀ o : Wd, (hdD o).canLay0 = true
  | .opT m => by rw [hdD, PyData.canLay0]; simp only [PyData.canLayAll0, fine_lit (x := "times"), lay_i, Bool.and_self]
  | .opB => lay_back
  | .sh => lay_back
  | .part _ => lay_back
  | .fade _ => lay_back
  | .clip _ _ _ => lay_back
theorem lay_hds : ∀ l : List (Wd × List IT.It), PyData.canLayAll0 (l.map fun x => hdD x.1) = true
  | [] => by rw [List.map_nil, PyData.canLayAll0]
  | x :: r => by rw [List.map_cons, PyData.canLayAll0, lay_hd, lay_hds r]; rfl
theorem td_hd {H : Hp} {t : Addr} : ∀ {o : Wd}, H t = some (.tup (opV o)) → Td H (.ref t) (hdD o)
  | .opT m, h => .tup h (.cons (.str _) (.cons (.int _) .nil))
  | .opB, h => .tup h (.cons (.str _) .nil)
  | .sh, h => .tup h (.cons (.str _) .nil)
  | .part _, h => .tup h (.cons (.str _) .nil)
  | .fade _, h => .tup h (.cons (.str _) .nil)
  | .clip _ _ _, h => .tup h (.cons (.str _) .nil)
theorem tds_hd {H : Hp} : ∀ {hs : List Addr} {br : List (Wd × List IT.It)}, hs.length = br.length → (∀ (j : Nat) t x, hs[j]? = some t → br[j]? = some x → H t = some (.tup (opV x.1))) → Tds H (hs.map V.ref) (br.map fun x => hdD x.1)
  | [], [], _, _ => .nil
  | t :: r, x :: r', hl, h => .cons (td_hd (h 0 t x rfl rfl)) (tds_hd (Nat.succ.inj hl) fun j t' x' h1 h2 => h (j + 1) t' x' (by simpa using h1) (by simpa using h2))
  | [], _ :: _, hl, _ => by cases hl
  | _ :: _, [], hl, _ => by cases hl
section
variable {P : Program} {w : World} {K : PySem.W.Frag} {mg : Str → Option Value} {base : Heap}
def spLRead : Sp := fun vs H Q _ => ∃ (pw : Addr) (ws : List Str), vs = [.ref pw] ∧ H pw = some (.lst (ws.map V.str)) ∧ ws.length ≤ 100001 ∧ (∀ z ∈ ws, z.length ≤ 100000) ∧ ws ≠ [] ∧
  (∀ xs t p H', out ws = .inr xs → vL xs → xs ≠ [] → dpL xs ≤ KR.cns ws + 1 → Same H H' → Td H' (.ref t) (.tuple (dL xs)) → H' p = some (.tup [.ref t, .non]) → Q (.ref p) H') ∧ (∀ (n : Nat) p H', out ws = .inl n → Same H H' → H' p = some (.tup [.non, .int (n : Int)]) → Q (.ref p) H')
theorem scLRead : FnScope ["_law_words", "_law_rows", "_law_heads", "_law_k", "_law_opens_here", "_law_item_here", "_law_inner"] ["_law_words"] (defScope s__law_read) := ⟨rfl, rfl, rfl, by decide +kernel, rfl, by decide +kernel, by decide +kernel⟩
theorem ok_lread {f : Addr} {fd : FuncData} (F : Fun K "_law_read" "_law_read" s__law_read f fd) (dLOpen : Def P w K mg base CX0 "_law_opens" 2 ["_law_word"] spOpen) (dLItem : Def P w K mg base CX0 "_law_item" 3 ["_law_word"] spLItem) (n_range : mg "range" = none) (n_len : mg "len" = none) (n_tuple : mg "tuple" = none) :
    FnOk P w K mg base CX0 4 f fd ["_law_words"] spLRead := by
  refine F.ok scLRead (fun vs H Q E h => ?_) (fun cdv A outer s H vs Q E hr h => ?_)
  · obtain ⟨pw, ws, rfl, _⟩ := h
    rfl
  obtain ⟨pw, ws, rfl, hw, lws, lw1, wne, qI, qN⟩ := h
  refine ⟨_, QSs.h (ss_cons (s_set (i := 1) scLRead.nd (e_lst (a_cons (e_lst a_nil) a_nil)))
    (ss_cons (s_set (i := 2) scLRead.nd (e_lst a_nil))
    (ss_cons (s_for PassesOwn.never rfl (i_rng1 n_range (e_b call_len_seq n_len PySem.boot_len (a_cons (e_v 0) a_nil))) (g_name (i := 3) scLRead.nd)
      (ss_cons (s_set (i := 4) scLRead.nd (e_call dLOpen hr pass0 (a_cons (e_ix ix_list (e_v 0) (e_v 3)) a_nil)))
      (ss_cons (s_set (i := 5) scLRead.nd (e_call dLItem hr pass0 (a_cons (e_ix ix_list (e_v 0) (e_v 3)) a_nil)))
      (ss_one (s_if (t_notN (e_v 4))
        (ss_cons (s_expr (e_append (e_v 2) (e_v 4)))
        (ss_one (s_expr (e_append (e_v 1) (e_lst a_nil)))))
        (ss_one (s_if (t_w (w_and (t_cmp op_eq (e_ix ix_list (e_v 0) (e_v 3)) e_str) (w_and (t_cmp (op_neD hr) (e_v 2) (e_lst a_nil)) (w_and1 (t_cmp (op_neD hr) (e_ix ix_list (e_v 1) (e_un un_neg e_int)) (e_lst a_nil))))))
          (ss_cons (s_set (i := 6) scLRead.nd (e_t call_tuple_of n_tuple (by decide +kernel) (a_cons (e_pop (e_v 1) ) a_nil)))
          (ss_one (s_expr (e_append (e_ix ix_list (e_v 1) (e_un un_neg e_int)) (e_op op_catG (e_pop (e_v 2) ) (e_tup (a_cons (e_v 6) a_nil)))))))
          (ss_one (s_if (t_notN (e_v 5))
            (ss_one (s_expr (e_append (e_ix ix_list (e_v 1) (e_un un_neg e_int)) (e_v 5))))
            (ss_one (s_ret (e_tup (a_cons e_non (a_cons (e_v 3) a_nil))))))))))))))
    (ss_cons (s_if (t_w (w_or (t_cmp (op_neD hr) (e_v 2) (e_lst a_nil)) (w_or1 (t_cmp (op_eqD hr) (e_ix ix_list (e_v 1) e_int) (e_lst a_nil)))))
      (ss_one (s_ret (e_tup (a_cons e_non (a_cons (e_b call_len_seq n_len PySem.boot_len (a_cons (e_v 0) a_nil)) a_nil)))))
      ss_nil)
    (ss_one (s_ret (e_tup (a_cons (e_t call_tuple_of n_tuple (by decide +kernel) (a_cons (e_ix ix_list (e_v 1) e_int) a_nil)) (a_cons e_non a_nil))))))))), ?_⟩
  have zl : sizeLine = 16777216 := sizeLine_eq
  refine ⟨(by show 0 ≤ sizeLine; decide), fun p0 hp0 => ⟨(by show 1 ≤ sizeLine; decide), fun pr hpr => ⟨(by show 0 ≤ sizeLine; decide), fun ph hph => ?_⟩⟩⟩
  have t0 := Same.new hp0 (.lst [])
  have t1 := Same.new hpr (.lst [.ref p0])
  have t2 := Same.new hph (.lst [])
  have T := (t0.trans t1).trans t2
  have n1 : p0 ≠ pr := ne_of_none upd_same hpr
  have n2 : p0 ≠ ph := ne_of_none (t1 _ _ upd_same) hph
  have n3 : pr ≠ ph := ne_of_none upd_same hph
  have rd0 : Rd H (upd (upd (upd H p0 (.lst [])) pr (.lst [.ref p0])) ph (.lst [])) pr ph ([], []) [p0] [] := by
    refine ⟨t2 _ _ upd_same, upd_same, rfl, fun j l xs h1 h2 => ?_, rfl, (fun j t x h1 _ => by cases h1), List.nodup_cons.mpr ⟨fun z => (nomatch z), List.nodup_nil⟩, fun z => n1 (List.mem_singleton.mp z).symm, fun z => n2 (List.mem_singleton.mp z).symm, n3, (fun l hl => by rw [List.mem_singleton.mp hl]; exact hp0), t0.free hpr, (t0.trans t1).free hph, T⟩
    cases j with
    | zero =>
      cases h1
      cases h2
      exact ⟨[], t2 _ _ (t1 _ _ upd_same), by rw [dL]; exact .nil⟩
    | succ j => cases h1
  refine ⟨_, rfl, pw, _, rfl, .inl (SqL.of (T _ _ hw)), _, rfl, (by omega), (by rw [List.length_map]; omega), for_range (lo := 0) (n := (ws.map V.str).length) (fun i σ H' => ∃ (m : Mst) (ls hs : List Addr) (o3 o4 o5 o6 : Option V), σ = [some (.ref pw), some (.ref pr), some (.ref ph), o3, o4, o5, o6] ∧ Upto ws i m ∧ KR.Fit (KR.cns (ws.take i)) m ∧ msz m ≤ i ∧ (i ≠ 0 → m.1 ≠ [] ∨ m.2 ≠ []) ∧ Rd H H' pr ph m ls hs) ⟨([], []), [p0], [], none, none, none, none, rfl, KR.Upto.zero ws, KR.Fit.zero, Nat.le_refl _, fun z => absurd rfl z, rd0⟩ ?_ ?_⟩
  · rintro i σ H' hi ⟨m, ls, hs, o3, o4, o5, o6, rfl, hm, fit, hsz, _, rd⟩
    have hi' : i < ws.length := by rw [List.length_map] at hi; exact hi
    have hy : ws[i]? = some ws[i] := List.getElem?_eq_getElem hi'
    generalize ws[i] = y at hy
    have ly := lw1 y (List.mem_of_getElem? hy)
    have hat : atI (ws.map V.str) (0 + (i : Int)) = some (.str y) := by
      rw [Int.zero_add]
      exact atI_nat (by rw [List.getElem?_map, hy]; rfl)
    have hcn := KR.cns_take hy
    obtain ⟨b1, b2, b3⟩ := msz_len m
    have sq : ∀ {G : Hp}, Same H' G → SqL K G pw (ws.map V.str) := fun s => SqL.of ((rd.same.trans s) _ _ hw)
    cases htk : tok y with
    | none =>
      have bad := KR.tok_none htk
      refine ⟨_, rfl, _, rfl, pw, _, _, _, rfl, rfl, sq (Same.refl _), hat, y, rfl, ly, .inr ⟨bad, fun H1 s1 => ?_⟩⟩
      refine ⟨_, rfl, _, rfl, pw, _, _, _, rfl, rfl, sq s1, hat, y, rfl, ly, .inr ⟨bad.noLeaf, fun H2 s2 => ?_⟩⟩
      have S := s1.trans s2
      refine ⟨_, rfl, _, rfl, iteF ⟨_, rfl, _, rfl, pw, _, _, _, rfl, rfl, sq S, hat, rfl, _, rfl, iteN (decide_eq_false fun z => bad.shut (V.str.inj z)) (iteF ?_)⟩⟩
      refine ⟨_, rfl, _, rfl, iteF ⟨_, rfl, (by show 2 ≤ sizeLine; decide), fun p hp => ?_⟩⟩
      refine qN i p _ (hm.bad hy (by rw [htk]; trivial)) ((rd.same.trans S).trans (Same.new hp _)) ?_
      rw [upd_same, Int.zero_add]
    | some wd =>
      obtain ⟨hwok, rfl⟩ := KR.tok_some htk
      by_cases hleaf : isLeaf wd
      · have hB : wd ≠ .opB := fun z => by rw [z] at hleaf; exact hleaf
        have hT : ∀ k, wd ≠ .opT k := fun k z => by rw [z] at hleaf; exact hleaf
        have hS : wd ≠ .sh := fun z => by rw [z] at hleaf; exact hleaf
        have est : stp m wd = (m.1, m.2 ++ [leaf wd]) := by
          cases wd with
          | clip r f l => rfl
          | part n => rfl
          | fade k => rfl
          | opT k => exact absurd rfl (hT k)
          | opB => exact absurd rfl hB
          | sh => exact absurd rfl hS
        have nst : ¬ Stuck m (some wd) := by
          cases wd with
          | clip r f l => exact fun z => z
          | part n => exact fun z => z
          | fade k => exact fun z => z
          | opT k => exact absurd rfl (hT k)
          | opB => exact absurd rfl hB
          | sh => exact absurd rfl hS
        have hm' := hm.step hy htk nst
        have fit' := fit.step hwok nst
        rw [← hcn] at fit'
        have hsz' : msz (stp m wd) ≤ i + 1 := Nat.le_trans (msz_stp m _) (by omega)
        refine ⟨_, rfl, _, rfl, pw, _, _, _, rfl, rfl, sq (Same.refl _), hat, _, rfl, ly, .inl ⟨wd, rfl, hwok, fun k e => absurd e (hT k), fun e => absurd e hB, fun _ _ H1 s1 => ?_⟩⟩
        refine ⟨_, rfl, _, rfl, pw, _, _, _, rfl, rfl, sq s1, hat, _, rfl, ly, .inl ⟨wd, rfl, hwok, hleaf, fun t H2 s2 td => ?_⟩⟩
        have S := s1.trans s2
        have rd2 := rd.later S
        obtain ⟨l, ivs, hl, hat2, hiv, tiv⟩ := rd2.last
        have liv : ivs.length = m.2.length := by rw [tiv.len, dL_map, List.length_map]
        refine ⟨_, rfl, _, rfl, iteF ⟨_, rfl, _, rfl, pw, _, _, _, rfl, rfl, sq S, hat, rfl, _, rfl, iteN (Wd.noSh hwok hS) (iteF ?_)⟩⟩
        refine ⟨_, rfl, _, rfl, iteT ⟨_, rfl, _, rfl, pr, _, _, _, rfl, rfl, SqL.of rd2.r, hat2, .inl ⟨rfl, _, SqL.of hiv⟩, _, rfl, l, _, _, rfl, rfl, hiv, (by omega), ?_⟩⟩
        have rd3 := rd2.leaf hl hiv tiv td
        rw [← est] at rd3
        exact ⟨_, _, _, _, _, _, _, rfl, hm', fit', hsz', fun _ => KR.stp_ne nst, rd3⟩
      cases wd with
      | opT k =>
        -- times are opened
        have nol : NoLeaf (Wd.opT k).s := NoLeaf.ofWd hwok (fun z => z)
        have hm' := hm.step hy htk (fun z => z)
        have fit' := fit.step hwok (fun z => z)
        rw [← hcn] at fit'
        have hsz' : msz (stp m (Wd.opT k)) ≤ i + 1 := Nat.le_trans (msz_stp m _) (by omega)
        have fin : ∀ (t : Addr) (H1 : Hp), Same H' H1 → H1 t = some (.tup (opV (Wd.opT k))) → ∀ (H2 : Hp), Same H1 H2 → ∀ pn, upd H2 ph (.lst (hs.map V.ref ++ [.ref t])) pn = none → Rd H (upd (upd (upd H2 ph (.lst (hs.map V.ref ++ [.ref t]))) pn (.lst [])) pr (.lst (ls.map V.ref ++ [.ref pn]))) pr ph (stp m (Wd.opT k)) (ls ++ [pn]) (hs ++ [t]) := fun t H1 s1 ht H2 s2 pn hpn => (rd.later (s1.trans s2)).opn (s2 _ _ ht) trivial hpn
        refine ⟨_, rfl, _, rfl, pw, _, _, _, rfl, rfl, sq (Same.refl _), hat, _, rfl, ly, .inl ⟨_, rfl, hwok, fun k' e t H1 s1 ht => ?_, fun e => (nomatch e), fun _ z => absurd rfl (z k)⟩⟩
        · cases e
          refine ⟨_, rfl, _, rfl, pw, _, _, _, rfl, rfl, sq s1, hat, _, rfl, ly, .inr ⟨nol, fun H2 s2 => ?_⟩⟩
          have rd2 := rd.later (s1.trans s2)
          have hl1 := rd2.hlen
          have hl2 := rd2.len
          refine ⟨_, rfl, _, rfl, iteT ⟨_, rfl, .inl ⟨rfl, _, SqL.of rd2.h⟩, _, rfl, ph, _, _, rfl, rfl, rd2.h, (by rw [List.length_map]; omega), ?_⟩⟩
          have hpr2 : upd H2 ph (.lst (hs.map V.ref ++ [.ref t])) pr = some (.lst (ls.map V.ref)) := by rw [upd_ne rd2.ne]; exact rd2.r
          refine ⟨_, rfl, .inl ⟨rfl, _, SqL.of hpr2⟩, (by show 0 ≤ sizeLine; decide), fun pn hpn => ⟨pr, _, _, rfl, rfl, Same.new hpn _ _ _ hpr2, (by rw [List.length_map]; omega), ?_⟩⟩
          exact ⟨_, _, _, _, _, _, _, rfl, hm', fit', hsz', fun _ => KR.stp_ne (w := Wd.opT k) (s := m) (fun z => z), fin t H1 s1 ht H2 s2 pn hpn⟩
      | opB =>
        -- back is opened
        have nol : NoLeaf (Wd.opB).s := NoLeaf.ofWd hwok (fun z => z)
        have hm' := hm.step hy htk (fun z => z)
        have fit' := fit.step hwok (fun z => z)
        rw [← hcn] at fit'
        have hsz' : msz (stp m (Wd.opB)) ≤ i + 1 := Nat.le_trans (msz_stp m _) (by omega)
        have fin : ∀ (t : Addr) (H1 : Hp), Same H' H1 → H1 t = some (.tup (opV (Wd.opB))) → ∀ (H2 : Hp), Same H1 H2 → ∀ pn, upd H2 ph (.lst (hs.map V.ref ++ [.ref t])) pn = none → Rd H (upd (upd (upd H2 ph (.lst (hs.map V.ref ++ [.ref t]))) pn (.lst [])) pr (.lst (ls.map V.ref ++ [.ref pn]))) pr ph (stp m (Wd.opB)) (ls ++ [pn]) (hs ++ [t]) := fun t H1 s1 ht H2 s2 pn hpn => (rd.later (s1.trans s2)).opn (s2 _ _ ht) trivial hpn
        refine ⟨_, rfl, _, rfl, pw, _, _, _, rfl, rfl, sq (Same.refl _), hat, _, rfl, ly, .inl ⟨_, rfl, hwok, fun k' e => (nomatch e), fun e t H1 s1 ht => ?_, fun z => absurd rfl z⟩⟩
        · refine ⟨_, rfl, _, rfl, pw, _, _, _, rfl, rfl, sq s1, hat, _, rfl, ly, .inr ⟨nol, fun H2 s2 => ?_⟩⟩
          have rd2 := rd.later (s1.trans s2)
          have hl1 := rd2.hlen
          have hl2 := rd2.len
          refine ⟨_, rfl, _, rfl, iteT ⟨_, rfl, .inl ⟨rfl, _, SqL.of rd2.h⟩, _, rfl, ph, _, _, rfl, rfl, rd2.h, (by rw [List.length_map]; omega), ?_⟩⟩
          have hpr2 : upd H2 ph (.lst (hs.map V.ref ++ [.ref t])) pr = some (.lst (ls.map V.ref)) := by rw [upd_ne rd2.ne]; exact rd2.r
          refine ⟨_, rfl, .inl ⟨rfl, _, SqL.of hpr2⟩, (by show 0 ≤ sizeLine; decide), fun pn hpn => ⟨pr, _, _, rfl, rfl, Same.new hpn _ _ _ hpr2, (by rw [List.length_map]; omega), ?_⟩⟩
          exact ⟨_, _, _, _, _, _, _, rfl, hm', fit', hsz', fun _ => KR.stp_ne (w := Wd.opB) (s := m) (fun z => z), fin t H1 s1 ht H2 s2 pn hpn⟩
      | clip r f l => exact absurd trivial hleaf
      | part n => exact absurd trivial hleaf
      | fade k => exact absurd trivial hleaf
      | sh =>
        have nol : NoLeaf Wd.sh.s := NoLeaf.ofWd hwok (fun z => z)
        refine ⟨_, rfl, _, rfl, pw, _, _, _, rfl, rfl, sq (Same.refl _), hat, _, rfl, ly, .inl ⟨_, rfl, hwok, fun k e => (nomatch e), fun e => (nomatch e), fun _ _ H1 s1 => ?_⟩⟩
        refine ⟨_, rfl, _, rfl, pw, _, _, _, rfl, rfl, sq s1, hat, _, rfl, ly, .inr ⟨nol, fun H2 s2 => ?_⟩⟩
        have S := s1.trans s2
        have rd2 := rd.later S
        refine ⟨_, rfl, _, rfl, iteF ⟨_, rfl, _, rfl, pw, _, _, _, rfl, rfl, sq S, hat, rfl, _, rfl, iteY (seq _) ?_⟩⟩
        refine ⟨_, rfl, (by show 0 ≤ sizeLine; decide), fun pz hpz => ?_⟩
        have tz := Same.new hpz (.lst [])
        have rd3 := rd2.later tz
        refine ⟨.list (m.1.map fun x => hdD x.1), .list [], .lst (SqL.of rd3.h) (tds_hd rd3.hlen fun j t x h1 h2 => (rd3.head j t x h1 h2).1).den, .lst (SqL.of upd_same) .nil, (by rw [PyData.canLay0]; exact lay_hds m.1), rfl, Nat.le_trans (Nat.min_le_right _ _) (by decide), _, rfl, ?_⟩
        rw [eqv_nil]
        have bad_ : (m.1 = [] ∨ m.2 = []) → ∀ H3, Same H2 H3 → ∀ p, H3 p = none → Q (.ref p) (upd H3 p (.tup [.non, .int (0 + (i : Int))])) := fun hst H3 s3 p hp => by
          refine qN i p _ (hm.bad hy (by rw [htk]; exact hst)) (((rd.same.trans S).trans s3).trans (Same.new hp _)) ?_
          rw [upd_same, Int.zero_add]
        rcases List.eq_nil_or_concat m.1 with e1 | ⟨br, ⟨o, ahead⟩, e1⟩
        · refine iteN (by rw [e1]; rfl) (iteF ?_)
          exact ⟨_, rfl, _, rfl, iteF ⟨_, rfl, (by show 2 ≤ sizeLine; decide), fun p hp => bad_ (.inl e1) _ tz p hp⟩⟩
        · rw [List.concat_eq_append] at e1
          refine iteY (by rw [e1]; cases br <;> rfl) ?_
          obtain ⟨l, ivs', hl, hat2, hiv', tiv'⟩ := rd3.last
          refine ⟨_, rfl, _, rfl, pr, _, _, _, rfl, rfl, SqL.of rd3.r, hat2, (by show 0 ≤ sizeLine; decide), fun pz2 hpz2 => ?_⟩
          have tz2 := Same.new hpz2 (.lst [])
          have rd4 := rd3.later tz2
          refine ⟨.list (dL m.2), .list [], .lst (SqL.of (tz2 _ _ hiv')) (tiv'.tk (TK.of tz2)).den, .lst (SqL.of upd_same) .nil, (by rw [PyData.canLay0]; exact lay_Ls fit.v), rfl, Nat.le_trans (Nat.min_le_right _ _) (by decide), _, rfl, ?_⟩
          rw [eqv_nil]
          by_cases e2 : m.2 = []
          · refine iteN (by rw [e2, dL]; rfl) ?_
            exact ⟨_, rfl, _, rfl, iteF ⟨_, rfl, (by show 2 ≤ sizeLine; decide), fun p hp => bad_ (.inr e2) _ (tz.trans tz2) p hp⟩⟩
          · refine iteY (by cases e3 : m.2 with | nil => exact absurd e3 e2 | cons x r => rw [dL]; rfl) ?_
            have em : m = (br ++ [(o, ahead)], m.2) := by rw [← e1]
            have est : stp m .sh = (br, ahead ++ [fin o m.2]) := by rw [em]; simp [stp]
            have nst : ¬ Stuck m (some .sh) := fun z => z.elim (fun y => by rw [e1] at y; exact absurd (congrArg List.length y) (by simp)) e2
            have hm' := hm.step hy htk nst
            have fit' := fit.step hwok nst
            rw [← hcn] at fit'
            have hsz' : msz (stp m .sh) ≤ i + 1 := Nat.le_trans (msz_stp m _) (by omega)
            have rd5 := rd4
            rw [em] at rd5
            obtain ⟨qs, l2, l1, gs, t, ivs, avs, rfl, rfl, hq, hg, h1, tiv, h2, tav, ht, ho⟩ := rd5.two
            generalize upd (upd H2 pz (.lst [])) pz2 (.lst []) = H5 at *
            have la : avs.length = ahead.length := by rw [tav.len, dL_map, List.length_map]
            have lah := b3 (o, ahead) (by rw [e1]; simp)
            have lah : ahead.length ≤ msz m := lah
            have nd := rd5.nd
            have n12 : l1 ≠ l2 := fun z => (List.nodup_append.mp nd).2.2 l2 (by simp) l1 (by simp) z.symm
            have nr1 : l1 ≠ pr := fun z => rd5.np (z ▸ (by simp))
            have nr2 : l2 ≠ pr := fun z => rd5.np (z ▸ (by simp))
            have nh2 : l2 ≠ ph := fun z => rd5.nh (z ▸ (by simp))
            have nrh := rd5.ne
            have el1 : ((qs ++ [l2] ++ [l1]).map V.ref)[((qs ++ [l2] ++ [l1]).map V.ref).length - 1]? = some (V.ref l1) := by simp
            have ed1 : ((qs ++ [l2] ++ [l1]).map V.ref).dropLast = (qs ++ [l2]).map V.ref := by simp
            refine ⟨_, rfl, .inl ⟨rfl, _, SqL.of rd5.r⟩, pr, _, .ref l1, rfl, rfl, rd5.r, el1, l1, _, rfl, .inl ⟨SqL.of (by rw [upd_ne nr1]; exact h1), fun p1 hp1 => ?_⟩⟩
            rw [ed1] at hp1
            rw [ed1]
            have tA : TK H5 (upd H5 pr (.lst ((qs ++ [l2]).map V.ref))) := TK.lst rd5.r
            have sB := Same.new hp1 (.tup ivs)
            have hr6 : upd (upd H5 pr (.lst ((qs ++ [l2]).map V.ref))) p1 (.tup ivs) pr = some (.lst ((qs ++ [l2]).map V.ref)) := sB _ _ upd_same
            have hl26 : upd (upd H5 pr (.lst ((qs ++ [l2]).map V.ref))) p1 (.tup ivs) l2 = some (.lst avs) := sB _ _ (by rw [upd_ne nr2]; exact h2)
            have hh6 : upd (upd H5 pr (.lst ((qs ++ [l2]).map V.ref))) p1 (.tup ivs) ph = some (.lst ((gs ++ [t]).map V.ref)) := sB _ _ (by rw [upd_ne (Ne.symm nrh)]; exact rd5.h)
            have ht6 : upd (upd H5 pr (.lst ((qs ++ [l2]).map V.ref))) p1 (.tup ivs) t = some (.tup (opV o)) := sB _ _ (tA _ _ ht)
            have st6 : ∀ c ob, c ≠ pr → H5 c = some ob → upd (upd H5 pr (.lst ((qs ++ [l2]).map V.ref))) p1 (.tup ivs) c = some ob := fun c ob hc he => sB _ _ (by rw [upd_ne hc]; exact he)
            have tk6 : TK H5 (upd (upd H5 pr (.lst ((qs ++ [l2]).map V.ref))) p1 (.tup ivs)) := tA.trans (TK.of sB)
            have hp16 : upd (upd H5 pr (.lst ((qs ++ [l2]).map V.ref))) p1 (.tup ivs) p1 = some (.tup ivs) := upd_same
            generalize upd (upd H5 pr (.lst ((qs ++ [l2]).map V.ref))) p1 (.tup ivs) = H6 at *
            have eat : atI ((qs ++ [l2]).map V.ref) (-1) = some (.ref l2) := by rw [List.map_append]; exact atI_last _ _
            have el2 : ((gs ++ [t]).map V.ref)[((gs ++ [t]).map V.ref).length - 1]? = some (V.ref t) := by simp
            have ed2 : ((gs ++ [t]).map V.ref).dropLast = gs.map V.ref := by simp
            refine ⟨_, rfl, _, rfl, pr, _, _, _, rfl, rfl, SqL.of hr6, eat, .inl ⟨rfl, _, SqL.of hl26⟩, _, rfl, .inl ⟨rfl, _, SqL.of hh6⟩, ph, _, .ref t, rfl, rfl, hh6, el2, _, rfl, (by show 1 ≤ sizeLine; decide), fun p2 hp2 => ?_⟩
            rw [ed2] at hp2
            rw [ed2]
            have tC : TK H6 (upd H6 ph (.lst (gs.map V.ref))) := TK.lst hh6
            have sD := Same.new hp2 (.tup [.ref p1])
            have lop : (opV o).length + 1 ≤ sizeLine := by cases o <;> (show _ ≤ _; simp [opV]; omega)
            refine ⟨t, p2, _, _, rfl, rfl, sD _ _ (tC _ _ ht6), upd_same, lop, fun p3 H7 s7 h7 => ?_⟩
            have U := sD.trans s7
            have hl27 : H7 l2 = some (.lst avs) := U _ _ (by rw [upd_ne nh2]; exact hl26)
            have tk7 : TK H5 H7 := (tk6.trans tC).trans (TK.of U)
            refine ⟨l2, _, _, rfl, rfl, hl27, (by omega), ?_⟩
            have tE : TK H7 (upd H7 l2 (.lst (avs ++ [.ref p3]))) := TK.lst hl27
            have tin : Td (upd H7 l2 (.lst (avs ++ [.ref p3]))) (.ref p1) (.tuple (dL m.2)) := .tup (tE _ _ (U _ _ (tC _ _ hp16))) (tiv.tk (tk7.trans tE))
            have tp : Td (upd H7 l2 (.lst (avs ++ [.ref p3]))) (.ref p3) (dI (fin o m.2)) := by
              have h7' := tE _ _ h7
              cases o with
              | opT m => exact mk_times h7' tin
              | opB => exact mk_back h7' tin
              | sh => exact ho.elim
              | clip _ _ _ => exact ho.elim
              | part _ => exact ho.elim
              | fade _ => exact ho.elim
            have rd6 := rd5.shut (H2 := upd H7 l2 (.lst (avs ++ [.ref p3]))) hq hg (by rw [upd_ne (Ne.symm nr2)]; exact U _ _ (by rw [upd_ne nrh]; exact hr6)) (by rw [upd_ne (Ne.symm nh2)]; exact U _ _ upd_same) tav upd_same (tk7.trans tE) (fun c ob c1 c2 c3 he => by rw [upd_ne c3]; exact U _ _ (by rw [upd_ne c2]; exact st6 c ob c1 he)) tp
            rw [← est] at rd6
            exact ⟨_, _, _, _, _, _, _, rfl, hm', fit', hsz', fun _ => KR.stp_ne nst, rd6⟩
  · rintro σ H' ⟨m, ls, hs, o3, o4, o5, o6, rfl, hm, fit, hsz, hne, rd⟩
    rw [List.length_map] at hm fit hsz hne
    rw [List.take_length] at fit
    have hne := hne fun z => wne (List.eq_nil_of_length_eq_zero z)
    refine ⟨_, rfl, (by show 0 ≤ sizeLine; decide), fun pz hpz => ?_⟩
    have tz := Same.new hpz (.lst [])
    have rd3 := rd.later tz
    refine ⟨.list (m.1.map fun x => hdD x.1), .list [], .lst (SqL.of rd3.h) (tds_hd rd3.hlen fun j t x h1 h2 => (rd3.head j t x h1 h2).1).den, .lst (SqL.of upd_same) .nil, (by rw [PyData.canLay0]; exact lay_hds m.1), rfl, Nat.le_trans (Nat.min_le_right _ _) (by decide), _, rfl, ?_⟩
    rw [eqv_nil]
    by_cases e1 : m.1 = []
    · refine iteN (by rw [e1]; rfl) ?_
      have e2 : m.2 ≠ [] := hne.elim (fun z => absurd e1 z) id
      obtain ⟨l, ivs, hl, _, hiv, tiv⟩ := rd3.last
      have hlen : ls.length = 1 := by have := rd3.len; rw [e1] at this; exact this
      rw [hlen] at hl
      have hat0 : atI (ls.map V.ref) 0 = some (.ref l) := atI_nat (j := 0) (by rw [List.getElem?_map, hl]; rfl)
      refine ⟨_, rfl, pr, _, _, _, rfl, rfl, SqL.of rd3.r, hat0, (by show 0 ≤ sizeLine; decide), fun pz2 hpz2 => ?_⟩
      have tz2 := Same.new hpz2 (.lst [])
      have rd4 := rd3.later tz2
      refine ⟨.list (dL m.2), .list [], .lst (SqL.of (tz2 _ _ hiv)) (tiv.tk (TK.of tz2)).den, .lst (SqL.of upd_same) .nil, (by rw [PyData.canLay0]; exact lay_Ls fit.v), rfl, Nat.le_trans (Nat.min_le_right _ _) (by decide), _, rfl, ?_⟩
      rw [eqv_nil]
      refine iteN (by cases e3 : m.2 with | nil => exact absurd e3 e2 | cons x r => rw [dL]; rfl) ?_
      refine ⟨_, rfl, pr, _, _, _, rfl, rfl, SqL.of rd4.r, hat0, l, _, rfl, .inl ⟨SqL.of (tz2 _ _ hiv), fun p1 hp1 => ⟨(by show 2 ≤ sizeLine; decide), fun p hp => ?_⟩⟩⟩
      have s1 := Same.new hp1 (.tup ivs)
      have s2 := Same.new hp (.tup [.ref p1, .non])
      have dd := fit.d
      rw [e1] at dd
      exact qI m.2 p1 p _ (hm.good e1) fit.v e2 (by simpa using dd) ((rd4.same.trans s1).trans s2) (.tup (s2 _ _ upd_same) (tiv.tk (TK.of ((tz2.trans s1).trans s2)))) upd_same
    · refine iteY (by cases e3 : m.1 with | nil => exact absurd e3 e1 | cons x r => rfl) ?_
      refine ⟨_, rfl, pw, _, rfl, .inl (SqL.of (rd3.same _ _ hw)), (by show 2 ≤ sizeLine; decide), fun p hp => ?_⟩
      refine qN ws.length p _ (hm.left e1) (rd3.same.trans (Same.new hp _)) ?_
      rw [upd_same, List.length_map]
end
end K06

set_option linter.all false
set_option maxRecDepth 100000
set_option maxHeartbeats 2000000
namespace K06
open PySem L2 G DT
open IT hiding It
open KW
/-- the classes of the program -/
structure Cs where
  s : Addr
  c0 : Addr
  c1 : Addr
  c2 : Addr
  c3 : Addr
  c4 : Addr
  c5 : Addr
  c6 : Addr
  c7 : Addr
  c8 : Addr
  c9 : Addr
structure CsOk (K : PySem.W.Frag) (mg : Str → Option Value) (c : Cs) (n : Addr) (b : Nat → Bool) : Prop where
  ms : mg "SpliceError" = some (.ref c.s)
  m0 : mg "NoKey" = some (.ref c.c0)
  m1 : mg "NoReel" = some (.ref c.c1)
  m2 : mg "NoFrame" = some (.ref c.c2)
  m3 : mg "NoName" = some (.ref c.c3)
  m4 : mg "NoList" = some (.ref c.c4)
  m5 : mg "NoFade" = some (.ref c.c5)
  m6 : mg "TooMany" = some (.ref c.c6)
  m7 : mg "TooShort" = some (.ref c.c7)
  m8 : mg "NoPlace" = some (.ref c.c8)
  m9 : mg "NoRow" = some (.ref c.c9)
  ks : PySem.W.kitOne K (.ref n) (.ref c.s) = some true
  kv : PySem.W.kitOne K (.ref n) (.type "ValueError") = some true
  k0 : PySem.W.kitOne K (.ref n) (.ref c.c0) = some (b 0)
  k1 : PySem.W.kitOne K (.ref n) (.ref c.c1) = some (b 1)
  k2 : PySem.W.kitOne K (.ref n) (.ref c.c2) = some (b 2)
  k3 : PySem.W.kitOne K (.ref n) (.ref c.c3) = some (b 3)
  k4 : PySem.W.kitOne K (.ref n) (.ref c.c4) = some (b 4)
  k5 : PySem.W.kitOne K (.ref n) (.ref c.c5) = some (b 5)
  k6 : PySem.W.kitOne K (.ref n) (.ref c.c6) = some (b 6)
  k7 : PySem.W.kitOne K (.ref n) (.ref c.c7) = some (b 7)
  k8 : PySem.W.kitOne K (.ref n) (.ref c.c8) = some (b 8)
  k9 : PySem.W.kitOne K (.ref n) (.ref c.c9) = some (b 9)
  ex : ExcK K n
theorem denBools {K : PySem.W.Frag} {H : Hp} : ∀ bs : List Bool, DenAll K H (bs.map V.bl) (bs.map PyData.bool)
  | [] => .nil
  | b :: r => .cons (.bl b) (denBools r)
theorem layBools : ∀ bs : List Bool, PyData.canLayAll0 (bs.map PyData.bool) = true
  | [] => rfl
  | b :: r => by simp [PyData.canLayAll0, PyData.canLay0, layBools r]
theorem depBools : ∀ bs : List Bool, PyData.depthAll (bs.map PyData.bool) = 0
  | [] => by simp [PyData.depthAll]
  | b :: r => by simp [PyData.depthAll, PyData.depth, depBools r]
section
variable {P : Program} {w : World} {K : PySem.W.Frag} {mg : Str → Option Value} {base : Heap}
/-- an exception of the class at n, the k-th of the ten -/
def isK (k : Nat) (i : Nat) : Bool := decide (i = k)
def spOnly (n : Addr) (k : Nat) : Sp := fun vs H Q _ => ∃ (a : Addr) (d : Option Addr), vs = [.ref a, .int (k : Int)] ∧ H a = some (excO a (.ref n) d) ∧ (d = none ∨ ∃ dx fs, d = some dx ∧ H dx = some (xdO dx fs)) ∧ ∀ H', Same H H' → Q (.bl true) H'
theorem scOnly : FnScope ["_law_e", "_law_at", "_law_kinds"] ["_law_e", "_law_at"] (defScope s__law_only) := ⟨rfl, rfl, rfl, by decide +kernel, rfl, by decide +kernel, by decide +kernel⟩
theorem ok_only {f : Addr} {fd : FuncData} {c : Cs} {n : Addr} {k : Nat} (F : Fun K "_law_only" "_law_only" s__law_only f fd) (C : CsOk K mg c n (isK k)) (n_isinstance : mg "isinstance" = none) (n_range : mg "range" = none) (n_ValueError : mg "ValueError" = none) :
    FnOk P w K mg base CX0 2 f fd ["_law_e", "_law_at"] (spOnly n k) := by
  refine F.ok scOnly (fun vs H Q E h => ?_) (fun cdv A outer s H vs Q E hr h => ?_)
  · obtain ⟨a, d, rfl, _⟩ := h
    rfl
  obtain ⟨a, d, rfl, hH, hd, q⟩ := h
  refine ⟨_, QSs.h (ss_cons (s_set (i := 2) scOnly.nd (e_lst (a_cons (e_b call_isinst_x n_isinstance PyProof.Rows.boot_isinstance (a_cons (e_v 0) (a_cons (e_gl (v := .ref c.c0) C.m0 rfl) a_nil))) (a_cons (e_b call_isinst_x n_isinstance PyProof.Rows.boot_isinstance (a_cons (e_v 0) (a_cons (e_gl (v := .ref c.c1) C.m1 rfl) a_nil))) (a_cons (e_b call_isinst_x n_isinstance PyProof.Rows.boot_isinstance (a_cons (e_v 0) (a_cons (e_gl (v := .ref c.c2) C.m2 rfl) a_nil))) (a_cons (e_b call_isinst_x n_isinstance PyProof.Rows.boot_isinstance (a_cons (e_v 0) (a_cons (e_gl (v := .ref c.c3) C.m3 rfl) a_nil))) a_nil))))))
    (ss_cons (s_set (i := 2) scOnly.nd (e_op op_cat (e_v 2) (e_lst (a_cons (e_b call_isinst_x n_isinstance PyProof.Rows.boot_isinstance (a_cons (e_v 0) (a_cons (e_gl (v := .ref c.c4) C.m4 rfl) a_nil))) (a_cons (e_b call_isinst_x n_isinstance PyProof.Rows.boot_isinstance (a_cons (e_v 0) (a_cons (e_gl (v := .ref c.c5) C.m5 rfl) a_nil))) (a_cons (e_b call_isinst_x n_isinstance PyProof.Rows.boot_isinstance (a_cons (e_v 0) (a_cons (e_gl (v := .ref c.c6) C.m6 rfl) a_nil))) (a_cons (e_b call_isinst_x n_isinstance PyProof.Rows.boot_isinstance (a_cons (e_v 0) (a_cons (e_gl (v := .ref c.c7) C.m7 rfl) a_nil))) a_nil)))))))
    (ss_cons (s_set (i := 2) scOnly.nd (e_op op_cat (e_v 2) (e_lst (a_cons (e_b call_isinst_x n_isinstance PyProof.Rows.boot_isinstance (a_cons (e_v 0) (a_cons (e_gl (v := .ref c.c8) C.m8 rfl) a_nil))) (a_cons (e_b call_isinst_x n_isinstance PyProof.Rows.boot_isinstance (a_cons (e_v 0) (a_cons (e_gl (v := .ref c.c9) C.m9 rfl) a_nil))) a_nil)))))
    (ss_one (s_ret (e_and (e_b call_isinst_x n_isinstance PyProof.Rows.boot_isinstance (a_cons (e_v 0) (a_cons (e_gl (v := .ref c.s) C.ms rfl) a_nil))) (e_and (e_b call_isinst_x n_isinstance PyProof.Rows.boot_isinstance (a_cons (e_v 0) (a_cons (e_bt (v := .ty "ValueError") n_ValueError (by decide +kernel) rfl) a_nil))) (e_one (e_cmp (op_eqD hr) (e_v 2) (e_comp ["_law_at"] [1] [("_law_at", s.heap.objs.size + 1)] rfl ⟨rfl, rfl, rfl, rfl, trivial⟩ ⟨rfl, trivial⟩ (i_rng1 n_range e_int) (fun _ _ _ _ => (e_cmp op_eq (e_n 0) (e_n 1))))))))))))), ?_⟩
  have xs : ∀ {H' : Hp}, Same H H' → XDict H' d := fun s => by
    rcases hd with z | ⟨dx, fs, z, y⟩
    · exact .inl z
    · exact .inr ⟨dx, fs, z, s _ _ y⟩
  have x0 := xs (Same.refl _)
  have z4 : 4 ≤ sizeLine := by decide
  refine ⟨_, rfl, a, n, d, _, _, rfl, hH, x0, C.ex, .inl rfl, C.k0, _, rfl, a, n, d, _, _, rfl, hH, x0, C.ex, .inl rfl, C.k1, _, rfl, a, n, d, _, _, rfl, hH, x0, C.ex, .inl rfl, C.k2, _, rfl, a, n, d, _, _, rfl, hH, x0, C.ex, .inl rfl, C.k3, z4, fun p hp => ?_⟩
  have s1 := Same.new hp (.lst [.bl (isK k 0), .bl (isK k 1), .bl (isK k 2), .bl (isK k 3)])
  have h1 := s1 _ _ hH
  have x1 := xs s1
  refine ⟨_, rfl, _, rfl, a, n, d, _, _, rfl, h1, x1, C.ex, .inl rfl, C.k4, _, rfl, a, n, d, _, _, rfl, h1, x1, C.ex, .inl rfl, C.k5, _, rfl, a, n, d, _, _, rfl, h1, x1, C.ex, .inl rfl, C.k6, _, rfl, a, n, d, _, _, rfl, h1, x1, C.ex, .inl rfl, C.k7, z4, fun p2 hp2 => ?_⟩
  have s2 := Same.new hp2 (.lst [.bl (isK k 4), .bl (isK k 5), .bl (isK k 6), .bl (isK k 7)])
  refine ⟨p, p2, _, _, rfl, rfl, s2 _ _ upd_same, upd_same, (by show 8 ≤ sizeLine; decide), fun p3 hp3 => ?_⟩
  have s3 := Same.new hp3 (.lst ([.bl (isK k 0), .bl (isK k 1), .bl (isK k 2), .bl (isK k 3)] ++ [.bl (isK k 4), .bl (isK k 5), .bl (isK k 6), .bl (isK k 7)]))
  have S3 := (s1.trans s2).trans s3
  have h3 := S3 _ _ hH
  have x3 := xs S3
  refine ⟨_, rfl, _, rfl, a, n, d, _, _, rfl, h3, x3, C.ex, .inl rfl, C.k8, _, rfl, a, n, d, _, _, rfl, h3, x3, C.ex, .inl rfl, C.k9, (by show 2 ≤ sizeLine; decide), fun p4 hp4 => ?_⟩
  have s4 := Same.new hp4 (.lst [.bl (isK k 8), .bl (isK k 9)])
  refine ⟨p3, p4, _, _, rfl, rfl, s4 _ _ upd_same, upd_same, (by show 10 ≤ sizeLine; decide), fun p5 hp5 => ?_⟩
  have s5 := Same.new hp5 (.lst (([.bl (isK k 0), .bl (isK k 1), .bl (isK k 2), .bl (isK k 3)] ++ [.bl (isK k 4), .bl (isK k 5), .bl (isK k 6), .bl (isK k 7)]) ++ [.bl (isK k 8), .bl (isK k 9)]))
  have S5 := (S3.trans s4).trans s5
  have h5 := S5 _ _ hH
  have x5 := xs S5
  refine ⟨_, rfl, a, n, d, _, true, rfl, h5, x5, C.ex, .inl rfl, C.ks, true, rfl, iteT ?_⟩
  refine ⟨_, rfl, a, n, d, _, true, rfl, h5, x5, C.ex, .inr ⟨_, rfl⟩, C.kv, true, rfl, iteT ?_⟩
  refine ⟨_, rfl, 10, rfl, by decide, by decide, comp_range (fun i => V.bl (decide (V.int (0 + (i : Int)) = V.int (k : Int)))) (by decide) (fun i H' R hi hS hR => ?_) (fun D H' hS hD => ?_)⟩
  · exact ⟨_, rfl, _, rfl, rfl, hR H' (Same.refl _)⟩
  · have ed : ∀ i : Nat, decide (V.int (0 + (i : Int)) = V.int (k : Int)) = isK k i := fun i => by
      unfold isK
      rw [dec_int]
      by_cases z : i = k
      · subst z; simp
      · rw [decide_eq_false z]
        exact beq_eq_false_iff_ne.mpr (by omega)
    have hD' : H' D = some (.lst ([isK k 0, isK k 1, isK k 2, isK k 3, isK k 4, isK k 5, isK k 6, isK k 7, isK k 8, isK k 9].map V.bl)) := by
      rw [hD]
      simp only [ed]
      rfl
    have d1 : Den K H' (.ref p5) (.list ([isK k 0, isK k 1, isK k 2, isK k 3, isK k 4, isK k 5, isK k 6, isK k 7, isK k 8, isK k 9].map PyData.bool)) := .lst (SqL.of (hS _ _ upd_same)) (denBools [isK k 0, isK k 1, isK k 2, isK k 3, isK k 4, isK k 5, isK k 6, isK k 7, isK k 8, isK k 9])
    have d2 : Den K H' (.ref D) (.list ([isK k 0, isK k 1, isK k 2, isK k 3, isK k 4, isK k 5, isK k 6, isK k 7, isK k 8, isK k 9].map PyData.bool)) := .lst (SqL.of hD') (denBools _)
    have lay : (PyData.list ([isK k 0, isK k 1, isK k 2, isK k 3, isK k 4, isK k 5, isK k 6, isK k 7, isK k 8, isK k 9].map PyData.bool)).canLay0 = true := by
      rw [PyData.canLay0]
      exact layBools _
    refine ⟨_, _, d1, d2, lay, lay, Nat.le_trans (Nat.min_le_left _ _) (by rw [PyData.depth, depBools]; decide), ?_⟩
    rw [PySem.SeqAt.eqv_refl _ lay]
    exact q H' (S5.trans hS)


end
open KR (out)
section
variable {P : Program} {w : World} {K : PySem.W.Frag} {mg : Str → Option Value} {base : Heap}
def spRight : Sp := fun vs H Q _ => ∃ x : Str, vs = [.str x] ∧ x.length ≤ 100000 ∧ KR.cn x ≤ 26 ∧ ∀ H', Same H H' → Q (.bl true) H'
theorem scRight : FnScope ["_law_text_here", "_law_due", "_law_word", "_law_found", "_law_refused", "_law_e"] ["_law_text_here"] (defScope s__law_right) := ⟨rfl, rfl, rfl, by decide +kernel, rfl, by decide +kernel, by decide +kernel⟩
theorem ok_right {f CL S : Addr} {fd : FuncData} {bmS bmL : List Value} {idS idL : String} (F : Fun K "_law_right" "_law_right" s__law_right f fd) (dLRead : Def P w K mg base CX0 "_law_read" 4 ["_law_words"] spLRead)
    (dRead : Def P w K mg base (CX1 P w) "read_list" 6 ["text"] (spRead CL)) (dOnly : Def P w K mg base CX0 "_law_only" 2 ["_law_e", "_law_at"] (spOnly CL 4))
    (m_SpliceError : mg "SpliceError" = some (.ref S)) (c_SpliceError : ExcC K S bmS idS) (hb_SpliceError : bmS.contains (.type "BaseException") = true) (cL : ExcC K CL bmL idL) (upL : (Value.ref CL :: bmL).contains (.ref S) = true) (XK : ExcK K CL) (XC : XCls K CL) (XN : XNo K CL "word")
    (n_isinstance : mg "isinstance" = none) (n_tuple : mg "tuple" = none) : FnOk P w K mg base CX0 7 f fd ["_law_text_here"] spRight := by
  refine F.ok scRight (fun vs H Q E h => ?_) (fun cdv A outer s H vs Q E hr h => ?_)
  · obtain ⟨x, rfl, _⟩ := h
    rfl
  obtain ⟨x, rfl, lx, cx, q⟩ := h
  refine ⟨_, QSs.h (ss_cons (s_asg (e_call dLRead hr pass0 (a_cons (e_split (e_v 0) e_str) a_nil)) (g_tup rfl (gs_cons (g_name (i := 1) scRight.nd) (gs_cons (g_name (i := 2) scRight.nd) gs_nil))))
    (ss_cons (s_set (i := 3) scRight.nd e_non)
    (ss_cons (s_set (i := 4) scRight.nd e_non)
    (ss_cons (s_try (i := 3) (j := 5) scRight.nd m_SpliceError c_SpliceError hb_SpliceError (x_call dRead hr (a_cons (e_v 0) a_nil)) (fun a => (ss_one (s_set (i := 4) scRight.nd (e_v 5)))))
    (ss_cons (s_if (t_notN (e_v 1))
      (ss_one (s_ret (e_and (e_isN (e_v 4)) (e_and (e_b call_isinst n_isinstance PyProof.Rows.boot_isinstance (a_cons (e_v 3) (a_cons (e_bt (v := .ty "tuple") n_tuple (by decide +kernel) rfl) a_nil))) (e_one (e_cmp (op_eqD hr) (e_v 3) (e_v 1)))))))
      ss_nil)
    (ss_one (s_ret (e_and (e_notN (e_v 4)) (e_and (e_call dOnly hr pass0 (a_cons (e_v 4) (a_cons e_int a_nil))) (e_one (e_cmp (op_eqD hr) (e_xf (e_v 4)) (e_v 2)))))))))))), ?_⟩
  have zl : sizeLine = 16777216 := sizeLine_eq
  have e32 : Str.ofString " " = ⟨#[32]⟩ := sOne 32 _ blank
  have lws : (wsOf x).length ≤ x.length + 1 := KR.split_len_le x 32
  refine ⟨_, rfl, rfl, _, _, rfl, rfl, (by decide), (by omega), fun pw hpw => ?_⟩
  have tw := Same.new hpw (.lst ((Txt.split x (Str.ofString " ")).map V.str))
  rw [e32] at tw
  rw [e32]
  refine ⟨pw, wsOf x, rfl, upd_same, by omega, fun z hz => Nat.le_trans (KR.split_le hz) lx, KR.split_ne x 32, fun xs t p H1 ho hv hne hdp s1 td hp => ?_, fun n p H1 ho s1 hp => ?_⟩
  · refine ⟨p, _, rfl, SqT.of hp, rfl, _, _, rfl, _, _, rfl, rfl, ?_⟩
    have T := tw.trans s1
    refine ⟨_, rfl, x, rfl, lx, fun xs' t' H2 ho' s2 td' => ?_, (fun n H2 dx ho' _ _ => by rw [ho] at ho'; cases ho')⟩
    have e : xs = xs' := by rw [ho] at ho'; exact Sum.inr.inj ho'
    subst e
    obtain ⟨_, tvs, e1, ht1, _⟩ := td'.tinv
    cases e1
    have lay : (PyData.tuple (dL xs)).canLay0 = true := by rw [PyData.canLay0]; exact lay_Ls hv
    have hc : KR.cns (wsOf x) = KR.cn x := KR.cns_split x
    refine ⟨_, rfl, _, rfl, iteT ?_⟩
    refine ⟨_, rfl, _, rfl, iteT ⟨_, rfl, _, _, _, true, rfl, TyOf.tup ht1, .inr ⟨_, rfl⟩, kit_self, _, rfl, iteT ⟨_, rfl, _, rfl, _, _, td'.den, (td.tk (TK.of s2)).den, lay, lay, Nat.le_trans (Nat.min_le_left _ _) (by rw [PyData.depth]; have := dep_Ls xs; omega), ?_⟩⟩⟩
    rw [PySem.SeqAt.eqv_refl _ lay]
    exact q H2 (T.trans s2)
  · refine ⟨p, _, rfl, SqT.of hp, rfl, _, _, rfl, _, _, rfl, rfl, ?_⟩
    have T := tw.trans s1
    refine ⟨_, rfl, x, rfl, lx, (fun xs' t' H2 ho' _ _ => by rw [ho] at ho'; cases ho'), fun n' H2 dx ho' s2 hdx => ⟨CL, bmL, idL, rfl, cL, upL, fun e he => ⟨_, rfl, ?_⟩⟩⟩
    have en : n = n' := by rw [ho] at ho'; exact Sum.inl.inj ho'
    subst en
    have te := Same.new he (excO e (.ref CL) (some dx))
    refine ⟨_, rfl, _, rfl, iteF ?_⟩
    refine ⟨_, rfl, _, rfl, iteT ⟨_, rfl, e, some dx, rfl, upd_same, .inr ⟨dx, _, rfl, te _ _ hdx⟩, fun H3 s3 => ⟨_, rfl, iteT ?_⟩⟩⟩
    refine ⟨_, rfl, e, CL, dx, _, .int (n : Int), rfl, s3 _ _ upd_same, s3 _ _ (te _ _ hdx), XK, XC, XN, rfl, _, rfl, _, _, .int _, .int _, rfl, rfl, Nat.le_trans (Nat.min_le_left _ _) (by simp [PyData.depth]), ?_⟩
    rw [PySem.SeqAt.eqv_refl _ rfl]
    exact q H3 (((T.trans s2).trans te).trans s3)
end
end K06

set_option linter.all false
set_option maxRecDepth 100000
set_option maxHeartbeats 2000000
namespace K06
open PySem L2 G DT
open IT hiding It
open KW
def oddA : List Str := ["", ")", "(", "-(", "3*(", "0*(", "*(", "03*(", "-3*(", "1000000000*(", "2*", "~", "~0", "~5", "~05", "~-1"]
def oddB : List Str := ["~1000000000", "a:", ":5", "a:5-5", "a:5-", "a:-5", "a:05", "a:5-4-3", "A:5", "abcdefghi:5", "a:5:6"]
def oddC : List Str := ["abcdefghi", "a1", "a:999999999-0"]
theorem odd_ok : ∀ y ∈ oddA ++ oddB ++ oddC, y.length ≤ 20 ∧ KR.cn y ≤ 1 := by decide +kernel
section
variable {P : Program} {w : World} {K : PySem.W.Frag} {mg : Str → Option Value} {base : Heap}
/-- an odd word: short, with one bracket at most -/
def spOdd : Sp := fun vs H Q _ => ∃ c : Int, vs = [.int c] ∧ ∀ (y : Str) H', y.length ≤ 20 → KR.cn y ≤ 1 → Same H H' → Q (.str y) H'
theorem scOdd : FnScope ["_law_cell_here", "_law_some"] ["_law_cell_here"] (defScope s__law_odd) := ⟨rfl, rfl, rfl, by decide +kernel, rfl, by decide +kernel, by decide +kernel⟩
theorem ok_odd {f : Addr} {fd : FuncData} (F : Fun K "_law_odd" "_law_odd" s__law_odd f fd) : FnOk P w K mg base CX0 1 f fd ["_law_cell_here"] spOdd := by
  refine F.ok scOdd (fun vs H Q E h => ?_) (fun cdv A outer s H vs Q E hr h => ?_)
  · obtain ⟨c, rfl, _⟩ := h
    rfl
  obtain ⟨c, rfl, q⟩ := h
  refine useQ (ss_cons (s_set (i := 1) scOdd.nd (e_lstS ["", ")", "(", "-(", "3*(", "0*(", "*(", "03*(", "-3*(", "1000000000*(", "2*", "~", "~0", "~5", "~05", "~-1"]))
    (ss_cons (s_set (i := 1) scOdd.nd (e_op op_cat (e_v 1) (e_lstS ["~1000000000", "a:", ":5", "a:5-5", "a:5-", "a:-5", "a:05", "a:5-4-3", "A:5", "abcdefghi:5", "a:5:6"])))
    (ss_one (s_ret (e_ix ix_list (e_op op_cat (e_v 1) (e_lstS ["abcdefghi", "a1", "a:999999999-0"])) (e_op op_mod (e_v 0) e_int)))))) ?_
  obtain ⟨k, ek, hk⟩ : ∃ k : Nat, c % 30 = (k : Int) ∧ k < 30 := ⟨(c % 30).toNat, by omega, by omega⟩
  have hlen : (oddA ++ oddB ++ oddC).length = 30 := by decide
  have hy : (oddA ++ oddB ++ oddC)[k]? = some ((oddA ++ oddB ++ oddC)[k]'(by omega)) := List.getElem?_eq_getElem _
  generalize (oddA ++ oddB ++ oddC)[k]'(by omega) = y at hy
  obtain ⟨y1, y2⟩ := odd_ok y (List.mem_of_getElem? hy)
  have hy' : (oddA.map V.str ++ oddB.map V.str ++ oddC.map V.str)[k]? = some (V.str y) := by
    rw [← List.map_append, ← List.map_append, List.getElem?_map, hy]; rfl
  refine ⟨by decide, fun p hp => ?_⟩
  have s1 := Same.new hp (.lst (oddA.map V.str))
  refine ⟨_, rfl, by decide, fun p2 hp2 => ⟨p, p2, _, _, rfl, rfl, Same.new hp2 (.lst (oddB.map V.str)) _ _ upd_same, upd_same, by decide, fun p3 hp3 => ?_⟩⟩
  have s2 := Same.new hp2 (.lst (oddB.map V.str))
  have s3 := Same.new hp3 (.lst (oddA.map V.str ++ oddB.map V.str))
  refine ⟨_, rfl, by decide, fun p4 hp4 => ⟨p3, p4, _, _, rfl, rfl, Same.new hp4 (.lst (oddC.map V.str)) _ _ upd_same, upd_same, by decide, fun p5 hp5 => ?_⟩⟩
  have s4 := Same.new hp4 (.lst (oddC.map V.str))
  have s5 := Same.new hp5 (.lst (oddA.map V.str ++ oddB.map V.str ++ oddC.map V.str))
  refine ⟨_, rfl, _, _, rfl, rfl, (by show (0 : Int) < 30; decide), p5, oddA.map V.str ++ oddB.map V.str ++ oddC.map V.str, _, V.str y, rfl, rfl, SqL.of upd_same, ?_, ?_⟩
  · rw [ek]
    exact atI_nat hy'
  · exact q y _ y1 y2 ((((s1.trans s2).trans s3).trans s4).trans s5)
end
end K06

set_option linter.all false
set_option maxRecDepth 100000
set_option maxHeartbeats 2000000
namespace K06
open PySem L2 G DT
open IT hiding It
open KW
def wt (ws : List Str) : Nat := (ws.map fun s => s.length + 1).sum
theorem wt_app (a b : List Str) : wt (a ++ b) = wt a + wt b := by simp [wt, List.sum_append]
theorem wt_one (a : Str) : wt [a] = a.length + 1 := by simp [wt]
theorem cns_app (a b : List Str) : KR.cns (a ++ b) = KR.cns a + KR.cns b := by simp [KR.cns, List.sum_append]
theorem cns_one (a : Str) : KR.cns [a] = KR.cn a := by simp [KR.cns]
theorem wt_len (l : List Str) : l.length ≤ wt l := by
  induction l with
  | nil => simp [wt]
  | cons a r ih => have : wt (a :: r) = wt [a] + wt r := wt_app [a] r; rw [wt_one] at this; simp only [List.length_cons]; omega
theorem wt_sum (l : List Str) : wt l = ((l.map TX.L).map List.length).sum + l.length := by
  induction l with
  | nil => simp [wt]
  | cons a r ih =>
    have : wt (a :: r) = wt [a] + wt r := wt_app [a] r
    rw [wt_one] at this
    simp only [List.map_cons, List.sum_cons, List.length_cons, TX.L_len]
    omega
theorem wt_split (x : Str) : wt (wsOf x) = x.length + 1 := by
  have h := KR.split_jn x 32
  have e := jn_len 32 ((wsOf x).map TX.L) (by simpa using KR.split_ne x 32)
  rw [wt_sum, ← TX.L_len]
  rw [h]
  have : ((wsOf x).map TX.L).length = (wsOf x).length := List.length_map _
  unfold wsOf at *
  omega
/-- a text put together of words -/
theorem join_len (l : List Str) : (Txt.join (" " : Str) l).length ≤ wt l := by
  rw [← TX.L_len, TX.join_L, blank, wt_sum]
  by_cases h : l.map TX.L = []
  · rw [h]; simp [TX.jn]
  · have e := jn_len 32 (l.map TX.L) h
    rw [List.length_map] at e
    omega
theorem join_cn (l : List Str) : KR.cn (Txt.join (" " : Str) l) = KR.cns l := by
  unfold KR.cn
  rw [TX.join_L, blank, KR.cn_jn, List.map_map]
  rfl
theorem cn_app (a b : Str) : KR.cn (a ++ b) = KR.cn a + KR.cn b := by unfold KR.cn; rw [TX.L_app, List.count_append]
/-- words ahead of a place, a word, words from a place on -/
theorem cat3 {K : PySem.W.Frag} {σ : St} {H : Hp} {Q : VK} {pa : Addr} {ws : List Str} {i j : Nat} {ta tb tE : TE} {tl : TO} {Good : Str → Prop} (hs : ws.length ≤ 100000)
    (ea : ∀ H R, R (.ref pa) H → ta σ H R) (eb : ∀ H R, R (.int (i : Int)) H → tb σ H R) (el : ∀ H R, R (some (j : Int)) H → tl σ H R) (hw : H pa = some (.lst (ws.map V.str)))
    (hE : ∀ (H1 : Hp) (R : VK), Same H H1 → (∀ y H2, Good y → Same H1 H2 → R (.str y) H2) → tE σ H1 R)
    (q : ∀ p y H', Good y → Same H H' → H' p = some (.lst ((ws.take i ++ [y] ++ ws.drop j).map V.str)) → Q (.ref p) H') :
    tOp rCat (tOp rCat (tSl (rSlL K) ta tNoPart (tPart tb)) (tLst (tCons tE tNil))) (tSl (rSlL K) ta tl tNoPart) σ H Q := by
  have zl : sizeLine = 16777216 := sizeLine_eq
  refine ea _ _ (eb _ _ ⟨_, rfl, pa, _, rfl, SqL.of hw, fun p hp => ?_⟩)
  have s1 := Same.new hp (.lst (cutV (ws.map V.str) none (some (i : Int))))
  have e1 := cut_take V.str ws i
  have e2 := cut_drop V.str ws j
  have l1 : (ws.take i).length ≤ ws.length := by rw [List.length_take]; omega
  have l2 : (ws.drop j).length ≤ ws.length := by rw [List.length_drop]; omega
  refine hE _ _ s1 fun y H2 gy s2 => ⟨by show 1 ≤ sizeLine; omega, fun p2 hp2 => ?_⟩
  have s3 := Same.new hp2 (.lst [V.str y])
  refine ⟨p, p2, _, _, rfl, rfl, s3 _ _ (s2 _ _ upd_same), upd_same, ?_, fun p3 hp3 => ?_⟩
  · rw [e1, List.length_map]; simp only [List.length_cons, List.length_nil]; omega
  have s4 := Same.new hp3 (.lst (cutV (ws.map V.str) none (some (i : Int)) ++ [V.str y]))
  have S4 := ((s1.trans s2).trans s3).trans s4
  refine ea _ _ (el _ _ ⟨pa, _, rfl, SqL.of (S4 _ _ hw), fun p4 hp4 => ?_⟩)
  have s5 := Same.new hp4 (.lst (cutV (ws.map V.str) (some (j : Int)) none))
  refine ⟨p3, p4, _, _, rfl, rfl, s5 _ _ upd_same, upd_same, ?_, fun p5 hp5 => ?_⟩
  · rw [e1, e2, List.length_append, List.length_map, List.length_map]; simp only [List.length_cons, List.length_nil]; omega
  have s6 := Same.new hp5 (.lst (cutV (ws.map V.str) none (some (i : Int)) ++ [V.str y] ++ cutV (ws.map V.str) (some (j : Int)) none))
  refine q p5 y _ gy ((S4.trans s5).trans s6) ?_
  rw [upd_same, e1, e2, List.map_append, List.map_append]
  rfl
/-- bounds of what is put together -/
theorem parts_wt (ws : List Str) {i j : Nat} (h : i ≤ j) : wt (ws.take i) + wt (ws.drop j) ≤ wt ws := by
  have e : wt ws = wt (ws.take i) + wt (ws.drop i) := by rw [← wt_app, List.take_append_drop]
  have e2 : wt (ws.drop i) = wt ((ws.drop i).take (j - i)) + wt ((ws.drop i).drop (j - i)) := by rw [← wt_app, List.take_append_drop]
  rw [List.drop_drop, show i + (j - i) = j by omega] at e2
  omega
theorem parts_cn (ws : List Str) {i j : Nat} (h : i ≤ j) : KR.cns (ws.take i) + KR.cns (ws.drop j) ≤ KR.cns ws := by
  have e : KR.cns ws = KR.cns (ws.take i) + KR.cns (ws.drop i) := by rw [← cns_app, List.take_append_drop]
  have e2 : KR.cns (ws.drop i) = KR.cns ((ws.drop i).take (j - i)) + KR.cns ((ws.drop i).drop (j - i)) := by rw [← cns_app, List.take_append_drop]
  rw [List.drop_drop, show i + (j - i) = j by omega] at e2
  omega
theorem mem_wt {ws : List Str} {y : Str} (h : y ∈ ws) : y.length + 1 ≤ wt ws := by
  obtain ⟨a, b, rfl⟩ := List.append_of_mem h
  rw [wt_app, show y :: b = [y] ++ b from rfl, wt_app, wt_one]
  omega
theorem mem_cn {ws : List Str} {y : Str} (h : y ∈ ws) : KR.cn y ≤ KR.cns ws := by
  obtain ⟨a, b, rfl⟩ := List.append_of_mem h
  rw [cns_app, show y :: b = [y] ++ b from rfl, cns_app, cns_one]
  omega
/-- words of a text that is short enough -/
structure Sh (l : List Str) : Prop where
  w : wt l ≤ 50000
  c : KR.cns l ≤ 25
section
variable {P : Program} {w : World} {K : PySem.W.Frag} {mg : Str → Option Value} {base : Heap}
def spMade : Sp := fun vs H Q _ => ∃ (x : Str) (c : Int), vs = [.str x, .int c] ∧ x.length ≤ 20000 ∧ KR.cn x ≤ 12 ∧ ∀ (y : Str) H', y.length ≤ 50000 → KR.cn y ≤ 25 → Same H H' → Q (.str y) H'
theorem scMade : FnScope ["_law_text_here", "_law_cell_here", "_law_words", "_law_at", "_law_part", "_law_sign", "_law_spot", "_law_rest", "_law_other", "_law_made_here"] ["_law_text_here", "_law_cell_here"] (defScope s__law_made) := ⟨rfl, rfl, rfl, by decide +kernel, rfl, by decide +kernel, by decide +kernel⟩
theorem ok_made {f : Addr} {fd : FuncData} (F : Fun K "_law_made" "_law_made" s__law_made f fd) (dOdd : Def P w K mg base CX0 "_law_odd" 1 ["_law_cell_here"] spOdd) (n_len : mg "len" = none) : FnOk P w K mg base CX0 2 f fd ["_law_text_here", "_law_cell_here"] spMade := by
  refine F.ok scMade (fun vs H Q E h => ?_) (fun cdv A outer s H vs Q E hr h => ?_)
  · obtain ⟨x, c, rfl, _⟩ := h
    rfl
  obtain ⟨x, c, rfl, lx, cx, q⟩ := h
  refine useQ (ss_cons (s_set (i := 2) scMade.nd (e_split (e_v 0) e_str))
    (ss_cons (s_set (i := 3) scMade.nd (e_op op_mod (e_op op_fdiv (e_v 1) e_int) (e_b call_len_seq n_len PySem.boot_len (a_cons (e_v 2) a_nil))))
    (ss_cons (s_set (i := 4) scMade.nd (e_op op_fdiv (e_v 1) (e_op op_mul e_int (e_b call_len_seq n_len PySem.boot_len (a_cons (e_v 2) a_nil)))))
    (ss_cons (s_set (i := 5) scMade.nd (e_ix ix_str e_str (e_op op_mod (e_v 4) e_int)))
    (ss_cons (s_set (i := 6) scMade.nd (e_op op_mod (e_op op_fdiv (e_v 4) e_int) (e_op op_add (e_b call_len_str n_len PySem.boot_len (a_cons (e_v 0) a_nil)) e_int)))
    (ss_cons (s_set (i := 7) scMade.nd (e_op op_cat (e_sl sl_list (e_v 2) o_none (o_some (e_v 3))) (e_sl sl_list (e_v 2) (o_some (e_op op_add (e_v 3) e_int)) o_none)))
    (ss_cons (s_set (i := 8) scMade.nd (e_op op_mod (e_v 4) (e_op op_add (e_b call_len_seq n_len PySem.boot_len (a_cons (e_v 7) a_nil)) e_int)))
    (ss_cons (s_set (i := 9) scMade.nd (e_lst (a_cons (e_v 2) (a_cons (e_v 7) (a_cons (e_op op_cat (e_op op_cat (e_sl sl_list (e_v 2) o_none (o_some (e_v 3))) (e_lst (a_cons (e_ix ix_list (e_v 2) (e_v 3)) a_nil))) (e_sl sl_list (e_v 2) (o_some (e_v 3)) o_none)) (a_cons (e_op op_cat (e_op op_cat (e_sl sl_list (e_v 7) o_none (o_some (e_v 8))) (e_lst (a_cons (e_ix ix_list (e_v 2) (e_v 3)) a_nil))) (e_sl sl_list (e_v 7) (o_some (e_v 8)) o_none)) a_nil))))))
    (ss_cons (s_set (i := 9) scMade.nd (e_op op_cat (e_v 9) (e_lst (a_cons (e_op op_cat (e_op op_cat (e_sl sl_list (e_v 2) o_none (o_some (e_v 3))) (e_lst (a_cons (e_call dOdd hr pass0 (a_cons (e_v 4) a_nil)) a_nil))) (e_sl sl_list (e_v 2) (o_some (e_v 3)) o_none)) (a_cons (e_op op_cat (e_op op_cat (e_sl sl_list (e_v 2) o_none (o_some (e_v 3))) (e_lst (a_cons (e_call dOdd hr pass0 (a_cons (e_v 4) a_nil)) a_nil))) (e_sl sl_list (e_v 2) (o_some (e_op op_add (e_v 3) e_int)) o_none)) a_nil)))))
    (ss_cons (s_if (t_cmp op_eq (e_op op_mod (e_v 1) e_int) e_int)
      (ss_one (s_ret (e_op op_add_str (e_op op_add_str (e_sl sl_str (e_v 0) o_none (o_some (e_v 6))) (e_v 5)) (e_sl sl_str (e_v 0) (o_some (e_v 6)) o_none))))
      ss_nil)
    (ss_cons (s_if (t_cmp op_eq (e_op op_mod (e_v 1) e_int) e_int)
      (ss_one (s_ret (e_op op_add_str (e_sl sl_str (e_v 0) o_none (o_some (e_v 6))) (e_sl sl_str (e_v 0) (o_some (e_op op_add (e_v 6) e_int)) o_none))))
      ss_nil)
    (ss_one (s_ret (e_join e_str (e_ix ix_list (e_v 9) (e_op op_mod (e_v 1) e_int)))))))))))))))) ?_
  have zl : sizeLine = 16777216 := sizeLine_eq
  have e32 : Str.ofString " " = ⟨#[32]⟩ := sOne 32 _ blank
  obtain ⟨ws, hws⟩ : ∃ ws, wsOf x = ws := ⟨_, rfl⟩
  have wW : wt ws ≤ 20001 := by rw [← hws, wt_split]; omega
  have wC : KR.cns ws ≤ 12 := by rw [← hws]; rw [show KR.cns (wsOf x) = KR.cn x from KR.cns_split x]; exact cx
  have wL := wt_len ws
  have wN : 1 ≤ ws.length := by
    have := KR.split_ne x 32
    rw [← hws]
    exact List.length_pos_iff.mpr this
  refine ⟨_, rfl, rfl, _, _, rfl, rfl, (by decide), (by omega), fun pw hpw => ?_⟩
  rw [e32, show Txt.split x ⟨#[32]⟩ = ws from hws]
  have s1 := Same.new hpw (.lst (ws.map V.str))
  have hw1 : upd H pw (.lst (ws.map V.str)) pw = some (.lst (ws.map V.str)) := upd_same
  generalize upd H pw (.lst (ws.map V.str)) = H1 at s1 hw1
  have wlen : (ws.map V.str).length = ws.length := List.length_map _
  refine ⟨_, rfl, _, _, rfl, rfl, ⟨by decide, by decide⟩, _, rfl, pw, _, rfl, .inl (SqL.of hw1), _, _, rfl, rfl, by rw [wlen]; omega, ?_⟩
  rw [wlen]
  obtain ⟨i, ei, hi⟩ : ∃ i : Nat, c / 8 % (ws.length : Int) = (i : Int) ∧ i < ws.length := ⟨(c / 8 % (ws.length : Int)).toNat, by have := Int.emod_nonneg (c / 8) (show (ws.length : Int) ≠ 0 by omega); omega, by have := Int.emod_lt_of_pos (c / 8) (show (0 : Int) < ws.length by omega); have := Int.emod_nonneg (c / 8) (show (ws.length : Int) ≠ 0 by omega); omega⟩
  show gName 3 (V.int (c / 8 % (ws.length : Int))) _ _ _
  rw [ei]
  refine ⟨_, rfl, _, rfl, pw, _, rfl, .inl (SqL.of hw1), _, _, rfl, rfl, (.inl ⟨by decide, by decide⟩), _, _, rfl, rfl, ⟨by rw [wlen]; omega, by rw [wlen]; omega⟩, ?_⟩
  obtain ⟨pt, ept⟩ : ∃ pt : Int, c / (8 * (((ws.map V.str).length : Nat) : Int)) = pt := ⟨_, rfl⟩
  show gName 4 (V.int (c / (8 * (((ws.map V.str).length : Nat) : Int)))) _ _ _
  rw [ept]
  have sgl : ((" :-~*()019aA_," : Str).cps.toList).length = 14 := by decide
  obtain ⟨k, ek, hk⟩ : ∃ k : Nat, pt % 14 = (k : Int) ∧ k < 14 := ⟨(pt % 14).toNat, by omega, by omega⟩
  obtain ⟨ch, hch⟩ : ∃ ch, ((" :-~*()019aA_," : Str).cps.toList)[k]? = some ch := ⟨_, List.getElem?_eq_getElem (by omega)⟩
  refine ⟨_, rfl, _, _, rfl, rfl, (by show (0 : Int) < 14; decide), _, _, ch, rfl, rfl, (by decide), (by show atI _ (pt % 14) = _; rw [ek]; exact atI_nat hch), ?_⟩
  obtain ⟨sp, esp, hsp⟩ : ∃ sp : Nat, pt / 14 % ((x.length : Int) + 1) = (sp : Int) ∧ sp ≤ x.length := ⟨(pt / 14 % ((x.length : Int) + 1)).toNat, by have := Int.emod_nonneg (pt / 14) (show ((x.length : Int) + 1) ≠ 0 by omega); omega, by have := Int.emod_lt_of_pos (pt / 14) (show (0 : Int) < (x.length : Int) + 1 by omega); have := Int.emod_nonneg (pt / 14) (show ((x.length : Int) + 1) ≠ 0 by omega); omega⟩
  refine ⟨_, rfl, _, _, rfl, rfl, ⟨by decide, by decide⟩, _, rfl, x, rfl, by omega, _, _, rfl, rfl, _, _, rfl, rfl, (by show (0 : Int) < (x.length : Int) + 1; omega), ?_⟩
  show gName 6 (V.int (pt / 14 % ((x.length : Int) + 1))) _ _ _
  rw [esp]
  have et := cut_take V.str ws i
  have ed : cutV (ws.map V.str) (some ((i : Int) + 1)) none = (ws.drop (i + 1)).map V.str := cut_drop V.str ws (i + 1)
  refine ⟨_, rfl, _, rfl, _, rfl, pw, _, rfl, SqL.of hw1, fun p1 hp1 => ?_⟩
  have t1 := Same.new hp1 (.lst (cutV (ws.map V.str) none (some (i : Int))))
  refine ⟨_, rfl, _, rfl, _, _, rfl, rfl, _, rfl, pw, _, rfl, SqL.of (t1 _ _ hw1), fun p2 hp2 => ?_⟩
  have t2 := Same.new hp2 (.lst (cutV (ws.map V.str) (some ((i : Int) + 1)) none))
  have lt : (ws.take i).length ≤ ws.length := by rw [List.length_take]; omega
  have ld : (ws.drop (i + 1)).length ≤ ws.length := by rw [List.length_drop]; omega
  refine ⟨p1, p2, _, _, rfl, rfl, t2 _ _ upd_same, upd_same, ?_, fun pr hpr => ?_⟩
  · rw [et]
    show _ + (cutV (ws.map V.str) (some ((i : Int) + 1)) none).length ≤ _
    rw [ed, List.length_map, List.length_map]
    omega
  have t3 := Same.new hpr (.lst (cutV (ws.map V.str) none (some (i : Int)) ++ cutV (ws.map V.str) (some ((i : Int) + 1)) none))
  obtain ⟨rs, hrs⟩ : ∃ rs, ws.take i ++ ws.drop (i + 1) = rs := ⟨_, rfl⟩
  have er : cutV (ws.map V.str) none (some (i : Int)) ++ cutV (ws.map V.str) (some ((i : Int) + 1)) none = rs.map V.str := by rw [et, ed, ← List.map_append, hrs]
  have hr0 := (upd_same : upd (upd (upd H1 p1 (.lst (cutV (ws.map V.str) none (some (i : Int))))) p2 (.lst (cutV (ws.map V.str) (some ((i : Int) + 1)) none))) pr (.lst (cutV (ws.map V.str) none (some (i : Int)) ++ cutV (ws.map V.str) (some ((i : Int) + 1)) none)) pr = some _)
  have T := (t1.trans t2).trans t3
  generalize upd (upd (upd H1 p1 (.lst (cutV (ws.map V.str) none (some (i : Int))))) p2 (.lst (cutV (ws.map V.str) (some ((i : Int) + 1)) none))) pr (.lst (cutV (ws.map V.str) none (some (i : Int)) ++ cutV (ws.map V.str) (some ((i : Int) + 1)) none)) = H2 at T hr0
  rw [er] at hr0
  clear t1 t2 t3 hp1 hp2 hpr
  have hw2 := T _ _ hw1
  have rW : wt rs ≤ 20001 := by have := parts_wt ws (show i ≤ i + 1 by omega); rw [← hrs, wt_app]; omega
  have rC : KR.cns rs ≤ 12 := by have := parts_cn ws (show i ≤ i + 1 by omega); rw [← hrs, cns_app]; omega
  have rL := wt_len rs
  have S2 := s1.trans T
  have rlen : (rs.map V.str).length = rs.length := List.length_map _
  obtain ⟨o, eo, ho⟩ : ∃ o : Nat, pt % ((rs.length : Int) + 1) = (o : Int) ∧ o ≤ rs.length := ⟨(pt % ((rs.length : Int) + 1)).toNat, by have := Int.emod_nonneg pt (show ((rs.length : Int) + 1) ≠ 0 by omega); omega, by have := Int.emod_lt_of_pos pt (show (0 : Int) < (rs.length : Int) + 1 by omega); have := Int.emod_nonneg pt (show ((rs.length : Int) + 1) ≠ 0 by omega); omega⟩
  refine ⟨_, rfl, _, rfl, pr, _, rfl, .inl (SqL.of hr0), _, _, rfl, rfl, _, _, rfl, rfl, (by rw [rlen]; show (0 : Int) < (rs.length : Int) + 1; omega), ?_⟩
  show gName 8 (V.int (pt % ((((rs.map V.str).length : Nat) : Int) + 1))) _ _ _
  rw [rlen, eo]
  obtain ⟨y0, hy0⟩ : ∃ y0, ws[i]? = some y0 := ⟨_, List.getElem?_eq_getElem hi⟩
  have my := List.mem_of_getElem? hy0
  have yW := mem_wt my
  have yC := mem_cn my
  have hy0' : (ws.map V.str)[i]? = some (V.str y0) := by rw [List.getElem?_map, hy0]; rfl
  have kk : ∀ {ws' : List Str} {y : Str} {a b : Nat}, a ≤ b → wt (ws'.take a ++ [y] ++ ws'.drop b) ≤ wt ws' + (y.length + 1) ∧ KR.cns (ws'.take a ++ [y] ++ ws'.drop b) ≤ KR.cns ws' + KR.cn y := fun {ws' y a b} hab => by
    have h1 := parts_wt ws' hab
    have h2 := parts_cn ws' hab
    rw [wt_app, wt_app, wt_one, cns_app, cns_app, cns_one]
    omega
  refine ⟨_, rfl, _, rfl, cat3 (ws := ws) (i := i) (j := i) (Good := (· = y0)) (by omega) (fun _ _ h => ⟨_, rfl, h⟩) (fun _ _ h => ⟨_, rfl, h⟩) (fun _ _ h => ⟨_, rfl, _, rfl, h⟩) hw2 (fun H3 R sm h => ⟨_, rfl, _, rfl, pw, _, _, _, rfl, rfl, SqL.of (sm _ _ hw2), atI_nat hy0', h y0 H3 rfl (Same.refl _)⟩) (fun pa y H3 ey s3 ha => ?_)⟩
  subst ey
  refine cat3 (ws := rs) (i := o) (j := o) (Good := (· = y)) (by omega) (fun _ _ h => ⟨_, rfl, h⟩) (fun _ _ h => ⟨_, rfl, h⟩) (fun _ _ h => ⟨_, rfl, _, rfl, h⟩) (s3 _ _ hr0) (fun H4 R sm h => ⟨_, rfl, _, rfl, pw, _, _, _, rfl, rfl, SqL.of (sm _ _ (s3 _ _ hw2)), atI_nat hy0', h y H4 rfl (Same.refl _)⟩) (fun pb y' H4 ey s4 hb => ?_)
  subst ey
  refine ⟨(by show 4 ≤ sizeLine; omega), fun pm hpm => ?_⟩
  have s5 := Same.new hpm (.lst [V.ref pw, V.ref pr, V.ref pa, V.ref pb])
  have S5 := (s3.trans s4).trans s5
  refine ⟨_, rfl, cat3 (ws := ws) (i := i) (j := i) (Good := fun z => z.length ≤ 20 ∧ KR.cn z ≤ 1) (by omega) (fun _ _ h => ⟨_, rfl, h⟩) (fun _ _ h => ⟨_, rfl, h⟩) (fun _ _ h => ⟨_, rfl, _, rfl, h⟩) (S5 _ _ hw2) (fun H6 R sm h => ⟨_, rfl, pt, rfl, fun z H7 l1 c1 s7 => h z H7 ⟨l1, c1⟩ s7⟩) (fun pc z1 H6 gz1 s6 hc => ?_)⟩
  refine cat3 (ws := ws) (i := i) (j := i + 1) (Good := fun z => z.length ≤ 20 ∧ KR.cn z ≤ 1) (by omega) (fun _ _ h => ⟨_, rfl, h⟩) (fun _ _ h => ⟨_, rfl, h⟩) (fun _ _ h => ⟨_, rfl, _, _, rfl, rfl, _, rfl, h⟩) (s6 _ _ (S5 _ _ hw2)) (fun H7 R sm h => ⟨_, rfl, pt, rfl, fun z H8 l1 c1 s8 => h z H8 ⟨l1, c1⟩ s8⟩) (fun pd z2 H7 gz2 s7 hd => ?_)
  refine ⟨(by show 2 ≤ sizeLine; omega), fun pn hpn => ?_⟩
  have s8 := Same.new hpn (.lst [V.ref pc, V.ref pd])
  refine ⟨pm, pn, _, _, rfl, rfl, s8 _ _ (s7 _ _ (s6 _ _ upd_same)), upd_same, (by show 6 ≤ sizeLine; omega), fun pz hpz => ?_⟩
  have s9 := Same.new hpz (.lst ([V.ref pw, V.ref pr, V.ref pa, V.ref pb] ++ [V.ref pc, V.ref pd]))
  have SZ : Same H2 _ := ((S5.trans s6).trans s7).trans (s8.trans s9)
  have SH := S2.trans SZ
  have take_le : ∀ j : Nat, j ≤ x.length → (Txt.slice x none (some (j : Int))).length ≤ x.length ∧ KR.cn (Txt.slice x none (some (j : Int))) ≤ KR.cn x := fun j hj => by
    have e := TX.sl_to (x := x) (j := (j : Int)) (by omega) (by omega)
    unfold KR.cn
    rw [← TX.L_len, ← TX.L_len, e]
    exact ⟨by rw [List.length_take]; omega, (List.take_sublist _ _).count_le _⟩
  have drop_le : ∀ j : Nat, (Txt.slice x (some (j : Int)) none).length ≤ x.length ∧ KR.cn (Txt.slice x (some (j : Int)) none) ≤ KR.cn x := fun j => by
    by_cases hj : j ≤ x.length
    · have e := TX.sl_from (x := x) (i := (j : Int)) (by omega) (by omega)
      unfold KR.cn
      rw [← TX.L_len, ← TX.L_len, e]
      exact ⟨by rw [List.length_drop]; omega, (List.drop_sublist _ _).count_le _⟩
    · rw [PyProof.Rows.slice_beyond (by omega)]
      exact ⟨Nat.zero_le _, Nat.zero_le _⟩
  have chl : (⟨#[ch]⟩ : Str).length = 1 := rfl
  have chc : KR.cn ⟨#[ch]⟩ ≤ 1 := List.count_le_length (l := [ch])
  have lapp : ∀ a b : Str, (a ++ b).length = a.length + b.length := fun a b => by rw [← TX.L_len, ← TX.L_len, ← TX.L_len, TX.L_app, List.length_append]
  have T1 := take_le sp hsp
  have D0 := drop_le sp
  have D1 := drop_le (sp + 1)
  refine ⟨_, rfl, _, _, rfl, rfl, (by show (0 : Int) < 8; decide), rfl, _, rfl, ?_⟩
  refine ite2 (fun _ => ?_) (fun c6 => ?_)
  · refine ⟨_, rfl, _, rfl, _, rfl, x, rfl, by omega, _, rfl, _, _, rfl, rfl, by omega, _, rfl, _, rfl, _, rfl, x, rfl, by omega, _, _, rfl, rfl, by rw [lapp]; omega, ?_⟩
    refine q _ _ ?_ ?_ SH
    · rw [lapp, lapp]; omega
    · rw [cn_app, cn_app]; omega
  refine ⟨_, rfl, _, _, rfl, rfl, (by show (0 : Int) < 8; decide), rfl, _, rfl, ?_⟩
  refine ite2 (fun _ => ?_) (fun c7 => ?_)
  · refine ⟨_, rfl, _, rfl, _, rfl, x, rfl, by omega, _, rfl, _, rfl, _, _, rfl, rfl, _, rfl, x, rfl, by omega, _, _, rfl, rfl, ?_, ?_⟩
    · exact Nat.le_trans (Nat.add_le_add T1.1 D1.1) (by omega)
    · refine q _ _ ?_ ?_ SH
      · rw [lapp]; exact Nat.le_trans (Nat.add_le_add T1.1 D1.1) (by omega)
      · rw [cn_app]; exact Nat.le_trans (Nat.add_le_add T1.2 D1.2) (by omega)
  have n6 : ¬ c % 8 = 6 := fun z => c6 (decide_eq_true (congrArg V.int z))
  have n7 : ¬ c % 8 = 7 := fun z => c7 (decide_eq_true (congrArg V.int z))
  obtain ⟨j, ej, hj⟩ : ∃ j : Nat, c % 8 = (j : Int) ∧ j < 6 := ⟨(c % 8).toNat, by omega, by omega⟩
  have pick : ∃ p l, ([V.ref pw, V.ref pr, V.ref pa, V.ref pb] ++ [V.ref pc, V.ref pd])[j]? = some (V.ref p) ∧ (upd (upd H7 pn (HO.lst [V.ref pc, V.ref pd])) pz (HO.lst ([V.ref pw, V.ref pr, V.ref pa, V.ref pb] ++ [V.ref pc, V.ref pd]))) p = some (.lst (l.map V.str)) ∧ Sh l := by
    have Z := s8.trans s9
    have h0 := kk (ws' := ws) (y := y') (Nat.le_refl i)
    have h1 := kk (ws' := rs) (y := y') (Nat.le_refl o)
    have h2 := kk (ws' := ws) (y := z1) (Nat.le_refl i)
    have h3 := kk (ws' := ws) (y := z2) (show i ≤ i + 1 by omega)
    have hj' : j = 0 ∨ j = 1 ∨ j = 2 ∨ j = 3 ∨ j = 4 ∨ j = 5 := by omega
    rcases hj' with rfl | rfl | rfl | rfl | rfl | rfl
    · exact ⟨pw, ws, rfl, SZ _ _ hw2, by omega, by omega⟩
    · exact ⟨pr, rs, rfl, SZ _ _ hr0, by omega, by omega⟩
    · exact ⟨pa, _, rfl, Z _ _ (s7 _ _ (s6 _ _ (s5 _ _ (s4 _ _ ha)))), by omega, by omega⟩
    · exact ⟨pb, _, rfl, Z _ _ (s7 _ _ (s6 _ _ (s5 _ _ hb))), by omega, by omega⟩
    · exact ⟨pc, _, rfl, Z _ _ (s7 _ _ hc), by omega, by omega⟩
    · exact ⟨pd, _, rfl, Z _ _ hd, by omega, by omega⟩
  obtain ⟨p, l, hp, hl, sh⟩ := pick
  have hjo : JoinOk (" " : Str) l = true := join_ok1 (by rw [← wt_sum]; have := sh.w; omega)
  have jl := join_len l
  have jc := join_cn l
  rw [e32] at hjo jl jc
  refine ⟨rfl, _, rfl, _, rfl, _, _, rfl, rfl, (by show (0 : Int) < 8; decide), pz, _, _, _, rfl, rfl, SqL.of upd_same, ?_, _, p, l, rfl, rfl, SqL.of hl, hjo, q _ _ ?_ ?_ SH⟩
  · show atI _ (c % 8) = _
    rw [ej]
    exact atI_nat hp
  · have := sh.w; omega
  · rw [jc]; exact sh.c
end
end K06

set_option linter.all false
set_option maxRecDepth 100000
set_option maxHeartbeats 2000000
namespace K06
open PySem L2 G DT
open IT hiding It
open KW
section
variable {P : Program} {w : World} {K : PySem.W.Frag} {mg : Str → Option Value} {base : Heap}
def spLaw (K : PySem.W.Frag) : Sp := fun vs H Q _ => ∃ (a : Addr) (ns : List Int), vs = [.ref a] ∧ SqL K H a (ns.map V.int) ∧ ns.length ≤ 63 ∧ ∀ H', Q (.bl true) H'
theorem cut_ints {ns : List Int} {lo hi : Option Int} {x : V} (h : x ∈ cutV (ns.map V.int) lo hi) : ∃ i, x = .int i := by
  unfold cutV at h
  obtain ⟨i, _, e⟩ := List.mem_map.mp (List.mem_of_mem_drop (List.mem_of_mem_take h))
  exact ⟨i, e.symm⟩
theorem scLaw : FnScope ["_law_script", "_law_names_here", "_law_reels_here", "_law_text_here"] ["_law_script"] (defScope s_law) := ⟨rfl, rfl, rfl, by decide +kernel, rfl, by decide +kernel, by decide +kernel⟩
theorem ok_law {f : Addr} {fd : FuncData} (F : Fun K "law" "law" s_law f fd)
    (dCell : Def P w K mg base CX0 "_law_cell" 1 ["_law_script", "_law_k"] (spCell K)) (dNames : Def P w K mg base CX0 "_law_names" 2 ["_law_cell_here", "_law_many"] spNames) (dReels : Def P w K mg base CX0 "_law_reels" 2 ["_law_cell_here", "_law_names_here", "_law_most"] spReels)
    (dItems : Def P w K mg base CX0 "_law_items" 4 ["_law_cell_here", "_law_deep", "_law_reels_here", "_law_parts"] (spItems 2)) (dText : Def P w K mg base CX0 "_law_text" 32 ["_law_items_here"] (spShow 30))
    (dRight : Def P w K mg base CX0 "_law_right" 7 ["_law_text_here"] spRight) (dMade : Def P w K mg base CX0 "_law_made" 2 ["_law_text_here", "_law_cell_here"] spMade)
    (n_all : mg "all" = none) : FnOk P w K mg base CX0 35 f fd ["_law_script"] (spLaw K) := by
  refine F.ok scLaw (fun vs H Q E h => ?_) (fun cdv A outer s H vs Q E hr h => ?_)
  · obtain ⟨a, ns, rfl, _⟩ := h
    rfl
  obtain ⟨a, ns, rfl, hS, hlen, q⟩ := h
  refine useQ (ss_cons (s_set (i := 1) scLaw.nd (e_call dNames hr pass0 (a_cons (e_call dCell hr pass0 (a_cons (e_v 0) (a_cons e_int a_nil))) (a_cons e_int a_nil))))
    (ss_cons (s_set (i := 2) scLaw.nd (e_call dReels hr pass0 (a_cons (e_call dCell hr pass0 (a_cons (e_v 0) (a_cons e_int a_nil))) (a_cons (e_sl sl_list (e_v 1) o_none (o_some (e_op op_add e_int (e_op op_mod (e_call dCell hr pass0 (a_cons (e_v 0) (a_cons e_int a_nil))) e_int)))) (a_cons e_int a_nil)))))
    (ss_cons (s_setc (i := 3) scLaw.nd (e_call dText hr pass0 (a_cons (e_call dItems hr pass0 (a_cons (e_call dCell hr pass0 (a_cons (e_v 0) (a_cons e_int a_nil))) (a_cons e_int (a_cons (e_v 2) (a_cons (e_v 1) a_nil))))) a_nil)))
    (ss_cons (s_if (t_w (w_or (t_not (t_val (e_call dRight hr pass0 (a_cons e_str a_nil)))) (w_or1 (t_not (t_val (e_call dRight hr pass0 (a_cons (e_c 3) a_nil)))))))
      (ss_one (s_ret e_bl))
      ss_nil)
    (ss_one (s_ret (e_b call_all n_all PyProof.Rows.boot_all (a_cons (e_comp ["_law_text_here"] [3] [("_law_text_here", s.heap.objs.size + 1)] rfl ⟨rfl, rfl, rfl, rfl, trivial⟩ ⟨rfl, trivial⟩ (i_list (e_op op_cat (e_lst (a_cons e_int a_nil)) (e_sl sl_list (e_v 0) (o_some e_int) (o_some e_int)))) (fun _ _ _ _ => (e_call dRight hr pass0 (a_cons (e_call dMade hr pass0 (a_cons (e_n 1) (a_cons (e_n 0) a_nil))) a_nil)))) a_nil)))))))) ?_
  have zl : sizeLine = 16777216 := sizeLine_eq
  obtain ⟨kk, hkk, hk1, hk2⟩ : ∃ m : Nat, 1 + cellOf ns 1 % 4 = (m : Int) ∧ 1 ≤ m ∧ m ≤ 4 := ⟨(1 + cellOf ns 1 % 4).toNat, by omega, by omega, by omega⟩
  refine ⟨_, rfl, a, ns, 0, rfl, hS, fun H1 s1 => ⟨cellOf ns 0, 4, rfl, by decide, fun ln ss H2 s2 hsl hss hnd hnn hln0 hln => ?_⟩⟩
  have S2 := s1.trans s2
  refine ⟨_, rfl, a, ns, 1, rfl, S2.seq hS, fun H3 s3 => ⟨_, rfl, _, rfl, a, ns, 1, rfl, (S2.trans s3).seq hS, fun H4 s4 => ⟨_, _, rfl, rfl, (by show (0 : Int) < 4; decide), _, _, rfl, rfl, _, rfl, ln, _, rfl, SqL.of (s4 _ _ (s3 _ _ hln)), fun pn hpn => ?_⟩⟩⟩
  have S4 := (S2.trans s3).trans s4
  have tn := Same.new hpn (.lst (cutV (ss.map V.str) none (some (1 + cellOf ns 1 % 4))))
  refine ⟨cellOf ns 1, 160000, pn, ss.take kk, rfl, by decide, by decide, (by rw [← cut_take, ← hkk]; exact upd_same), fun s hs => ⟨hss s (List.mem_of_mem_take hs), hnn s (List.mem_of_mem_take hs)⟩, by rw [List.length_take]; omega, fun lr prs H5 s5 hnames hlr0 rl => ?_⟩
  have S5 := (S4.trans tn).trans s5
  have hln5 := s5 _ _ (tn _ _ (s4 _ _ (s3 _ _ hln)))
  have hpl : prs.length = kk := by
    have := congrArg List.length hnames
    rw [List.length_map, List.length_take] at this
    omega
  have hnames' : ∀ s ∈ ss, Fine s ∧ NameOk s := fun s hs => ⟨(hss s hs).2, hnn s hs⟩
  refine ⟨_, rfl, a, ns, 2, rfl, S5.seq hS, fun H6 s6 => ⟨_, rfl, _, rfl, 2, cellOf ns 2, lr, ln, prs, ss, by decide, rfl, rl.same s6, by omega, s6 _ _ hln5, hnames', fun p xs H7 s7 tp gi => ?_⟩⟩
  have S7 := (S5.trans s6).trans s7
  have gw : wL xs ≤ 216 := gi.w
  have gd : dpL xs ≤ 3 := gi.dp
  have gl := txL_len gi.vv
  have gc : KR.cn (txL xs) ≤ 12 := by rw [KR.cn_text gi.vv]; exact gi.nb
  refine ⟨p, xs, rfl, tp, gi.vv, by omega, by omega, fun H8 s8 => ?_⟩
  have S8 := S7.trans s8
  generalize txL xs = x at gl gc
  have lx : x.length ≤ 20000 := by omega
  refine ⟨"", rfl, by decide, by decide, fun H9 s9 => ⟨_, rfl, iteF ⟨_, rfl, x, rfl, by omega, by omega, fun H10 s10 => ⟨_, rfl, iteF ?_⟩⟩⟩⟩
  have S10 := (S8.trans s9).trans s10
  refine ⟨(by show 1 ≤ sizeLine; omega), fun p0 hp0 => ?_⟩
  have t0 := Same.new hp0 (.lst [V.int 0])
  refine ⟨_, rfl, _, rfl, _, rfl, a, _, rfl, (S10.trans t0).seq hS, fun p1 hp1 => ?_⟩
  have t1 := Same.new hp1 (.lst (cutV (ns.map V.int) (some 3) (some 13)))
  have lc : (cutV (ns.map V.int) (some 3) (some 13)).length ≤ 63 := Nat.le_trans (cutV_length _ _ _) (by rw [List.length_map]; exact hlen)
  refine ⟨p0, p1, _, _, rfl, rfl, t1 _ _ upd_same, upd_same, (by simp only [List.length_cons, List.length_nil]; omega), fun p2 hp2 => ?_⟩
  have ll : ([V.int 0] ++ cutV (ns.map V.int) (some 3) (some 13)).length ≤ sizeLine := by rw [List.length_append]; simp only [List.length_cons, List.length_nil]; omega
  refine ⟨p2, rfl, ⟨_, SqL.of upd_same⟩, comp_list (([V.int 0] ++ cutV (ns.map V.int) (some 3) (some 13)).map fun _ => V.bl true) (SqL.of upd_same) ll (by rw [List.length_map]) (fun i v y H' R sm hv hy hR => ?_) (fun D H' sm hD0 hD => ?_)⟩
  · obtain ⟨ci, rfl⟩ : ∃ ci, v = V.int ci := by
      rcases List.mem_append.mp (List.mem_of_getElem? hv) with z | z
      · exact ⟨0, List.mem_singleton.mp z⟩
      · exact cut_ints z
    have ey : y = V.bl true := by
      rw [List.getElem?_map, hv] at hy
      exact (Option.some.inj hy).symm
    subst ey
    exact ⟨_, rfl, _, rfl, x, ci, rfl, lx, gc, fun z H1' l1 c1 u1 => ⟨z, rfl, by omega, by omega, fun H2' u2 => hR H2' (u1.trans u2)⟩⟩
  · have eall : ∀ l : List V, (l.map fun _ => true).all id = true := fun l => by simp
    refine ⟨D, ([V.int 0] ++ cutV (ns.map V.int) (some 3) (some 13)).map (fun _ => true), rfl, SqL.of (by rw [List.map_map]; exact hD), rfl, ?_⟩
    rw [eall]
    exact q H'
end
end K06

set_option linter.all false
set_option maxRecDepth 100000
set_option maxHeartbeats 4000000
namespace K06
open PySem L2 G
structure CsIn (K : PySem.W.Frag) (c : Cs) (n : Addr) (b : Nat → Bool) : Prop where
  ms : PySem.W.nsIn K mainGlobals "SpliceError" = some (some (.ref c.s))
  m0 : PySem.W.nsIn K mainGlobals "NoKey" = some (some (.ref c.c0))
  m1 : PySem.W.nsIn K mainGlobals "NoReel" = some (some (.ref c.c1))
  m2 : PySem.W.nsIn K mainGlobals "NoFrame" = some (some (.ref c.c2))
  m3 : PySem.W.nsIn K mainGlobals "NoName" = some (some (.ref c.c3))
  m4 : PySem.W.nsIn K mainGlobals "NoList" = some (some (.ref c.c4))
  m5 : PySem.W.nsIn K mainGlobals "NoFade" = some (some (.ref c.c5))
  m6 : PySem.W.nsIn K mainGlobals "TooMany" = some (some (.ref c.c6))
  m7 : PySem.W.nsIn K mainGlobals "TooShort" = some (some (.ref c.c7))
  m8 : PySem.W.nsIn K mainGlobals "NoPlace" = some (some (.ref c.c8))
  m9 : PySem.W.nsIn K mainGlobals "NoRow" = some (some (.ref c.c9))
  ks : PySem.W.kitOne K (.ref n) (.ref c.s) = some true
  kv : PySem.W.kitOne K (.ref n) (.type "ValueError") = some true
  k0 : PySem.W.kitOne K (.ref n) (.ref c.c0) = some (b 0)
  k1 : PySem.W.kitOne K (.ref n) (.ref c.c1) = some (b 1)
  k2 : PySem.W.kitOne K (.ref n) (.ref c.c2) = some (b 2)
  k3 : PySem.W.kitOne K (.ref n) (.ref c.c3) = some (b 3)
  k4 : PySem.W.kitOne K (.ref n) (.ref c.c4) = some (b 4)
  k5 : PySem.W.kitOne K (.ref n) (.ref c.c5) = some (b 5)
  k6 : PySem.W.kitOne K (.ref n) (.ref c.c6) = some (b 6)
  k7 : PySem.W.kitOne K (.ref n) (.ref c.c7) = some (b 7)
  k8 : PySem.W.kitOne K (.ref n) (.ref c.c8) = some (b 8)
  k9 : PySem.W.kitOne K (.ref n) (.ref c.c9) = some (b 9)
theorem CsIn.ok {K : PySem.W.Frag} {c : Cs} {n : Addr} {b : Nat → Bool} {h : Heap} {mg : Str → Option Value} (X : K.In h) (G : h.Ns mainGlobals mg) (C : CsIn K c n b) (ex : ExcK K n) : CsOk K mg c n b :=
  ⟨PySem.W.mg_of X G C.ms, PySem.W.mg_of X G C.m0, PySem.W.mg_of X G C.m1, PySem.W.mg_of X G C.m2, PySem.W.mg_of X G C.m3, PySem.W.mg_of X G C.m4, PySem.W.mg_of X G C.m5, PySem.W.mg_of X G C.m6, PySem.W.mg_of X G C.m7, PySem.W.mg_of X G C.m8, PySem.W.mg_of X G C.m9, C.ks, C.kv, C.k0, C.k1, C.k2, C.k3, C.k4, C.k5, C.k6, C.k7, C.k8, C.k9, ex⟩
structure CAll (K : PySem.W.Frag) (c : Cs) : Prop where
  C4 : CsIn K c c.c4 (isK 4)
  eS : ∃ bmS idS, ExcC K c.s bmS idS ∧ bmS.contains (.type "BaseException") = true
  e4 : ∃ bm id, ExcC K c.c4 bm id ∧ (Value.ref c.c4 :: bm).contains (.ref c.s) = true
  i4 : InitIn K c.c4 "NoList.__init__" s_NoList_init
  x4_word : XNo K c.c4 "word"
/-- the classes' addresses -/
theorem cs_mk {K : PySem.W.Frag} {s c0 c1 c2 c3 c4 c5 c6 c7 c8 c9 : Addr} (ms : PySem.W.nsIn K mainGlobals "SpliceError" = some (some (.ref s))) (m0 : PySem.W.nsIn K mainGlobals "NoKey" = some (some (.ref c0))) (m1 : PySem.W.nsIn K mainGlobals "NoReel" = some (some (.ref c1))) (m2 : PySem.W.nsIn K mainGlobals "NoFrame" = some (some (.ref c2))) (m3 : PySem.W.nsIn K mainGlobals "NoName" = some (some (.ref c3))) (m4 : PySem.W.nsIn K mainGlobals "NoList" = some (some (.ref c4))) (m5 : PySem.W.nsIn K mainGlobals "NoFade" = some (some (.ref c5))) (m6 : PySem.W.nsIn K mainGlobals "TooMany" = some (some (.ref c6))) (m7 : PySem.W.nsIn K mainGlobals "TooShort" = some (some (.ref c7))) (m8 : PySem.W.nsIn K mainGlobals "NoPlace" = some (some (.ref c8))) (m9 : PySem.W.nsIn K mainGlobals "NoRow" = some (some (.ref c9))) 
    (k4s : PySem.W.kitOne K (.ref c4) (.ref s) = some true) (k4v : PySem.W.kitOne K (.ref c4) (.type "ValueError") = some true) (k40 : PySem.W.kitOne K (.ref c4) (.ref c0) = some false) (k41 : PySem.W.kitOne K (.ref c4) (.ref c1) = some false) (k42 : PySem.W.kitOne K (.ref c4) (.ref c2) = some false) (k43 : PySem.W.kitOne K (.ref c4) (.ref c3) = some false) (k44 : PySem.W.kitOne K (.ref c4) (.ref c4) = some true) (k45 : PySem.W.kitOne K (.ref c4) (.ref c5) = some false) (k46 : PySem.W.kitOne K (.ref c4) (.ref c6) = some false) (k47 : PySem.W.kitOne K (.ref c4) (.ref c7) = some false) (k48 : PySem.W.kitOne K (.ref c4) (.ref c8) = some false) (k49 : PySem.W.kitOne K (.ref c4) (.ref c9) = some false) 
    {bmS bsS subS : List Value} {idS : String} {NS : Addr} {nmS qnS : Str} {hdS abS : Bool} {snS : List Str} {colS : Option Bool} {ddS : Option Addr} {aS0 aS1 aS2 aS3 aS5 : Option Value} 
    {bmQ4 bsQ4 subQ4 : List Value} {idQ4 : String} {NQ4 : Addr} {nmQ4 qnQ4 : Str} {hdQ4 abQ4 : Bool} {snQ4 : List Str} {colQ4 : Option Bool} {ddQ4 : Option Addr} {aQ40 aQ41 aQ42 aQ43 aQ45 : Option Value} 
    (lS : K.lookup s = some (excClassObj nmS qnS s NS bsS bmS hdS snS subS abS colS ddS aS0 aS1 aS2 aS3 aS5 idS)) 
    (lQ4 : K.lookup c4 = some (excClassObj nmQ4 qnQ4 c4 NQ4 bsQ4 bmQ4 hdQ4 snQ4 subQ4 abQ4 colQ4 ddQ4 aQ40 aQ41 aQ42 aQ43 aQ45 idQ4)) 
    (hbS : bmS.contains (.type "BaseException") = true) (hup4 : (Value.ref c4 :: bmQ4).contains (.ref s) = true) (I4 : InitIn K c4 "NoList.__init__" s_NoList_init) (x4_word : PySem.W.findIn K (.ref c4) "word" = some none) : ∃ c : Cs, CAll K c :=
  ⟨⟨s, c0, c1, c2, c3, c4, c5, c6, c7, c8, c9⟩, ⟨ms, m0, m1, m2, m3, m4, m5, m6, m7, m8, m9, k4s, k4v, k40, k41, k42, k43, k44, k45, k46, k47, k48, k49⟩, ⟨bmS, idS, .mk lS, hbS⟩, ⟨bmQ4, idQ4, .mk lQ4, hup4⟩, I4, x4_word⟩
structure DsIn (K : PySem.W.Frag) : Prop where
  has : FunIn K "has_only" s_has_only
  fig : FunIn K "are_figures" s_are_figures
  name : FunIn K "is_name" s_is_name
  isNum : FunIn K "is_number" s_is_number
  read : FunIn K "read_list" s_read_list
  shut : FunIn K "shut" s_shut
  opn : FunIn K "read_opening" s_read_opening
  itemR : FunIn K "read_item" s_read_item
  clip : FunIn K "read_clip" s_read_clip
  isCount : FunIn K "is_count" s_is_count
  cell : FunIn K "_law_cell" s__law_cell
  num : FunIn K "_law_numbers" s__law_numbers
  only : FunIn K "_law_only" s__law_only
  names : FunIn K "_law_names" s__law_names
  reels : FunIn K "_law_reels" s__law_reels
  items : FunIn K "_law_items" s__law_items
  text : FunIn K "_law_text" s__law_text
  lnum : FunIn K "_law_number" s__law_number
  lname : FunIn K "_law_is_name" s__law_is_name
  lclip : FunIn K "_law_clip" s__law_clip
  litem : FunIn K "_law_item" s__law_item
  lopen : FunIn K "_law_opens" s__law_opens
  lread : FunIn K "_law_read" s__law_read
  right : FunIn K "_law_right" s__law_right
  odd : FunIn K "_law_odd" s__law_odd
  made : FunIn K "_law_made" s__law_made
  law : FunIn K "law" s_law
structure NsIn (K : PySem.W.Frag) (t : Nat → Tok) : Prop where
  lo : PySem.W.nsIn K mainGlobals "LONGEST_NAME" = some (some (.int 8 (t 0)))
  ln : PySem.W.nsIn K mainGlobals "LONGEST_NUMBER" = some (some (.int 9 (t 1)))
  sm : PySem.W.nsIn K mainGlobals "SMALL_LETTERS" = some (some (.str smallS (t 2)))
  fi : PySem.W.nsIn K mainGlobals "FIGURES" = some (some (.str K01.figS (t 3)))
  to : PySem.W.nsIn K mainGlobals "TIMES_OPEN" = some (some (.str "*(" (t 4)))
  bo : PySem.W.nsIn K mainGlobals "BACK_OPEN" = some (some (.str "-(" (t 5)))
  sh : PySem.W.nsIn K mainGlobals "SHUT" = some (some (.str ")" (t 6)))
  zisi : PySem.W.nsIn K mainGlobals "isinstance" = some none
  zlen : PySem.W.nsIn K mainGlobals "len" = some none
  zint : PySem.W.nsIn K mainGlobals "int" = some none
  zstr : PySem.W.nsIn K mainGlobals "str" = some none
  ztup : PySem.W.nsIn K mainGlobals "tuple" = some none
  zrng : PySem.W.nsIn K mainGlobals "range" = some none
  zabs : PySem.W.nsIn K mainGlobals "abs" = some none
  zmin : PySem.W.nsIn K mainGlobals "min" = some none
  zmax : PySem.W.nsIn K mainGlobals "max" = some none
  zall : PySem.W.nsIn K mainGlobals "all" = some none
  zenum : PySem.W.nsIn K mainGlobals "enumerate" = some none
  zval : PySem.W.nsIn K mainGlobals "ValueError" = some none
theorem ns_mk {K : PySem.W.Frag} {t0 : Tok} {i0 : Int} {t1 : Tok} {i1 : Int} {t2 : Tok} {i2 : Str} {t3 : Tok} {i3 : Str} {t4 : Tok} {i4 : Str} {t5 : Tok} {i5 : Str} {t6 : Tok} {i6 : Str} (a0 : PySem.W.nsIn K mainGlobals "LONGEST_NAME" = some (some (.int i0 t0))) (a1 : PySem.W.nsIn K mainGlobals "LONGEST_NUMBER" = some (some (.int i1 t1))) (a2 : PySem.W.nsIn K mainGlobals "SMALL_LETTERS" = some (some (.str i2 t2))) (a3 : PySem.W.nsIn K mainGlobals "FIGURES" = some (some (.str i3 t3))) (a4 : PySem.W.nsIn K mainGlobals "TIMES_OPEN" = some (some (.str i4 t4))) (a5 : PySem.W.nsIn K mainGlobals "BACK_OPEN" = some (some (.str i5 t5))) (a6 : PySem.W.nsIn K mainGlobals "SHUT" = some (some (.str i6 t6))) (e0 : i0 = 8) (e1 : i1 = 9) (e2 : i2 = smallS) (e3 : i3 = K01.figS) (e4 : i4 = "*(") (e5 : i5 = "-(") (e6 : i6 = ")")
    (b0 : PySem.W.nsIn K mainGlobals "isinstance" = some none) (b1 : PySem.W.nsIn K mainGlobals "len" = some none) (b2 : PySem.W.nsIn K mainGlobals "int" = some none) (b3 : PySem.W.nsIn K mainGlobals "str" = some none) (b4 : PySem.W.nsIn K mainGlobals "tuple" = some none) (b5 : PySem.W.nsIn K mainGlobals "range" = some none) (b6 : PySem.W.nsIn K mainGlobals "abs" = some none) (b7 : PySem.W.nsIn K mainGlobals "min" = some none) (b8 : PySem.W.nsIn K mainGlobals "max" = some none) (b9 : PySem.W.nsIn K mainGlobals "all" = some none) (b10 : PySem.W.nsIn K mainGlobals "enumerate" = some none) (b11 : PySem.W.nsIn K mainGlobals "ValueError" = some none) : ∃ t, NsIn K t := by
  subst e0 e1 e2 e3 e4 e5 e6
  exact ⟨fun i => [t0, t1, t2, t3, t4, t5, t6].getD i 0, a0, a1, a2, a3, a4, a5, a6, b0, b1, b2, b3, b4, b5, b6, b7, b8, b9, b10, b11⟩
theorem all_mk {l : PySem.W.OpenLaw} {w : World} {K : PySem.W.Frag} {h : Heap} {mg : Str → Option Value} {fa : Addr} (X : K.In h) (G : h.Ns mainGlobals mg) (hfa : mg "law" = some (.ref fa)) {t : Nat → Tok} (D : DsIn K) (Z : NsIn K t) (CC : ∃ c : Cs, CAll K c) :
    ∃ fd : FuncData, (∀ (s : Shared) (v : Value), BindsTo s fd ⟨[v], []⟩ [("_law_script", v)]) ∧ ∀ base : Heap, K.In base → base.Ns mainGlobals mg → FnOk l.prog w K mg base CX0 35 fa fd ["_law_script"] (spLaw K) := by
  obtain ⟨c, C4, ⟨bmS, idS, cS, hbS⟩, ⟨bm4, id4, c4, up4⟩, I4, x4_word⟩ := CC
  have O4 := C4.ok X G I4.ek
  have mlo := PySem.W.mg_of X G Z.lo
  have mln := PySem.W.mg_of X G Z.ln
  have msm := PySem.W.mg_of X G Z.sm
  have mfi := PySem.W.mg_of X G Z.fi
  have mto := PySem.W.mg_of X G Z.to
  have mbo := PySem.W.mg_of X G Z.bo
  have msh := PySem.W.mg_of X G Z.sh
  have nisi := PySem.W.mg_none_of X G Z.zisi
  have nlen := PySem.W.mg_none_of X G Z.zlen
  have nint := PySem.W.mg_none_of X G Z.zint
  have nstr := PySem.W.mg_none_of X G Z.zstr
  have ntup := PySem.W.mg_none_of X G Z.ztup
  have nrng := PySem.W.mg_none_of X G Z.zrng
  have nabs := PySem.W.mg_none_of X G Z.zabs
  have nmin := PySem.W.mg_none_of X G Z.zmin
  have nmax := PySem.W.mg_none_of X G Z.zmax
  have nall := PySem.W.mg_none_of X G Z.zall
  have nenum := PySem.W.mg_none_of X G Z.zenum
  have nval := PySem.W.mg_none_of X G Z.zval
  obtain ⟨fl, fdl, al, FL⟩ := D.law
  have e := hfa.symm.trans (PySem.W.mg_of X G al)
  cases e
  refine ⟨fdl, fun s v => ?_, fun base _ _ => ?_⟩
  · obtain ⟨oc, od, kV, doc, pm, an, cdv, ct, osl, rfl, lk, hcd⟩ := FL.ex
    exact .of_eq rfl
  obtain ⟨f4, fd4, R4, F4⟩ := I4.ex
  have b4 := F4.binds (ps := ["self", "word"]) fun _ _ _ _ _ _ us hl => match us, hl with | [_, _], _ => rfl
  have dCell : Def l.prog w K mg base CX0 "_law_cell" 1 ["_law_script", "_law_k"] (spCell K) := Def.of X G D.cell (fun f fd F => ok_cell F) fun _ _ _ _ _ _ us hl => match us, hl with | [_, _], _ => rfl
  have dNum : Def l.prog w K mg base CX0 "_law_numbers" 1 ["_law_cell_here", "_law_many"] spNum := Def.of X G D.num (fun f fd F => ok_num F nabs nrng nint) fun _ _ _ _ _ _ us hl => match us, hl with | [_, _], _ => rfl
  have dNames : Def l.prog w K mg base CX0 "_law_names" 2 ["_law_cell_here", "_law_many"] spNames := Def.of X G D.names (fun f fd F => ok_names F dNum nrng) fun _ _ _ _ _ _ us hl => match us, hl with | [_, _], _ => rfl
  have dReels : Def l.prog w K mg base CX0 "_law_reels" 2 ["_law_cell_here", "_law_names_here", "_law_most"] spReels := Def.of X G D.reels (fun f fd F => ok_reels F dNum nrng nlen) fun _ _ _ _ _ _ us hl => match us, hl with | [_, _, _], _ => rfl
  have rItems : ∀ d : Nat, d ≤ 5 → Def l.prog w K mg base CX0 "_law_items" (d + 2) ["_law_cell_here", "_law_deep", "_law_reels_here", "_law_parts"] (spItems d) := by
    intro d
    induction d with
    | zero => exact fun h => Def.of X G D.items (fun f fd F => ok_items (d := 0) h F dNum (Def.never X G D.items (fun _ _ _ _ _ _ us hl => match us, hl with | [_, _, _, _], _ => rfl)) nrng nlen nmin nmax ntup) (fun _ _ _ _ _ _ us hl => match us, hl with | [_, _, _, _], _ => rfl)
    | succ d ih => exact fun h => Def.of X G D.items (fun f fd F => ok_items (d := (d + 1)) h F dNum (ih (by omega)) nrng nlen nmin nmax ntup) (fun _ _ _ _ _ _ us hl => match us, hl with | [_, _, _, _], _ => rfl)
  have dItems := rItems 2 (by decide)
  have dHas : Def l.prog w K mg base CX0 "has_only" 1 ["text", "signs"] spHas := Def.of X G D.has (fun f fd F => ok_has F nall) fun _ _ _ _ _ _ us hl => match us, hl with | [_, _], _ => rfl
  have dName : Def l.prog w K mg base CX0 "is_name" 2 ["value"] spName := Def.of X G D.name (fun f fd F => ok_name F dHas msm mlo nisi nstr nlen) fun _ _ _ _ _ _ us hl => match us, hl with | [_], _ => rfl
  have dFig : Def l.prog w K mg base CX0 "are_figures" 2 ["text"] spFig := Def.of X G D.fig (fun f fd F => ok_fig F dHas mfi) fun _ _ _ _ _ _ us hl => match us, hl with | [_], _ => rfl
  have dIsNum : Def l.prog w K mg base CX0 "is_number" 3 ["text"] spNumB := Def.of X G D.isNum (fun f fd F => ok_isNum F dFig mln nlen) fun _ _ _ _ _ _ us hl => match us, hl with | [_], _ => rfl
  have dIsCount : Def l.prog w K mg base CX0 "is_count" 4 ["text"] spCoB := Def.of X G D.isCount (fun f fd F => ok_isCount F dIsNum) fun _ _ _ _ _ _ us hl => match us, hl with | [_], _ => rfl
  have dOpen : Def l.prog w K mg base CX0 "read_opening" 5 ["word"] spOpen := Def.of X G D.opn (fun f fd F => ok_open F dIsCount mto mbo nlen nint) fun _ _ _ _ _ _ us hl => match us, hl with | [_], _ => rfl
  have dClip : Def l.prog w K mg base CX0 "read_clip" 4 ["word"] spClip := Def.of X G D.clip (fun f fd F => ok_clip F dName dIsNum nlen nint nall) fun _ _ _ _ _ _ us hl => match us, hl with | [_], _ => rfl
  have dItemR : Def l.prog w K mg base (CX1 l.prog w) "read_item" 5 ["word", "number"] (spItemR c.c4) := Def.of X G D.itemR (fun f fd F => ok_itemR F dName dIsCount dClip nint O4.m4 R4 (ok_init F4 I4.xc x4_word) b4) fun _ _ _ _ _ _ us hl => match us, hl with | [_, _], _ => rfl
  have dShut : Def l.prog w K mg base CX0 "shut" 1 ["bracket", "inner"] spShut := Def.of X G D.shut (fun f fd F => ok_shut F ntup) fun _ _ _ _ _ _ us hl => match us, hl with | [_, _], _ => rfl
  have dRead : Def l.prog w K mg base (CX1 l.prog w) "read_list" 6 ["text"] (spRead c.c4) := Def.of X G D.read (fun f fd F => ok_read F dOpen dItemR dShut msh nisi nstr nenum nlen ntup O4.m4 R4 (ok_init F4 I4.xc x4_word) b4) fun _ _ _ _ _ _ us hl => match us, hl with | [_], _ => rfl
  have rText : ∀ d : Nat, Def l.prog w K mg base CX0 "_law_text" (d + 2) ["_law_items_here"] (spShow d) := by
    intro d
    induction d with
    | zero => exact Def.of X G D.text (fun f fd F => ok_text (d := 0) F (Def.never X G D.text (fun _ _ _ _ _ _ us hl => match us, hl with | [_], _ => rfl)) nstr) (fun _ _ _ _ _ _ us hl => match us, hl with | [_], _ => rfl)
    | succ d ih => exact Def.of X G D.text (fun f fd F => ok_text (d := (d + 1)) F (ih) nstr) (fun _ _ _ _ _ _ us hl => match us, hl with | [_], _ => rfl)
  have dText := rText 30
  have dOnly : Def l.prog w K mg base CX0 "_law_only" 2 ["_law_e", "_law_at"] (spOnly c.c4 4) := Def.of X G D.only (fun f fd F => ok_only F O4 nisi nrng nval) fun _ _ _ _ _ _ us hl => match us, hl with | [_, _], _ => rfl
  have dLNum : Def l.prog w K mg base CX0 "_law_number" 1 ["_law_word"] spLNum := Def.of X G D.lnum (fun f fd F => ok_lnum F nlen nall nint) fun _ _ _ _ _ _ us hl => match us, hl with | [_], _ => rfl
  have dLName : Def l.prog w K mg base CX0 "_law_is_name" 1 ["_law_word"] spName := Def.of X G D.lname (fun f fd F => ok_lname F nlen nall) fun _ _ _ _ _ _ us hl => match us, hl with | [_], _ => rfl
  have dLClip : Def l.prog w K mg base CX0 "_law_clip" 2 ["_law_word"] spClip := Def.of X G D.lclip (fun f fd F => ok_lclip F dLNum dLName nlen) fun _ _ _ _ _ _ us hl => match us, hl with | [_], _ => rfl
  have dLItem : Def l.prog w K mg base CX0 "_law_item" 3 ["_law_word"] spLItem := Def.of X G D.litem (fun f fd F => ok_litem F dLNum dLName dLClip) fun _ _ _ _ _ _ us hl => match us, hl with | [_], _ => rfl
  have dLOpen : Def l.prog w K mg base CX0 "_law_opens" 2 ["_law_word"] spOpen := Def.of X G D.lopen (fun f fd F => ok_lopen F dLNum) fun _ _ _ _ _ _ us hl => match us, hl with | [_], _ => rfl
  have dLRead : Def l.prog w K mg base CX0 "_law_read" 4 ["_law_words"] spLRead := Def.of X G D.lread (fun f fd F => ok_lread F dLOpen dLItem nrng nlen ntup) fun _ _ _ _ _ _ us hl => match us, hl with | [_], _ => rfl
  have dRight : Def l.prog w K mg base CX0 "_law_right" 7 ["_law_text_here"] spRight := Def.of X G D.right (fun f fd F => ok_right F dLRead dRead dOnly O4.ms cS hbS c4 up4 I4.ek I4.xc x4_word nisi ntup) fun _ _ _ _ _ _ us hl => match us, hl with | [_], _ => rfl
  have dOdd : Def l.prog w K mg base CX0 "_law_odd" 1 ["_law_cell_here"] spOdd := Def.of X G D.odd (fun f fd F => ok_odd F) fun _ _ _ _ _ _ us hl => match us, hl with | [_], _ => rfl
  have dMade : Def l.prog w K mg base CX0 "_law_made" 2 ["_law_text_here", "_law_cell_here"] spMade := Def.of X G D.made (fun f fd F => ok_made F dOdd nlen) fun _ _ _ _ _ _ us hl => match us, hl with | [_, _], _ => rfl
  exact ok_law FL dCell dNames dReels dItems dText dRight dMade nall
end K06

set_option Elab.async false
set_option linter.all false
set_option maxRecDepth 100000
namespace Hd
open PySem PySem.W PyProof.Rows
noncomputable def q : Program := view PySem.Challenge.pw_leadersplice_k06_no_list [1, 2, 3, 4, 5, 6, 7, 8, 9, 10, 11, 13, 14, 15, 16, 17, 18, 19, 20, 22, 23, 24, 25, 26, 27, 28, 29, 30, 32, 33, 34, 35, 36, 37, 38, 39, 40, 41, 42, 43, 44, 45, 46, 47, 48]
noncomputable def lk := look PySem.Challenge.pw_leadersplice_k06_no_list q [] (fun s => xlAt q [] s && recOk [] s) 6938
noncomputable def gd := openGood q []
set_option maxHeartbeats 0 in
theorem made : yes lk gd = true := by k_qdec
end Hd
open PySem PySem.W PyProof.Rows
local macro_rules | `(tactic| o_head $H) => `(tactic| (
  refine holds_open (q := Hd.q) (loose := []) (Xt := fun s => xlAt Hd.q [] s && recOk [] s) (XP := XL Hd.q [])
    (Yf := Hook.obs $H) (Ya := Hook.val $H) (YP := Hook.says $H) (N := 6938)
    (Hd.left_tw PySem.W.Fast.te11159589718668676419 PySem.W.Fast.te15256597767800516470 rfl rfl (fun _ => rfl) (fun w => by kernel_rfl))
    (Hook.of $H) (Hook.keeps $H) (fun s e => xl_of s (Bool.and_eq_true_iff.mp e).1) XL.keeps (by rfl) (by rfl) (by rfl)
    (fun s e => recFacts_of (Bool.and_eq_true_iff.mp e).2) rfl (by assumption) ?h4 ⟨rfl, rfl, rfl, rfl, rfl, ?h5⟩ ?hw ?hc
  (case h4 => decide +kernel)
  (case h5 => decide +kernel)
  (case hw => w_witness2)
  (rename_i z; clear z)))
local macro_rules | `(tactic| walk_at "own def") => `(tactic| (dsimp only [L2.KOf]; refine' L2.funIn_mk ?a ?l ?c ?k; (case a => k_is); (case l => k_is); (case c => k_is); (case k => k_is)))
set_option maxRecDepth 100000 in
set_option maxHeartbeats 0 in
theorem PySem.Challenge.cw_leadersplice_k06_no_list_holds : PySem.Challenge.rw_leadersplice_k06_no_list.Holds := by
  w_on; o_law; k_head
  k_fill
  refine L2.walk_ofK (l := PySem.Challenge.rw_leadersplice_k06_no_list) (n := 63) (k := 35) (x := "_law_script") (CX := L2.CX0) (sp := K06.spLaw) rfl (by decide) rfl ⟨rfl, by decide, by decide⟩ (fun w h Y => PySem.W.kIn_of Y) ?F (fun K H a ns hl _ hS => ⟨a, ns, rfl, hS, hl, fun _ => rfl⟩) (fun _ _ _ _ z => z)
  case F =>
    intro w mg fa h KX G hmg
    have D : K06.DsIn (L2.KOf KX) := by
      refine ⟨?_, ?_, ?_, ?_, ?_, ?_, ?_, ?_, ?_, ?_, ?_, ?_, ?_, ?_, ?_, ?_, ?_, ?_, ?_, ?_, ?_, ?_, ?_, ?_, ?_, ?_, ?_⟩ <;> walk_at "own def"
    have Z : ∃ t, K06.NsIn (L2.KOf KX) t := by
      dsimp only [L2.KOf]
      refine' K06.ns_mk ?a0 ?a1 ?a2 ?a3 ?a4 ?a5 ?a6 ?e0 ?e1 ?e2 ?e3 ?e4 ?e5 ?e6 ?b0 ?b1 ?b2 ?b3 ?b4 ?b5 ?b6 ?b7 ?b8 ?b9 ?b10 ?b11
      (case a0 => k_is); (case a1 => k_is); (case a2 => k_is); (case a3 => k_is); (case a4 => k_is); (case a5 => k_is); (case a6 => k_is); (case e0 => kernel_rfl); (case e1 => kernel_rfl); (case e2 => kernel_rfl); (case e3 => kernel_rfl); (case e4 => kernel_rfl); (case e5 => kernel_rfl); (case e6 => kernel_rfl); (case b0 => k_is); (case b1 => k_is); (case b2 => k_is); (case b3 => k_is); (case b4 => k_is); (case b5 => k_is); (case b6 => k_is); (case b7 => k_is); (case b8 => k_is); (case b9 => k_is); (case b10 => k_is); (case b11 => k_is)
    have CC : ∃ c : K06.Cs, K06.CAll (L2.KOf KX) c := by
      dsimp only [L2.KOf]
      refine' K06.cs_mk ?xms ?xm0 ?xm1 ?xm2 ?xm3 ?xm4 ?xm5 ?xm6 ?xm7 ?xm8 ?xm9 ?xk4s ?xk4v ?xk40 ?xk41 ?xk42 ?xk43 ?xk44 ?xk45 ?xk46 ?xk47 ?xk48 ?xk49 ?xlS ?xlQ4 ?xhbS ?xhup4 ?xI4 ?xx4_word
      (case xms => k_is); (case xm0 => k_is); (case xm1 => k_is); (case xm2 => k_is); (case xm3 => k_is); (case xm4 => k_is); (case xm5 => k_is); (case xm6 => k_is); (case xm7 => k_is); (case xm8 => k_is); (case xm9 => k_is); (case xk4s => kernel_rfl); (case xk4v => kernel_rfl); (case xk40 => kernel_rfl); (case xk41 => kernel_rfl); (case xk42 => kernel_rfl); (case xk43 => kernel_rfl); (case xk44 => kernel_rfl); (case xk45 => kernel_rfl); (case xk46 => kernel_rfl); (case xk47 => kernel_rfl); (case xk48 => kernel_rfl); (case xk49 => kernel_rfl); (case xlS => k_is); (case xlQ4 => k_is); (case xhbS => kernel_rfl); (case xhup4 => kernel_rfl); (case xx4_word => k_is)
      case xI4 =>
        refine' L2.initIn_mk ?yhi ?yht ?yl ?ycc ?ykk ?ylC ?ytl ?yhcd ?yho ?yhdd ?ysa ?yhm ?yhmo ?yhga ?yhgn ?yhc ?yha ?yhn ?yhtk
        (case yhi => k_is); (case yht => k_is); (case yl => k_is); (case ycc => k_is); (case ykk => k_is); (case ylC => k_is); (case ytl => kernel_rfl); (case yhcd => k_is); (case yho => kernel_rfl); (case yhdd => kernel_rfl); (case ysa => k_is); (case yhm => k_is); (case yhmo => k_is); (case yhga => k_is); (case yhgn => k_is); (case yhc => kernel_rfl); (case yha => k_is); (case yhn => k_is); (case yhtk => k_is)
    obtain ⟨t, Z⟩ := Z
    exact K06.all_mk KX G hmg D Z CC
