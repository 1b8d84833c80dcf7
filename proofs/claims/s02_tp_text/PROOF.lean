import PyProof.Rows.All
import Wide.All
import OpenK.AllK
import Wide.FinOn
import PyProof.EqAt
import PyProof.EqKinds
import PyProof.TupleCall
import KE.BitLaws
import PySem.SetTable
import PySem.SetOps
import PyProof.TupleKey
import PyProof.SetKind
import PyProof.IsRules
import PyProof.Rows.SetFrom
import PyProof.FactsAll.set
import KE.KDictList
import KE.KSortTupG
import PyProof.Rows.SortWalk
import KE.OsGo
import Open.SpecLaws
import PySem.Challenge.RW_cutpieces_s02_tp_text
section
set_option Elab.async false
set_option linter.all false
set_option maxRecDepth 100000
/-! THE HAND LAYER, for ints, bools, texts, own classes, lists, tuples, dicts, comprehensions, walks over dicts, enumerate, zip, reversed, texts, calls, loops. Paste it whole ahead of your own text; what your proof does not reach may be deleted. -/
namespace L2
open PySem PySem.Spec PyProof.Rows

/-- a key: an int or a str -/
abbrev Key := Sum Int Str
def keyIs : Key → Value → Bool
  | .inl k, v => Value.isInt k v
  | .inr x, v => Value.isStrOf x v
def keyH (w : World) : Key → Int
  | .inl k => hashInt k
  | .inr x => hashStr w x
theorem keyIs_shape : ∀ {k : Key} {v : Value}, keyIs k v = true → (∃ i t, k = Sum.inl i ∧ v = Value.int i t) ∨ (∃ x t, k = Sum.inr x ∧ v = Value.str x t)
  | .inl i, v, h => by
    obtain ⟨t, e⟩ := Value.isInt_shape (k := i) (v := v) h
    exact .inl ⟨i, t, rfl, e⟩
  | .inr x, v, h => by
    obtain ⟨t, e⟩ := Value.isStrOf_shape (x := x) (v := v) h
    exact .inr ⟨x, t, rfl, e⟩
theorem keyIs_int (i : Int) (t : Tok) : keyIs (.inl i) (.int i t) = true := by simp [keyIs, Value.isInt]
theorem keyIs_str (x : Str) (t : Tok) : keyIs (.inr x) (.str x t) = true := by simp [keyIs, Value.isStrOf]
theorem key_ll (a b : Int) : decide ((Sum.inl a : Key) = Sum.inl b) = (a == b) := by
  by_cases e : a = b
  · subst e; simp
  · have h : ¬ (Sum.inl a : Key) = Sum.inl b := fun q => e (Sum.inl.inj q)
    rw [decide_eq_false h]
    exact (beq_eq_false_iff_ne.mpr e).symm
theorem key_rr (a b : Str) : decide ((Sum.inr a : Key) = Sum.inr b) = decide (a = b) := by
  by_cases e : a = b
  · subst e; simp
  · have h : ¬ (Sum.inr a : Key) = Sum.inr b := fun q => e (Sum.inr.inj q)
    rw [decide_eq_false h, decide_eq_false e]
theorem key_lr (a : Int) (b : Str) : decide ((Sum.inl a : Key) = Sum.inr b) = false := decide_eq_false (fun q => nomatch q)
theorem key_rl (a : Str) (b : Int) : decide ((Sum.inr a : Key) = Sum.inl b) = false := decide_eq_false (fun q => nomatch q)

def mixKind (prog : Program) (w : World) : PySem.KeyKind prog w Key where
  is := keyIs
  hash := keyH w
  inj := fun v a b ha hb => by
    rcases keyIs_shape ha with ⟨i, t, rfl, rfl⟩ | ⟨x, t, rfl, rfl⟩
    · rcases keyIs_shape hb with ⟨j, u, rfl, e⟩ | ⟨y, u, rfl, e⟩
      · injection e with e1 _; rw [e1]
      · exact nomatch e
    · rcases keyIs_shape hb with ⟨j, u, rfl, e⟩ | ⟨y, u, rfl, e⟩
      · exact nomatch e
      · injection e with e1 _; rw [e1]
  byValue := fun k v h => by
    rcases keyIs_shape h with ⟨i, t, rfl, rfl⟩ | ⟨x, t, rfl, rfl⟩ <;> rfl
  pyHash := fun hv h => by
    rcases keyIs_shape hv with ⟨i, t, rfl, rfl⟩ | ⟨x, t, rfl, rfl⟩
    · exact wpAny_pyHash_int h
    · exact wpAny_pyHash_str h
  eqBool := fun hu hv h => by
    rcases keyIs_shape hu with ⟨i, t, rfl, rfl⟩ | ⟨x, t, rfl, rfl⟩
    · rcases keyIs_shape hv with ⟨j, u, rfl, rfl⟩ | ⟨y, u, rfl, rfl⟩
      · rw [key_ll] at h; exact wpAny_eqBool_int h
      · rw [key_lr] at h; exact SeqAt.EqAt.int_str i t y u _ _ _ _ h
    · rcases keyIs_shape hv with ⟨j, u, rfl, rfl⟩ | ⟨y, u, rfl, rfl⟩
      · rw [key_rl] at h; exact SeqAt.EqAt.str_int x t j u _ _ _ _ h
      · rw [key_rr] at h; exact wpAny_eqBool_str h
  «strs» := fun k x t v h => by
    rcases keyIs_shape h with ⟨i, u, rfl, e⟩ | ⟨y, u, rfl, e⟩
    · exact nomatch e
    · injection e with e1 _
      subst e1
      cases v <;> rfl

theorem mixKind_int (prog : Program) (w : World) (i : Int) (t : Tok) : (mixKind prog w).is (.inl i) (.int i t) = true := keyIs_int i t
theorem mixKind_str (prog : Program) (w : World) (x : Str) (t : Tok) : (mixKind prog w).is (.inr x) (.str x t) = true := keyIs_str x t
end L2

namespace L2
open PySem PySem.Spec PyProof.Rows

/-- a value, without the heap -/
inductive V where
  | non | bl (b : Bool) | int (i : Int) | str (x : Str) | byt (b : Array UInt8) | flt (b : UInt64) | ref (a : Addr) | ty (n : String)
  deriving DecidableEq

def RelV : V → Value → Prop
  | .non, u => u = Value.none
  | .bl b, u => u = Value.bool b
  | .int i, u => ∃ t, u = Value.int i t
  | .str x, u => ∃ t, u = Value.str x t
  | .byt b, u => ∃ t, u = Value.bytes b t
  | .flt b, u => ∃ t, u = Value.float b t
  | .ref a, u => u = Value.ref a
  | .ty n, u => u = Value.type n

abbrev Vals : List V → List Value → Prop := Paired RelV
theorem Vals.length {xs : List V} {us : List Value} (r : Vals xs us) : xs.length = us.length := Paired.length r
theorem Vals.get : ∀ {xs : List V} {us : List Value} {i : Nat} {x : V}, Vals xs us → xs[i]? = some x → ∃ u, us[i]? = some u ∧ RelV x u
  | _, _, _, _, .nil, e => by simp at e
  | _, _, 0, _, .cons r _, e => by simp at e; subst e; exact ⟨_, rfl, r⟩
  | _, _, i + 1, x, .cons _ t, e => by
    obtain ⟨u, h1, h2⟩ := Vals.get (i := i) (x := x) t (by simpa using e)
    exact ⟨u, by simpa using h1, h2⟩
theorem Vals.set {x : V} {u : Value} (r : RelV x u) : ∀ {xs : List V} {us : List Value} (i : Nat), Vals xs us → Vals (xs.set i x) (us.set i u)
  | _, _, _, .nil => .nil
  | _, _, 0, .cons _ t => .cons r t
  | _, _, i + 1, .cons q t => .cons q (Vals.set r i t)
theorem Vals.append : ∀ {xs ys : List V} {us ws : List Value}, Vals xs us → Vals ys ws → Vals (xs ++ ys) (us ++ ws)
  | _, _, _, _, .nil, s => s
  | _, _, _, _, .cons r t, s => .cons r (Vals.append t s)
theorem Vals.take : ∀ {xs : List V} {us : List Value} (n : Nat), Vals xs us → Vals (xs.take n) (us.take n)
  | _, _, 0, _ => .nil
  | _, _, _ + 1, .nil => .nil
  | _, _, n + 1, .cons r t => .cons r (Vals.take n t)
theorem Vals.drop : ∀ {xs : List V} {us : List Value} (n : Nat), Vals xs us → Vals (xs.drop n) (us.drop n)
  | _, _, 0, r => r
  | _, _, _ + 1, .nil => .nil
  | _, _, n + 1, .cons _ t => Vals.drop n t

def RelO : Option V → Option Value → Prop
  | some v, some u => RelV v u
  | none, none => True
  | _, _ => False
def KV {κ : Type} : List (κ × V) → List (κ × Value) → Prop := Paired fun (p : κ × V) (q : κ × Value) => p.1 = q.1 ∧ RelV p.2 q.2

/-- a key of a dict (00_mix): an int or a text -/
def kV : Key → V
  | .inl i => .int i
  | .inr x => .str x

/-- what stands at a tracked address -/
inductive HO where
  /-- a list -/
  | lst (xs : List V)
  /-- a tuple (never changes) -/
  | tup (xs : List V)
  /-- a dict whose keys are ints and texts; one whose keys are tuples of ints and texts (the empty one is both) -/
  | dK (kvs : List (Key × V)) | dT (kvs : List (List Key × V))
  /-- a set of ints: its members, its size -/
  | set (S : Int → Bool) (n : Nat)
  /-- an instance of the class at C, its dict at dx, its attributes -/
  | ins (C dx : Addr) (fs : List (Str × V))
  /-- the dict of the instance at x -/
  | own (x : Addr)
  /-- the dict of an exception -/
  | xd (fs : List (Str × V))
  /-- a bound method, f of x -/
  | met (f x : Addr)
  /-- a range object lo, lo + 1, .. below hi -/
  | rng (lo hi : Int)
  /-- a thing that is known to the object (the script; a dict while a loop walks it): read, never written while it is so -/
  | frz (o : Obj) (u : HO)
  /-- a code object's table -/
  | tbl (ps : Array Value)
  /-- any other thing, by what is true of its one object (a def of one's own: SetO a S n := HO.ext fun h => ..) -/
  | ext (φ : Heap → Prop)

abbrev Hp := Addr → Option HO
def upd (H : Hp) (a : Addr) (o : HO) : Hp := fun b => if b = a then some o else H b
theorem upd_same {H : Hp} {a : Addr} {o : HO} : upd H a o a = some o := by unfold upd; rw [if_pos rfl]
theorem upd_ne {H : Hp} {a b : Addr} {o : HO} (h : b ≠ a) : upd H a o b = H b := by unfold upd; rw [if_neg h]
/-- two objects of different content stand apart -/
theorem ne_of {H : Hp} {a b : Addr} {o u : HO} (h : H a = some o) (h' : H b = some u) (d : o ≠ u) : a ≠ b := by
  intro e; subst e; rw [h] at h'; exact d (Option.some.inj h')
theorem ne_of_none {H : Hp} {a b : Addr} {o : HO} (h : H a = some o) (h' : H b = none) : a ≠ b := by
  intro e; subst e; rw [h] at h'; cases h'

section
variable (P : Program) (w : World)
def ObjOk (H : Hp) (h : Heap) (a : Addr) : HO → Prop
  | .lst xs => xs.length ≤ sizeLine ∧ ∃ (its : List Value) (n : Nat), Vals xs its ∧ h.get? a = some { cls := .type "list", data := .seq its.toArray n }
  | .tup xs => xs.length ≤ sizeLine ∧ ∃ its : List Value, Vals xs its ∧ IsTup h a its.toArray
  | .dK kvs => kvs.length ≤ sizeLine ∧ (a == sysModules) = false ∧ ∃ vs, KV kvs vs ∧ h.DictOf (mixKind P w) a vs
  | .dT kvs => kvs.length ≤ sizeLine ∧ (a == sysModules) = false ∧ ∃ xs : List (List Key × Addr × Value),
      Paired (fun (p : List Key × V) (q : List Key × Addr × Value) => p.1 = q.1 ∧ H q.2.1 = some (.tup (p.1.map kV)) ∧ RelV p.2 q.2.2) kvs xs ∧
      ∃ o es ep, h.get? a = some o ∧ o.ExactDict ∧ o.data = .dict es ep ∧ es.toList = xs.map (entryOfKey (tupleKind (mixKind P w))) ∧ (xs.map (·.1)).Nodup
  | .set S n => h.SetOf (intKind P w) a S n
  | .ins C dx fs => H dx = some (.own a) ∧ fs.length ≤ 1000 ∧ dx ≠ a ∧ h.get? a = some (PySem.W.instObj C dx) ∧
      ∃ mA, h.Ns1 dx mA ∧ (∀ f, RelO (fs.lookup f) (mA f)) ∧ PySem.Within mA (fs.map (·.1))
  | .own _ => ∃ o, h.get? a = some o
  | .xd fs => ∃ mA, h.Ns1 a mA ∧ ∀ f, RelO (fs.lookup f) (mA f)
  | .rng lo hi => ∃ t u v, h.get? a = some { cls := .type "range", data := .fields #[.int lo t, .int hi u, .int 1 v] }
  | .frz o u => h.get? a = some o ∧ ObjOk H h a u
  | .tbl ps => h.get? a = some { cls := .none, data := .fields ps }
  | .met f x => h.get? a = some (PySem.W.methodObj (.ref f) (.ref x))
  | .ext φ => φ h ∧ (∃ o, h.get? a = some o) ∧ ∀ h1 h2 : Heap, φ h1 → (∀ o, h1.get? a = some o → h2.get? a = some o) → φ h2
/-- the abstract heap is held -/
def HOk (H : Hp) (h : Heap) : Prop := ∀ a o, H a = some o → ObjOk P w H h a o
end

section
variable {P : Program} {w : World} {H H' : Hp} {h h' : Heap} {a : Addr} {o : HO}
theorem ObjOk.lt (x : ObjOk P w H h a o) : a < h.objs.size := by
  cases o with
  | lst xs => obtain ⟨_, _, _, _, e⟩ := x; exact Heap.lt_size e
  | tup xs => obtain ⟨_, _, _, p⟩ := x; exact p.lt
  | dK kvs => obtain ⟨_, _, _, _, o, _, _, e, _⟩ := x; exact Heap.lt_size e
  | dT kvs => obtain ⟨_, _, _, _, o, _, _, e, _⟩ := x; exact Heap.lt_size e
  | set S n => obtain ⟨o, _, _, _, e, _⟩ := x; exact Heap.lt_size e
  | ins C dx fs => obtain ⟨_, _, _, e, _⟩ := x; exact Heap.lt_size e
  | own y => obtain ⟨_, e⟩ := x; exact Heap.lt_size e
  | xd fs => obtain ⟨_, ⟨_, _, _, e, _⟩, _⟩ := x; exact Heap.lt_size e
  | rng lo hi => obtain ⟨_, _, _, e⟩ := x; exact Heap.lt_size e
  | frz ob u => obtain ⟨e, _⟩ := x; exact Heap.lt_size e
  | tbl ps => exact Heap.lt_size (show h.get? a = some _ from x)
  | met f y => exact Heap.lt_size (show h.get? a = some _ from x)
  | ext φ => obtain ⟨_, ⟨_, e⟩, _⟩ := x; exact Heap.lt_size e
theorem Paired.mapP {α β : Type} {F G : α → β → Prop} : ∀ {l₁ : List α} {l₂ : List β}, Paired F l₁ l₂ → (∀ a b, F a b → G a b) → Paired G l₁ l₂
  | _, _, .nil, _ => .nil
  | _, _, .cons r t, f => .cons (f _ _ r) (Paired.mapP t f)
/-- what an object's description leans on: its own object, its own dict, the tuples -/
theorem ObjOk.stay (x : ObjOk P w H h a o) (k : ∀ b u, (b = a ∨ H b = some (.own a)) → h.get? b = some u → h'.get? b = some u)
    (ho : ∀ b, H b = some (.own a) → H' b = some (.own a)) (ht : ∀ b xs, H b = some (.tup xs) → H' b = some (.tup xs)) : ObjOk P w H' h' a o := by
  induction o with
  | lst xs => obtain ⟨z, its, n, r, e⟩ := x; exact ⟨z, its, n, r, k _ _ (.inl rfl) e⟩
  | tup xs => obtain ⟨z, its, r, ob, e, c⟩ := x; exact ⟨z, its, r, ob, k _ _ (.inl rfl) e, c⟩
  | dK kvs => obtain ⟨z, y, vs, r, ob, es, ep, e, c⟩ := x; exact ⟨z, y, vs, r, ob, es, ep, k _ _ (.inl rfl) e, c⟩
  | dT kvs =>
    obtain ⟨z, y, xs, r, ob, es, ep, e, c⟩ := x
    exact ⟨z, y, xs, Paired.mapP r fun p q z => ⟨z.1, ht _ _ z.2.1, z.2.2⟩, ob, es, ep, k _ _ (.inl rfl) e, c⟩
  | set S n => obtain ⟨ob, es, ep, t, e, c⟩ := x; exact ⟨ob, es, ep, t, k _ _ (.inl rfl) e, c⟩
  | ins C dx fs =>
    obtain ⟨d, z, ne, e, mA, ⟨od, es, ep, e2, c⟩, r⟩ := x
    exact ⟨ho _ d, z, ne, k _ _ (.inl rfl) e, mA, ⟨od, es, ep, k _ _ (.inr d) e2, c⟩, r⟩
  | own y => obtain ⟨ob, e⟩ := x; exact ⟨ob, k _ _ (.inl rfl) e⟩
  | xd fs => obtain ⟨mA, ⟨od, es, ep, e, c⟩, r⟩ := x; exact ⟨mA, ⟨od, es, ep, k _ _ (.inl rfl) e, c⟩, r⟩
  | rng lo hi => obtain ⟨t, u, v, e⟩ := x; exact ⟨t, u, v, k _ _ (.inl rfl) e⟩
  | frz ob u ih => obtain ⟨e, q⟩ := x; exact ⟨k _ _ (.inl rfl) e, ih q⟩
  | tbl ps =>
    have e : h.get? a = some { cls := .none, data := .fields ps } := x
    show h'.get? a = some { cls := .none, data := .fields ps }
    exact k a _ (.inl rfl) e
  | met f y =>
    have e : h.get? a = some (PySem.W.methodObj (.ref f) (.ref y)) := x
    show h'.get? a = some (PySem.W.methodObj (.ref f) (.ref y))
    exact k a _ (.inl rfl) e
  | ext φ => obtain ⟨p, ⟨o, e⟩, st⟩ := x; exact ⟨st _ _ p fun o q => k _ _ (.inl rfl) q, ⟨o, k _ _ (.inl rfl) e⟩, st⟩
theorem HOk.lt (x : HOk P w H h) (e : H a = some o) : a < h.objs.size := (x a o e).lt
theorem HOk.fresh (x : HOk P w H h) (e : h.objs.size ≤ a) : H a = none := by
  cases q : H a with
  | none => rfl
  | some u => exact absurd (Nat.lt_of_lt_of_le (x.lt q) e) (Nat.lt_irrefl _)
/-- every object of the heap is kept -/
theorem HOk.kept (x : HOk P w H h) (k : ∀ b u, h.get? b = some u → h'.get? b = some u) : HOk P w H h' := fun a o e =>
  (x a o e).stay (fun b u _ q => k b u q) (fun _ q => q) fun _ _ q => q
/-- a new object is laid and tracked -/
theorem HOk.laid (x : HOk P w H h) (k : ∀ b u, h.get? b = some u → h'.get? b = some u) (hp : h.objs.size ≤ a) (new : ObjOk P w (upd H a o) h' a o) : HOk P w (upd H a o) h' := fun b u e => by
  have hn := x.fresh hp
  by_cases hb : b = a
  · subst hb; rw [upd_same] at e; cases e; exact new
  · rw [upd_ne hb] at e
    exact (x b u e).stay (fun c v _ q => k c v q) (fun c q => by rw [upd_ne (ne_of_none q hn)]; exact q) fun c xs q => by rw [upd_ne (ne_of_none q hn)]; exact q
end

/-- what may be read as u: it is u, or a known u -/
def Rd (H : Hp) (a : Addr) (u : HO) : Prop := H a = some u ∨ ∃ o, H a = some (.frz o u)
theorem Rd.ok {P : Program} {w : World} {H : Hp} {h : Heap} {a : Addr} {u : HO} (r : Rd H a u) (x : HOk P w H h) : ObjOk P w H h a u := by
  rcases r with r | ⟨o, r⟩
  · exact x a u r
  · obtain ⟨_, q⟩ := x a _ r
    exact q
/-- what may be written -/
def Mut : Option HO → Prop
  | some (.lst _) => True
  | some (.dK _) => True
  | some (.dT _) => True
  | some (.set _ _) => True
  | some (.ins _ _ _) => True
  | some (.ext _) => True
  | _ => False
section
variable {P : Program} {w : World} {H : Hp} {h h' : Heap} {x e : Addr} {o' : HO}
/-- the object at e is changed: x itself, or the dict of the instance x -/
theorem HOk.write (ok : HOk P w H h) (mu : Mut (H x)) (he : e = x ∨ H e = some (.own x)) (k : ∀ b u, b ≠ e → h.get? b = some u → h'.get? b = some u) (heo : ∃ u, h'.get? e = some u)
    (new : ObjOk P w (upd H x o') h' x o') : HOk P w (upd H x o') h' := fun b u q => by
  have nown : ∀ c y, H c = some (.own y) → c ≠ x := fun c y r z => by subst z; rw [r] at mu; exact mu
  have ntup : ∀ c xs, H c = some (.tup xs) → c ≠ x := fun c xs r z => by subst z; rw [r] at mu; exact mu
  by_cases hb : b = x
  · subst hb; rw [upd_same] at q; cases q; exact new
  · rw [upd_ne hb] at q
    by_cases hbe : b = e
    · have q' : H b = some (.own x) := by
        rcases he with z | z
        · exact absurd (hbe.trans z) hb
        · rw [hbe]; exact z
      rw [q] at q'; cases q'
      obtain ⟨v, hv⟩ := heo
      exact ⟨v, by rw [hbe]; exact hv⟩
    · refine (ok b u q).stay (fun c v hc r => k c v ?_ r) (fun c r => by rw [upd_ne (nown c b r)]; exact r) fun c xs r => by rw [upd_ne (ntup c xs r)]; exact r
      rcases hc with rfl | hc
      · exact hbe
      · rintro rfl
        rcases he with z | z
        · exact nown c b hc z
        · rw [hc] at z; cases z; exact hb rfl
end

/-! ### kept unless tracked; of the frames at fs (the callers') the slots may change (an exception that passes writes there); of the records at ex (iterators) nothing is said -/
structure Un (fs ex : List Addr) (H H' : Hp) (h h' : Heap) : Prop where
  keep : ∀ b o, h.get? b = some o → H b = none → b ∉ fs → b ∉ ex → h'.get? b = some o
  slot : ∀ b o, h.get? b = some o → H b = none → b ∈ fs → b ∉ ex → ∃ sl, h'.get? b = some { o with slots := sl }
  free : ∀ b o, h.get? b = some o → H b = none → b ∉ ex → H' b = none
  there : ∀ b o, h.get? b = some o → b ∉ ex → ∃ o', h'.get? b = some o'
  tups : ∀ b xs, H b = some (.tup xs) → H' b = some (.tup xs)
  frzs : ∀ b o u, H b = some (.frz o u) → H' b = some (.frz o u)
  tbls : ∀ b ps, H b = some (.tbl ps) → ∃ more, H' b = some (.tbl (ps ++ more))
section
variable {fs fs' ex ex' : List Addr} {H H1 H2 : Hp} {h h1 h2 h' : Heap} {a x e : Addr} {o : HO}
theorem Un.any (u : Un fs ex H H1 h h1) {b : Addr} {ob : Obj} (q : h.get? b = some ob) (n : H b = none) (hx : b ∉ ex) : ∃ sl, h1.get? b = some { ob with slots := sl } := by
  by_cases hb : b ∈ fs
  · exact u.slot b ob q n hb hx
  · exact ⟨ob.slots, u.keep b ob q n hb hx⟩
theorem Un.kept (k : ∀ b u, h.get? b = some u → h'.get? b = some u) : Un fs ex H H h h' :=
  ⟨fun b ob q _ _ _ => k b ob q, fun b ob q _ _ _ => ⟨ob.slots, k b ob q⟩, fun _ _ _ n _ => n, fun b ob q _ => ⟨ob, k b ob q⟩, fun _ _ q => q, fun _ _ _ q => q, fun _ ps q => ⟨#[], by rw [q]; simp⟩⟩
theorem Un.refl : Un fs ex H H h h := Un.kept fun _ _ q => q
theorem Un.laid (k : ∀ b u, h.get? b = some u → h'.get? b = some u) (hp : h.objs.size ≤ a) (hn : H a = none) : Un fs ex H (upd H a o) h h' where
  keep := fun b u q _ _ _ => k b u q
  slot := fun b u q _ _ _ => ⟨u.slots, k b u q⟩
  free := fun b u q n _ => by rw [upd_ne (Nat.ne_of_lt (Nat.lt_of_lt_of_le (Heap.lt_size q) hp))]; exact n
  there := fun b u q _ => ⟨u, k b u q⟩
  tups := fun b xs q => by rw [upd_ne (ne_of_none q hn)]; exact q
  frzs := fun b u xs q => by rw [upd_ne (ne_of_none q hn)]; exact q
  tbls := fun b ps q => ⟨#[], by rw [upd_ne (ne_of_none q hn), q]; simp⟩
theorem Un.write (mu : Mut (H x)) (he : e = x ∨ H e = some (.own x)) (k : ∀ b u, b ≠ e → h.get? b = some u → h'.get? b = some u) (heo : ∃ u, h'.get? e = some u) : Un fs ex H (upd H x o) h h' := by
  have hx : ∀ b, H b = none → b ≠ x := fun b n z => by subst z; rw [n] at mu; exact mu
  have hb : ∀ b, H b = none → b ≠ e := fun b n z => by
    subst z
    rcases he with r | r
    · exact hx b n r
    · rw [n] at r; cases r
  have hm : ∀ b u, H b = some u → ¬ Mut (some u) → b ≠ x := fun b u q nm z => by subst z; rw [q] at mu; exact nm mu
  refine ⟨fun b u q n _ _ => k b u (hb b n) q, fun b u q n _ _ => ⟨u.slots, k b u (hb b n) q⟩, fun b u q n _ => by rw [upd_ne (hx b n)]; exact n, fun b u q _ => ?_,
    fun b xs q => by rw [upd_ne (hm b _ q fun z => z)]; exact q, fun b u xs q => by rw [upd_ne (hm b _ q fun z => z)]; exact q, fun b ps q => ⟨#[], by rw [upd_ne (hm b _ q fun z => z), q]; simp⟩⟩
  by_cases hbe : b = e
  · subst hbe; exact heo
  · exact ⟨u, k b u hbe q⟩
end

/-! ### the heap without what is tracked -/
def trk (h : Heap) (H : Hp) : List Addr := (List.range h.objs.size).filter fun a => (H a).isSome
def hidT (h : Heap) (H : Hp) : Heap := PySem.W.hideAll h (trk h H)
theorem hidT_size (h : Heap) (H : Hp) : (hidT h H).objs.size = h.objs.size := PySem.W.hideAll_size _ _
theorem hidT_get {h : Heap} {H : Hp} {b : Addr} {o : Obj} (e : h.get? b = some o) (n : H b = none) : (hidT h H).get? b = some o :=
  PySem.W.hideAll_get _ e fun hm => by
    have q : (H b).isSome = true := (List.mem_filter.mp hm).2
    rw [n] at q; simp at q
theorem of_hidT {h : Heap} {H : Hp} {b : Addr} {o : Obj} (e : (hidT h H).get? b = some o) : h.get? b = some o ∧ H b = none := by
  have e' : h.get? b = some o := PySem.W.of_hideAll (trk h H) e
  refine ⟨e', ?_⟩
  cases q : H b with
  | none => rfl
  | some x =>
    have hm : b ∈ trk h H := List.mem_filter.mpr ⟨List.mem_range.mpr (Heap.lt_size e'), by simp [q]⟩
    have z : (hidT h H).get? b = none := PySem.W.hideAll_none (trk h H) hm
    rw [z] at e; cases e

/-! ### OpenK's ledger, filled with every new object but one -/
end L2

namespace L2
open PySem PySem.Spec PyProof.Rows

/-- the module's facts, over the base: the heap at the law's entry without what is tracked there -/
structure Mod (K : PySem.W.Frag) (mg : Str → Option Value) (base : Heap) : Prop where
  kin : K.In base
  glob : base.Ns mainGlobals mg
  blt : ∃ mb, base.Ns builtinsNs mb ∧ ∀ x : Str, x ≠ "__name__" → mb x = bootBuiltins x
  nolimit : base.NoLimit

/-- the context: a def's body (or a comprehension's block) running. base: fixed through the whole law; s₀, H₀: the entry; outer: the frames whose slots others may change (a def's callers); stack: all frames that run;
   ex: iterators that were made ahead of the entry and are walked here (a comprehension's); fn: the names whose cells were made at the entry (a def: all; a comprehension's block: its own); calm: not within an except suite; pn: pins that every state bears; xe: what is wanted of an exception that leaves the code -/
structure Cx where
  prog : Program
  w : World
  K : PySem.W.Frag
  mg : Str → Option Value
  base : Heap
  A : Around
  N : List Str
  s_0 : Shared
  H_0 : Hp
  env : Env
  outer : List Env
  stack : List Env
  ex : List Addr
  fn : Str → Bool
  calm : Bool
  pn : List (Addr × Obj)
  xe : Value → Shared → Prop
/-- the callers' frames -/
def frs (l : List Env) : List Addr := l.filterMap (·.frame)
abbrev Cx.fs (X : Cx) : List Addr := frs X.outer

def Vis (sc : Scope) (x : Str) : Prop := sc.names.lookup x = some .local ∨ sc.names.lookup x = some .cell ∨ sc.names.lookup x = some .free
def Loc (sc : Scope) (x : Str) : Prop := sc.names.lookup x = some .local ∨ sc.names.lookup x = some .cell
def Look (env : Env) (h : Heap) (m : Str → Option Value) (x : Str) (u : Value) : Prop :=
  (env.kindOf x = some .local ∧ m x = some u) ∨ ((env.kindOf x = some .cell ∨ env.kindOf x = some .free) ∧ ∃ c, env.cells.lookup x = some c ∧ h.IsCell c (some u))

structure Cx.Ok (X : Cx) : Prop where
  mod : Mod X.K X.mg X.base
  kind : X.env.scope.kind = .function
  glob : X.env.globals = mainGlobals
  blt : X.env.builtins = builtinsNs
  above : X.s_0.heap.objs.size ≤ X.env.locals
  inj : ∀ x y c, X.env.cells.lookup x = some c → X.env.cells.lookup y = some c → x = y
  has : ∀ x, (X.env.kindOf x = some .cell ∨ X.env.kindOf x = some .free) → ∃ c, X.env.cells.lookup x = some c
  cab : ∀ x c, X.fn x = true → X.env.cells.lookup x = some c → X.s_0.heap.objs.size ≤ c
  hd : X.calm = true → X.A.handled = none
  frames : X.A.frames = some X.stack
  stk : X.stack = X.outer ∨ (X.stack = X.env :: X.outer ∧ X.env.frame = some X.env.locals)
  exf : ∀ b ∈ X.ex, b ≠ X.env.locals ∧ ∀ x c, X.env.cells.lookup x = some c → c ≠ b
  bs : ∀ b o, X.base.get? b = some o → X.s_0.heap.get? b = some o ∧ X.H_0 b = none
  bsz : X.base.objs.size ≤ X.s_0.heap.objs.size
  noex : ∀ b o, X.base.get? b = some o → b ∉ X.ex
  exfs : ∀ b ∈ X.ex, b ∉ X.fs
  funs : X.s_0.heap.FunFrames X.base X.outer
  frf : ∀ b ∈ X.fs, X.H_0 b = none

structure Inv (X : Cx) (pins : List (Addr × Obj)) (σ : List (Option V)) (H : Hp) (s : Shared) : Prop where
  ok : X.Ok
  os : s.os = X.s_0.os
  bare : AllBare s.gens
  base : Un X.fs X.ex X.H_0 H X.s_0.heap s.heap
  loc : ∃ m, s.heap.Ns X.env.locals m ∧ ∀ (i : Nat) (x : Str) (v : V), X.N[i]? = some x → σ[i]? = some (some v) → Vis X.env.scope x → ∃ u, RelV v u ∧ Look X.env s.heap m x u
  cell : ∀ x c, X.env.cells.lookup x = some c → ∃ v, s.heap.IsCell c v
  free : H X.env.locals = none
  freeC : ∀ x c, X.env.cells.lookup x = some c → H c = none
  pin : ∀ p ∈ X.pn ++ pins, s.heap.get? p.1 = some p.2 ∧ H p.1 = none ∧ p.1 ≠ X.env.locals ∧ p.1 ∉ X.fs ∧ ∀ v, p.2.data ≠ .cell v
  hok : HOk X.prog X.w H s.heap
  len : σ.length = X.N.length

section
variable {X : Cx} {pins : List (Addr × Obj)} {σ : List (Option V)} {H H' : Hp} {s : Shared} {h' : Heap}

theorem Cx.Ok.nofr (ok : X.Ok) {b : Addr} {o : Obj} (e : X.base.get? b = some o) : b ∉ X.fs := fun hb => by
  have := (ok.funs.mem hb).1
  rw [e] at this; cases this
theorem Inv.bs (I : Inv X pins σ H s) : ∀ b o, X.base.get? b = some o → s.heap.get? b = some o ∧ H b = none := fun b o e =>
  ⟨I.base.keep b o (I.ok.bs b o e).1 (I.ok.bs b o e).2 (I.ok.nofr e) (I.ok.noex b o e), I.base.free b o (I.ok.bs b o e).1 (I.ok.bs b o e).2 (I.ok.noex b o e)⟩
theorem Inv.bk (I : Inv X pins σ H s) : ∀ b o, X.base.get? b = some o → s.heap.get? b = some o := fun b o e => (I.bs b o e).1
theorem Inv.mod (I : Inv X pins σ H s) : Mod X.K X.mg X.base := I.ok.mod
theorem Inv.kIn (I : Inv X pins σ H s) : X.K.In s.heap := I.ok.mod.kin.keeps I.bk
theorem Inv.lt (I : Inv X pins σ H s) : X.env.locals < s.heap.objs.size := let ⟨_, hn, _⟩ := I.loc; hn.lt
theorem Inv.sz (I : Inv X pins σ H s) : X.s_0.heap.objs.size ≤ s.heap.objs.size := Nat.le_trans I.ok.above (Nat.le_of_lt I.lt)
theorem Inv.nofs (I : Inv X pins σ H s) {a : Addr} (h : s.heap.objs.size ≤ a) : a ∉ X.fs := fun hb => by
  obtain ⟨_, o, ho, _⟩ := I.ok.funs.mem hb
  exact absurd (Nat.lt_of_lt_of_le (Heap.lt_size ho) (Nat.le_trans I.sz h)) (Nat.lt_irrefl _)
theorem Inv.cne (I : Inv X pins σ H s) : ∀ x c, X.env.cells.lookup x = some c → c ≠ X.env.locals := fun x c e z => by
  obtain ⟨v, o, ho, hd⟩ := I.cell x c e
  obtain ⟨m, ⟨o', es, ep, ho', hd', _⟩, _⟩ := I.loc
  rw [z, ho'] at ho; cases ho; rw [hd'] at hd; cases hd
theorem Inv.funs (I : Inv X pins σ H s) : s.heap.FunFrames X.base X.outer := by
  have all : ∀ (l : List Env), (∀ b ∈ frs l, b ∈ X.fs) → X.s_0.heap.FunFrames X.base l → s.heap.FunFrames X.base l := by
    intro l
    induction l with
    | nil => intro _ _; trivial
    | cons env r ih =>
      intro hs hl
      obtain ⟨hk, ⟨L, o, hf, hn, ho, hd⟩, hr⟩ := hl
      have hL : L ∈ X.fs := hs L (by unfold frs; rw [List.filterMap_cons, hf]; exact List.mem_cons_self)
      obtain ⟨sl, e⟩ := I.base.slot L o ho (I.ok.frf L hL) hL fun z => I.ok.exfs L z hL
      exact ⟨hk, ⟨L, _, hf, hn, e, hd⟩, ih (fun b hb => hs b (by unfold frs; rw [List.filterMap_cons, hf]; exact List.mem_cons_of_mem _ hb)) hr⟩
  exact all X.outer (fun _ hb => hb) I.ok.funs

/-- the frames that run, for a call -/
theorem Inv.stack (I : Inv X pins σ H s) : s.heap.FunFrames X.base X.stack := by
  rcases I.ok.stk with e | ⟨e, hf⟩
  · rw [e]; exact I.funs
  · rw [e]
    obtain ⟨m, hn, _⟩ := I.loc
    refine .cons (by rw [I.ok.kind]; decide) hf hn ?_ I.funs
    exact Heap.get?_none_of_le (Nat.le_trans I.ok.bsz I.ok.above)
theorem Inv.stkSub (I : Inv X pins σ H s) : ∀ b ∈ frs X.stack, b ∈ X.env.locals :: X.fs := fun b hb => by
  rcases I.ok.stk with e | ⟨e, hf⟩
  · rw [e] at hb; exact List.mem_cons_of_mem _ hb
  · rw [e] at hb
    unfold frs at hb
    rw [List.filterMap_cons, hf] at hb
    exact hb
theorem Inv.stkFree (I : Inv X pins σ H s) : ∀ b ∈ frs X.stack, H b = none := fun b hb => by
  rcases List.mem_cons.mp (I.stkSub b hb) with e | hb
  · rw [e]; exact I.free
  · obtain ⟨_, o, ho, _⟩ := I.ok.funs.mem hb
    exact I.base.free b o ho (I.ok.frf b hb) fun z => I.ok.exfs b z hb

/-- THE STEP: the untracked objects but the frame and the records at ch are kept (the callers' frames up to slots), the frame's map is kept, the new abstract heap is held -/
theorem Inv.step {g' : Array GenState} {t' : Nat} {d' : Drawn} {ch : List Addr} (I : Inv X pins σ H s)
    (hch : ∀ b ∈ ch, (b ∈ X.ex ∨ X.s_0.heap.objs.size ≤ b) ∧ b ≠ X.env.locals ∧ (∀ x c, X.env.cells.lookup x = some c → c ≠ b) ∧ ∀ p ∈ X.pn ++ pins, p.1 ≠ b)
    (keep : ∀ b o, b ≠ X.env.locals → b ∉ X.fs → b ∉ ch → s.heap.get? b = some o → H b = none → h'.get? b = some o)
    (slot : ∀ b o, b ≠ X.env.locals → b ∈ X.fs → b ∉ ch → s.heap.get? b = some o → H b = none → ∃ sl, h'.get? b = some { o with slots := sl }) (free : ∀ b o, b ∉ ch → s.heap.get? b = some o → H b = none → H' b = none)
    (there : ∀ b o, b ∉ ch → s.heap.get? b = some o → ∃ o', h'.get? b = some o')
    (tups : ∀ b xs, H b = some (.tup xs) → H' b = some (.tup xs)) (frzs : ∀ b o u, H b = some (.frz o u) → H' b = some (.frz o u)) (tbls : ∀ b ps, H b = some (.tbl ps) → ∃ more, H' b = some (.tbl (ps ++ more)))
    (ns : ∀ m, s.heap.Ns X.env.locals m → h'.Ns X.env.locals m) (hok : HOk X.prog X.w H' h') (hg : AllBare g') :
    Inv X pins σ H' { s with heap := h', gens := g', drawn := d', toks := t' } := by
  have neL : ∀ b o, X.s_0.heap.get? b = some o → b ≠ X.env.locals := fun b o e => Nat.ne_of_lt (Nat.lt_of_lt_of_le (Heap.lt_size e) I.ok.above)
  have neC : ∀ b o, X.s_0.heap.get? b = some o → b ∉ X.ex → b ∉ ch := fun b o e hx hb => by
    rcases (hch b hb).1 with z | z
    · exact hx z
    · exact absurd (Nat.lt_of_lt_of_le (Heap.lt_size e) z) (Nat.lt_irrefl _)
  have cellK : ∀ x c, X.env.cells.lookup x = some c → ∀ v, s.heap.IsCell c v → h'.IsCell c v := fun x c e v ⟨o, ho, hd⟩ => by
    have nch : c ∉ ch := fun z => (hch c z).2.2.1 x c e rfl
    by_cases hc : c ∈ X.fs
    · obtain ⟨sl, q⟩ := slot c o (I.cne x c e) hc nch ho (I.freeC x c e)
      exact ⟨_, q, hd⟩
    · exact ⟨o, keep c o (I.cne x c e) hc nch ho (I.freeC x c e), hd⟩
  refine ⟨I.ok, I.os, hg, ⟨fun b o e n hb hx => ?_, fun b o e n hb hx => ?_, fun b o e n hx => ?_, fun b o e hx => ?_, fun b xs e => tups b xs (I.base.tups b xs e), fun b o xs e => frzs b o xs (I.base.frzs b o xs e), fun b ps e => ?_⟩, ?_, fun x c e => ?_, ?_, fun x c e => ?_, fun p hp => ?_, hok, I.len⟩
  · exact keep b o (neL b o e) hb (neC b o e hx) (I.base.keep b o e n hb hx) (I.base.free b o e n hx)
  · obtain ⟨sl, e1⟩ := I.base.slot b o e n hb hx
    obtain ⟨sl', e2⟩ := slot b _ (neL b o e) hb (neC b o e hx) e1 (I.base.free b o e n hx)
    exact ⟨sl', e2⟩
  · obtain ⟨o', e1⟩ := I.base.there b o e hx
    exact free b o' (neC b o e hx) e1 (I.base.free b o e n hx)
  · obtain ⟨o', e1⟩ := I.base.there b o e hx
    exact there b o' (neC b o e hx) e1
  · obtain ⟨m1, e1⟩ := I.base.tbls b ps e
    obtain ⟨m2, e2⟩ := tbls b _ e1
    exact ⟨m1 ++ m2, by rw [e2, Array.append_assoc]⟩
  · obtain ⟨m, hn, hl⟩ := I.loc
    refine ⟨m, ns m hn, fun i x v e1 e2 e3 => ?_⟩
    obtain ⟨u, r, l⟩ := hl i x v e1 e2 e3
    refine ⟨u, r, ?_⟩
    rcases l with l | ⟨k, c, e, z⟩
    · exact .inl l
    · exact .inr ⟨k, c, e, cellK x c e _ z⟩
  · obtain ⟨v, z⟩ := I.cell x c e
    exact ⟨v, cellK x c e v z⟩
  · obtain ⟨m, ⟨o, _, _, ho, _⟩, _⟩ := I.loc
    exact free _ o (fun z => (hch _ z).2.1 rfl) ho I.free
  · obtain ⟨v, o, ho, hd⟩ := I.cell x c e
    exact free c o (fun z => (hch c z).2.2.1 x c e rfl) ho (I.freeC x c e)
  · obtain ⟨e, n, ne, nf, d⟩ := I.pin p hp
    have nch : p.1 ∉ ch := fun z => (hch p.1 z).2.2.2 p hp rfl
    exact ⟨keep p.1 p.2 ne nf nch e n, free p.1 p.2 nch e n, ne, nf, d⟩
/-- .. where the frame's own object is kept too -/
theorem Inv.un {t' : Nat} (I : Inv X pins σ H s) (u : Un X.fs [] H H' s.heap h') (hok : HOk X.prog X.w H' h') : Inv X pins σ H' { s with heap := h', toks := t' } := by
  obtain ⟨m, ⟨o, es, ep, ho, r⟩, _⟩ := id I.loc
  obtain ⟨sl, hL⟩ := u.any ho I.free (by simp)
  exact I.step (g' := s.gens) (d' := s.drawn) (ch := []) (fun _ z => nomatch z) (fun b o _ hb _ e n => u.keep b o e n hb (by simp)) (fun b o _ hb _ e n => u.slot b o e n hb (by simp)) (fun b o _ e n => u.free b o e n (by simp)) (fun b o _ e => u.there b o e (by simp)) u.tups u.frzs u.tbls (fun m' hm => by
    obtain ⟨o', es', ep', ho', r'⟩ := hm
    rw [ho] at ho'; cases ho'
    exact ⟨_, es', ep', hL, r'⟩) hok I.bare
/-- behind a call (or a comprehension's block): the slots of this frame may have changed too, the records at ch may have turned -/
theorem Inv.call {g' : Array GenState} {t' : Nat} {d' : Drawn} {ch : List Addr} (I : Inv X pins σ H s) (u : Un (frs X.stack) ch H H' s.heap h') (hok : HOk X.prog X.w H' h') (hg : AllBare g')
    (hch : ∀ b ∈ ch, (b ∈ X.ex ∨ X.s_0.heap.objs.size ≤ b) ∧ b ≠ X.env.locals ∧ (∀ x c, X.env.cells.lookup x = some c → c ≠ b) ∧ ∀ p ∈ X.pn ++ pins, p.1 ≠ b) :
    Inv X pins σ H' { s with heap := h', gens := g', drawn := d', toks := t' } := by
  obtain ⟨m, ⟨o, es, ep, ho, r⟩, _⟩ := id I.loc
  obtain ⟨sl, hL⟩ := u.any ho I.free fun z => (hch _ z).2.1 rfl
  exact I.step (ch := ch) hch (fun b o hL hb hc e n => u.keep b o e n (fun z => (List.mem_cons.mp (I.stkSub b z)).elim hL hb) hc) (fun b o _ _ hc e n => u.any e n hc) (fun b o hc e n => u.free b o e n hc) (fun b o hc e => u.there b o e hc) u.tups u.frzs u.tbls (fun m' hm => by
    obtain ⟨o', es', ep', ho', r'⟩ := hm
    rw [ho] at ho'; cases ho'
    exact ⟨_, es', ep', hL, r'⟩) hok hg
/-- an untracked record of ours (an iterator) has turned -/
theorem Inv.turned {t' : Nat} {it : Addr} (I : Inv X pins σ H s) (k : ∀ b o, b ≠ it → s.heap.get? b = some o → h'.get? b = some o) (hn : H it = none) (hL : it ≠ X.env.locals)
    (h1 : it ∈ X.ex ∨ X.s_0.heap.objs.size ≤ it) (h2 : ∀ x c, X.env.cells.lookup x = some c → c ≠ it) (h3 : ∀ p ∈ X.pn ++ pins, p.1 ≠ it) : Inv X pins σ H { s with heap := h', toks := t' } := by
  have nit : ∀ b u, H b = some u → b ≠ it := fun b u e z => by rw [z, hn] at e; cases e
  refine I.step (g' := s.gens) (d' := s.drawn) (ch := [it]) (fun b hb => ?_) (fun b o _ _ hc e _ => k b o (fun z => hc (by simp [z])) e) (fun b o _ _ hc e _ => ⟨o.slots, k b o (fun z => hc (by simp [z])) e⟩) (fun _ _ _ _ n => n)
    (fun b o hc e => ⟨o, k b o (fun z => hc (by simp [z])) e⟩) (fun _ _ e => e) (fun _ _ _ e => e) (fun b ps e => ⟨#[], by rw [e]; simp⟩) (fun m hm => ?_) (fun b u e => ?_) I.bare
  · have e : b = it := by simpa using hb
    subst e
    exact ⟨h1, hL, h2, h3⟩
  · obtain ⟨o, es, ep, ho, r⟩ := hm
    exact ⟨o, es, ep, k _ o (Ne.symm hL) ho, r⟩
  · refine (I.hok b u e).stay (fun c v hc q => k c v ?_ q) (fun _ q => q) fun _ _ q => q
    rcases hc with z | z
    · rw [z]; exact nit b u e
    · exact nit c _ z
theorem Inv.tok (I : Inv X pins σ H s) (t : Nat) : Inv X pins σ H { s with toks := t } := I.un (h' := s.heap) (t' := t) Un.refl I.hok
/-- all objects kept -/
theorem Inv.kept {t' : Nat} (I : Inv X pins σ H s) (k : ∀ b u, s.heap.get? b = some u → h'.get? b = some u) : Inv X pins σ H { s with heap := h', toks := t' } := I.un (Un.kept k) (I.hok.kept k)
/-- a new object laid and tracked -/
theorem Inv.laid {a : Addr} {o : HO} {t' : Nat} (I : Inv X pins σ H s) (k : ∀ b u, s.heap.get? b = some u → h'.get? b = some u) (hp : s.heap.objs.size ≤ a) (new : ObjOk X.prog X.w (upd H a o) h' a o) :
    Inv X pins σ (upd H a o) { s with heap := h', toks := t' } := I.un (Un.laid k hp (I.hok.fresh hp)) (I.hok.laid k hp new)
/-- an object written -/
theorem Inv.write {x e : Addr} {o : HO} {t' : Nat} (I : Inv X pins σ H s) (mu : Mut (H x)) (he : e = x ∨ H e = some (.own x)) (k : ∀ b u, b ≠ e → s.heap.get? b = some u → h'.get? b = some u) (heo : ∃ u, h'.get? e = some u)
    (new : ObjOk X.prog X.w (upd H x o) h' x o) : Inv X pins σ (upd H x o) { s with heap := h', toks := t' } := I.un (Un.write mu he k heo) (I.hok.write mu he k heo new)
/-- forgetting slots, pins -/
theorem Inv.weak {σ' : List (Option V)} (I : Inv X pins σ H s) (hl : σ'.length = σ.length) (w : ∀ (i : Nat) v, σ'[i]? = some (some v) → σ[i]? = some (some v)) : Inv X pins σ' H s :=
  ⟨I.ok, I.os, I.bare, I.base, let ⟨m, hn, hl'⟩ := I.loc; ⟨m, hn, fun i x v e1 e2 e3 => hl' i x v e1 (w i v e2) e3⟩, I.cell, I.free, I.freeC, I.pin, I.hok, hl.trans I.len⟩
theorem Inv.pins_of {pins' : List (Addr × Obj)} (I : Inv X pins σ H s) (h : ∀ p ∈ pins', s.heap.get? p.1 = some p.2 ∧ H p.1 = none ∧ p.1 ≠ X.env.locals ∧ p.1 ∉ X.fs ∧ ∀ v, p.2.data ≠ .cell v) : Inv X pins' σ H s :=
  ⟨I.ok, I.os, I.bare, I.base, I.loc, I.cell, I.free, I.freeC, fun p hp => (List.mem_append.mp hp).elim (fun z => I.pin p (List.mem_append_left _ z)) (h p), I.hok, I.len⟩

theorem nodup_ix {N : List Str} (hN : N.Nodup) {i j : Nat} {x : Str} (a : N[i]? = some x) (b : N[j]? = some x) : i = j := by
  obtain ⟨h1, e1⟩ := List.getElem?_eq_some_iff.mp a
  obtain ⟨h2, e2⟩ := List.getElem?_eq_some_iff.mp b
  exact (List.getElem_inj hN).mp (e1.trans e2.symm)

/-- a name is stored; what changed -/
theorem store_ok2 {M : Model} {A : Around} {E : Value → Shared → Prop} {i : Nat} {x : Str} {v : V} {u : Value} {Q : Unit → Shared → Prop} (I : Inv X pins σ H s) (hN : X.N.Nodup) (hi : X.N[i]? = some x) (hx : Loc X.env.scope x) (r : RelV v u)
    (h : ∀ s', Inv X pins (σ.set i (some v)) H s' → (∃ a, Heap.SameBut a s.heap s'.heap ∧ (a = X.env.locals ∨ X.env.cells.lookup x = some a)) → Q () s') (hf : X.fn x = true ∨ X.env.scope.names.lookup x = some .local := by first | exact .inl rfl | exact .inr rfl | assumption) : wpAny M A (storeName X.env x u) Q E s := by
  obtain ⟨m, hn, hl⟩ := id I.loc
  have hcls : (X.env.scope.kind == .class || (X.env.scope.kind == .module && X.env.locals != X.env.globals)) = false := by rw [I.ok.kind]; rfl
  have hiσ : i < σ.length := by rw [I.len]; exact (List.getElem?_eq_some_iff.mp hi).1
  have cne := I.cne
  have tracked : ∀ {a : Addr} {h' : Heap}, (∃ o, s.heap.get? a = some o ∧ H a = none) → Heap.SameBut a s.heap h' → HOk X.prog X.w H h' := fun {a h'} ha hs b ob e => by
    obtain ⟨_, _, hfree⟩ := ha
    refine (I.hok b ob e).stay (fun c w' hc q => (hs.2 c ?_).trans q) (fun _ q => q) fun _ _ q => q
    rintro rfl
    rcases hc with rfl | hc
    · rw [hfree] at e; cases e
    · rw [hfree] at hc; cases hc
  rcases hx with hk | hk
  · refine wpAny_storeName_local hk hn (fun h' hn' hs => ?_) hcls
    obtain ⟨oL, _, _, hoL, _⟩ := id hn
    refine h _ ⟨I.ok, I.os, I.bare, ⟨fun b o e n hb hx => ?_, fun b o e n hb hx => ?_, I.base.free, fun b o e hx => ?_, I.base.tups, I.base.frzs, I.base.tbls⟩, ⟨_, hn', fun j y v' e1 e2 e3 => ?_⟩, fun y c e => ?_, I.free, I.freeC, fun p hp => ?_, tracked ⟨oL, hoL, I.free⟩ hs, by simpa using I.len⟩ ⟨_, hs, .inl rfl⟩
    · exact (hs.2 b (Nat.ne_of_lt (Nat.lt_of_lt_of_le (Heap.lt_size e) I.ok.above))).trans (I.base.keep b o e n hb hx)
    · obtain ⟨sl, e1⟩ := I.base.slot b o e n hb hx
      exact ⟨sl, (hs.2 b (Nat.ne_of_lt (Nat.lt_of_lt_of_le (Heap.lt_size e) I.ok.above))).trans e1⟩
    · obtain ⟨o', e1⟩ := I.base.there b o e hx
      exact ⟨o', (hs.2 b (Nat.ne_of_lt (Nat.lt_of_lt_of_le (Heap.lt_size e) I.ok.above))).trans e1⟩
    · by_cases hj : j = i
      · subst hj
        rw [hi] at e1; cases e1
        rw [List.getElem?_set_self hiσ] at e2
        cases e2
        exact ⟨u, r, .inl ⟨hk, by simp⟩⟩
      · rw [List.getElem?_set_ne (Ne.symm hj)] at e2
        obtain ⟨u', r', q⟩ := hl j y v' e1 e2 e3
        refine ⟨u', r', ?_⟩
        rcases q with ⟨k, e⟩ | ⟨k, c, e, z⟩
        · refine .inl ⟨k, ?_⟩
          have : y ≠ x := fun e => hj (nodup_ix hN e1 (e ▸ hi))
          simp [this, e]
        · exact .inr ⟨k, c, e, z.sameBut hs (cne y c e)⟩
    · obtain ⟨w', z⟩ := I.cell y c e
      exact ⟨w', z.sameBut hs (cne y c e)⟩
    · obtain ⟨e, n, ne, nf, d⟩ := I.pin p hp
      exact ⟨(hs.2 p.1 ne).trans e, n, ne, nf, d⟩
  · have hfn : X.fn x = true := by
      rcases hf with z | z
      · exact z
      · rw [z] at hk; cases hk
    obtain ⟨c, hc⟩ := I.ok.has x (.inl hk)
    obtain ⟨w', z⟩ := I.cell x c hc
    refine wpAny_storeName_cell I.ok.kind hk hc z (fun h' hc' hs => ?_)
    obtain ⟨oc, hoc, hocd⟩ := id z
    refine h { s with heap := h' } ⟨I.ok, I.os, I.bare, ⟨fun b o e n hb hx => ?_, fun b o e n hb hx => ?_, I.base.free, fun b o e hx => ?_, I.base.tups, I.base.frzs, I.base.tbls⟩, ⟨m, hn.sameBut hs (Ne.symm (cne x c hc)), fun j y v' e1 e2 e3 => ?_⟩, fun y c' e => ?_, I.free, I.freeC, fun p hp => ?_, tracked ⟨oc, hoc, I.freeC x c hc⟩ hs, by simpa using I.len⟩ ⟨c, hs, .inr hc⟩
    · exact (hs.2 b (Nat.ne_of_lt (Nat.lt_of_lt_of_le (Heap.lt_size e) (I.ok.cab x c hfn hc)))).trans (I.base.keep b o e n hb hx)
    · obtain ⟨sl, e1⟩ := I.base.slot b o e n hb hx
      exact ⟨sl, (hs.2 b (Nat.ne_of_lt (Nat.lt_of_lt_of_le (Heap.lt_size e) (I.ok.cab x c hfn hc)))).trans e1⟩
    · obtain ⟨o', e1⟩ := I.base.there b o e hx
      exact ⟨o', (hs.2 b (Nat.ne_of_lt (Nat.lt_of_lt_of_le (Heap.lt_size e) (I.ok.cab x c hfn hc)))).trans e1⟩
    · by_cases hj : j = i
      · subst hj
        rw [hi] at e1; cases e1
        rw [List.getElem?_set_self hiσ] at e2
        cases e2
        exact ⟨u, r, .inr ⟨.inl hk, c, hc, hc'⟩⟩
      · rw [List.getElem?_set_ne (Ne.symm hj)] at e2
        obtain ⟨u', r', q⟩ := hl j y v' e1 e2 e3
        refine ⟨u', r', ?_⟩
        rcases q with q | ⟨k, c', e, z'⟩
        · exact .inl q
        · refine .inr ⟨k, c', e, z'.sameBut hs ?_⟩
          rintro rfl
          exact hj (nodup_ix hN e1 (I.ok.inj _ _ _ e hc ▸ hi))
    · by_cases hcc : c' = c
      · subst hcc; exact ⟨_, hc'⟩
      · obtain ⟨w2, z2⟩ := I.cell y c' e
        exact ⟨w2, z2.sameBut hs hcc⟩
    · obtain ⟨e, n, ne, nf, d⟩ := I.pin p hp
      refine ⟨(hs.2 p.1 ?_).trans e, n, ne, nf, d⟩
      intro q
      rw [q, hoc] at e
      have q' : oc = p.2 := Option.some.inj e
      exact d w' (by rw [← q']; exact hocd)
theorem store_ok {M : Model} {A : Around} {E : Value → Shared → Prop} {i : Nat} {x : Str} {v : V} {u : Value} {Q : Unit → Shared → Prop} (I : Inv X pins σ H s) (hN : X.N.Nodup) (hi : X.N[i]? = some x) (hx : Loc X.env.scope x) (r : RelV v u)
    (h : ∀ s', Inv X pins (σ.set i (some v)) H s' → Q () s') (hf : X.fn x = true ∨ X.env.scope.names.lookup x = some .local := by first | exact .inl rfl | exact .inr rfl | assumption) : wpAny M A (storeName X.env x u) Q E s :=
  store_ok2 I hN hi hx r (fun s' I' _ => h s' I') hf
/-- behind a call or a block, the state as it is -/
theorem Inv.call' {s' : Shared} {ch : List Addr} (I : Inv X pins σ H s) (ho : s'.os = s.os) (u : Un (frs X.stack) ch H H' s.heap s'.heap) (hok : HOk X.prog X.w H' s'.heap) (hg : AllBare s'.gens)
    (hch : ∀ b ∈ ch, (b ∈ X.ex ∨ X.s_0.heap.objs.size ≤ b) ∧ b ≠ X.env.locals ∧ (∀ x c, X.env.cells.lookup x = some c → c ≠ b) ∧ ∀ p ∈ X.pn ++ pins, p.1 ≠ b) : Inv X pins σ H' s' := by
  obtain ⟨h', g', d', t', o'⟩ := s'
  have e : o' = s.os := ho
  subst e
  exact I.call (g' := g') (t' := t') (d' := d') u hok hg hch
end

/-! ### the judgements -/
/-- an exception: its class, its own dict's address (where it has one), the abstract heap behind it -/
abbrev XK := Value → Option Addr → Hp → Prop
abbrev St := List (Option V)
abbrev VK := V → Hp → Prop
/-- an expression's reading; a test's; an argument list's -/
abbrev TE := St → Hp → VK → Prop
abbrev TT := St → Hp → (Bool → Hp → Prop) → Prop
abbrev TA := St → Hp → (List V → Hp → Prop) → Prop
/-- what is wanted behind a statement -/
structure Ends where
  nx : St → Hp → Prop
  rt : VK
  bk : St → Hp → Prop := fun _ _ => False
  ct : St → Hp → Prop := fun _ _ => False
abbrev TS := Ends → St → Hp → Prop

def EP (X : Cx) (pins : List (Addr × Obj)) (σ : St) (Q : VK) (u : Value) (s' : Shared) : Prop := ∃ v H', Inv X pins σ H' s' ∧ RelV v u ∧ Q v H'
def TP (X : Cx) (pins : List (Addr × Obj)) (σ : St) (Q : Bool → Hp → Prop) (b : Bool) (s' : Shared) : Prop := ∃ H', Inv X pins σ H' s' ∧ Q b H'
def AP (X : Cx) (pins : List (Addr × Obj)) (σ : St) (Q : List V → Hp → Prop) (us : List Value) (s' : Shared) : Prop := ∃ vs H', Inv X pins σ H' s' ∧ Vals vs us ∧ Q vs H'
def SP (X : Cx) (pins : List (Addr × Obj)) (D : Ends) (f : Flow) (s' : Shared) : Prop :=
  match f with
  | .next => ∃ σ' H', Inv X pins σ' H' s' ∧ D.nx σ' H'
  | .brk => ∃ σ' H', Inv X pins σ' H' s' ∧ D.bk σ' H'
  | .cont => ∃ σ' H', Inv X pins σ' H' s' ∧ D.ct σ' H'
  | .ret u => ∃ v σ' H', Inv X pins σ' H' s' ∧ RelV v u ∧ D.rt v H'

def PE (X : Cx) (e : Expr) (t : TE) : Prop :=
  ∀ (pins : List (Addr × Obj)) (s : Shared) (σ : St) (H : Hp) (Q : VK), Inv X pins σ H s → t σ H Q → wpAny (model X.prog X.w) X.A (eval e X.env) (EP X pins σ Q) X.xe s
def PT (X : Cx) (e : Expr) (t : TT) : Prop :=
  ∀ (pins : List (Addr × Obj)) (s : Shared) (σ : St) (H : Hp) (Q : Bool → Hp → Prop), Inv X pins σ H s → t σ H Q → wpAny (model X.prog X.w) X.A (isTrue e X.env (eval e X.env)) (TP X pins σ Q) X.xe s
/-- a test whatever its 'whole' is (and, or) -/
def PW (X : Cx) (e : Expr) (t : TT) : Prop :=
  ∀ (whole : Sem Value) (pins : List (Addr × Obj)) (s : Shared) (σ : St) (H : Hp) (Q : Bool → Hp → Prop), Inv X pins σ H s → t σ H Q → wpAny (model X.prog X.w) X.A (isTrue e X.env whole) (TP X pins σ Q) X.xe s
theorem PW.pt {X : Cx} {e : Expr} {t : TT} (h : PW X e t) : PT X e t := h _
/-- an argument list (no star), from the left -/
def PA (X : Cx) (es : List Expr) (t : TA) : Prop :=
  ∀ (pos : Pos) (pins : List (Addr × Obj)) (s : Shared) (σ : St) (H : Hp) (Q : List V → Hp → Prop), Inv X pins σ H s → t σ H Q → wpAny (model X.prog X.w) X.A (spliced (backTo pos (starEach es X.env))) (AP X pins σ Q) X.xe s
def PS (X : Cx) (st : Stmt) (t : TS) : Prop :=
  ∀ (pins : List (Addr × Obj)) (s : Shared) (σ : St) (H : Hp) (D : Ends), Inv X pins σ H s → t D σ H → wpAny (model X.prog X.w) X.A (exec st X.env) (SP X pins D) X.xe s
def PSs (X : Cx) (st : List Stmt) (t : TS) : Prop :=
  ∀ (pins : List (Addr × Obj)) (s : Shared) (σ : St) (H : Hp) (D : Ends), Inv X pins σ H s → t D σ H → wpAny (model X.prog X.w) X.A (execs st X.env) (SP X pins D) X.xe s
/-- weaken the end -/
theorem thn {α : Type} {t : Sem α} {Q Q' : α → Shared → Prop} {M : Model} {A : Around} {E : Value → Shared → Prop} {s : Shared} (h : wpAny M A t Q E s) (hQ : ∀ a s, Q a s → Q' a s) : wpAny M A t Q' E s := wpAny_mono h hQ fun _ _ x => x
end L2

namespace L2
open PySem PySem.Spec PyProof.Rows
section
variable {X : Cx}

/-! ### names and constants -/
def tVar (i : Nat) : TE := fun σ H Q => ∃ v, σ[i]? = some (some v) ∧ Q v H
def tC (v : V) : TE := fun _ H Q => Q v H
theorem pe_var {i : Nat} {x : Str} {pos : Pos} (hN : X.N[i]? = some x) (hv : Vis X.env.scope x) (hd : (x == ("__debug__" : Str)) = false := by decide) (hcd : (x == ("__classdict__" : Str)) = false := by decide) : PE X (.Name x pos) (tVar i) := by
  intro pins s σ H Q I h
  obtain ⟨v, e, h⟩ := h
  obtain ⟨m, hn, hl⟩ := I.loc
  obtain ⟨u, r, l⟩ := hl i x v hN e hv
  have fin : EP X pins σ Q u s := ⟨v, H, I, r, h⟩
  rcases l with ⟨hk, hm⟩ | ⟨hk, c, hc, hcell⟩
  · exact wpAny_Name (wpAny_loadName_local I.ok.kind hk hn hm fin) hd
  · rcases hk with hk | hk
    · exact wpAny_Name (wpAny_loadName_cell I.ok.kind hk hc hcell fin) hd
    · exact wpAny_Name (wpAny_loadName_free I.ok.kind hk hc hcell fin hcd) hd
theorem pe_int {i j pos} : PE X (.Constant (.int i) j pos) (tC (.int i)) := fun _ _ _ H _ I h => wpAny_Constant_int ⟨.int i, H, I.tok _, ⟨_, rfl⟩, h⟩
theorem pe_bl {b j pos} : PE X (.Constant (.bool b) j pos) (tC (.bl b)) := fun _ _ _ H _ I h => Constant_bool ⟨.bl b, H, I, rfl, h⟩

/-- a global name of the def -/
def Gl (X : Cx) (x : Str) : Prop := X.env.kindOf x = some .globalImplicit
theorem ld_glob {E : Value → Shared → Prop} {pins : List (Addr × Obj)} {s : Shared} {σ : St} {H : Hp} {x : Str} {u : Value} {pos : Pos} {Q : Value → Shared → Prop} (I : Inv X pins σ H s) (hg : Gl X x) (hm : X.mg x = some u) (h : Q u s)
    (hd : (x == ("__debug__" : Str)) = false := by decide) : wpAny (model X.prog X.w) X.A (eval (.Name x pos) X.env) Q E s :=
  Calls.Name_function_global I.ok.kind hg (Calls.loadGlobal_global (by rw [I.ok.glob]; exact I.mod.glob.keeps I.bk) hm h) hd
theorem ld_blt {E : Value → Shared → Prop} {pins : List (Addr × Obj)} {s : Shared} {σ : St} {H : Hp} {x : Str} {u : Value} {pos : Pos} {Q : Value → Shared → Prop} (I : Inv X pins σ H s) (hg : Gl X x) (hm : X.mg x = none) (hv : bootBuiltins x = some u) (h : Q u s)
    (hn : x ≠ "__name__" := by decide) (hd : (x == ("__debug__" : Str)) = false := by decide) : wpAny (model X.prog X.w) X.A (eval (.Name x pos) X.env) Q E s := by
  obtain ⟨mb, h1, h2⟩ := I.mod.blt
  exact Calls.Name_function_global I.ok.kind hg (Calls.loadGlobal_builtin (by rw [I.ok.glob]; exact I.mod.glob.keeps I.bk) hm (by rw [I.ok.blt]; exact h1.keeps I.bk) ((h2 x hn).trans hv) h) hd
/-- a module's constant, a class, a function, as a value -/
theorem pe_glob {x : Str} {v : V} {u : Value} {pos : Pos} (hg : Gl X x) (hm : X.mg x = some u) (r : RelV v u) (hd : (x == ("__debug__" : Str)) = false := by decide) : PE X (.Name x pos) (tC v) :=
  fun _ _ _ H _ I h => ld_glob I hg hm ⟨v, H, I, r, h⟩ hd

/-! ### arithmetic -/
variable {a b : Expr} {ta tb : TE} {pos : Pos}

/-! ### comparisons -/
/-- a comparison as a value, as a test -/
def tB (t : TE) : TT := fun σ H Q => t σ H fun x H1 => ∃ c, x = .bl c ∧ Q c H1
/-- an expression whose value is a bool, as a test -/
theorem pt_val {e : Expr} {t : TE} (h : PE X e t) (he : ∀ whole, isTrue e X.env whole = (do let v ← whole; standAt e.pos; holding [v] (truthy v)) := by intro _; rfl) : PT X e (tB t) := by
  intro pins s σ H Q I hw
  refine isTrue_plain (thn (h pins s σ H _ I hw) fun v s1 ⟨x, H1, I1, r1, q1⟩ => ?_) (he _)
  obtain ⟨d, rfl, q⟩ := q1
  cases r1
  exact wpAny_truthy_bool ⟨H1, I1, q⟩

/-! ### and, or, not -/
variable {tA tB' : TT} {rest : List Expr}
def tOr (t u : TT) : TT := fun σ H Q => t σ H fun c H1 => if c = true then Q true H1 else u σ H1 Q
def tNot (t : TT) : TT := fun σ H Q => t σ H fun c H1 => Q (!c) H1
theorem pw_or1 (ha : PT X a tA) : PW X (.BoolOp .Or [a] pos) tA := by
  intro wh pins s σ H Q I h
  refine isTrue_or (thn (ha pins s σ H Q I h) fun c s1 e => ?_)
  cases c with
  | false => exact isTrue_or_nil e
  | true => exact e
theorem pw_or (ha : PT X a tA) (hb : PW X (.BoolOp .Or (b :: rest) pos) tB') : PW X (.BoolOp .Or (a :: b :: rest) pos) (tOr tA tB') := by
  intro wh pins s σ H Q I h
  refine isTrue_or (thn (ha pins s σ H _ I h) fun c s1 ⟨H1, I1, q1⟩ => ?_)
  cases c with
  | true => exact ⟨H1, I1, q1⟩
  | false => exact hb wh pins s1 σ H1 Q I1 q1
theorem pt_not (ha : PT X a tA) : PT X (.UnaryOp .Not a pos) (tNot tA) := by
  intro pins s σ H Q I h
  exact isTrue_not (ha pins s σ H (fun c H1 => Q (!c) H1) I h)
/-- .. as values (bools) -/
def tAndV (ta tb : TE) : TE := fun σ H Q => ta σ H fun x H1 => ∃ c, x = .bl c ∧ if c = true then tb σ H1 Q else Q (.bl false) H1
theorem pe_one {op} {t : TE} (h : PE X a t) : PE X (.BoolOp op [a] pos) t := fun pins s σ H Q I hw => BoolOp_one (h pins s σ H Q I hw)
theorem pe_and (ha : PE X a ta) (hb : PE X (.BoolOp .And (b :: rest) pos) tb) : PE X (.BoolOp .And (a :: b :: rest) pos) (tAndV ta tb) := by
  intro pins s σ H Q I h
  refine BoolOp_and (thn (ha pins s σ H _ I h) fun v s1 ⟨x, H1, I1, r1, q1⟩ => ?_)
  obtain ⟨c, rfl, q1⟩ := q1
  cases r1
  refine wpAny_truthy_bool ?_
  cases c with
  | true => exact hb pins s1 σ H1 Q I1 q1
  | false => exact ⟨.bl false, H1, I1, rfl, q1⟩
/-- a if t else b -/
def tIf (t : TT) (ta tb : TE) : TE := fun σ H Q => t σ H fun c H1 => if c = true then ta σ H1 Q else tb σ H1 Q
theorem pe_ifExp {c : Expr} (hc : PT X c tA) (ha : PE X a ta) (hb : PE X b tb) : PE X (.IfExp c a b pos) (tIf tA ta tb) := by
  intro pins s σ H Q I h
  refine wpAny_IfExp (thn (hc pins s σ H _ I h) fun d s1 ⟨H1, I1, q1⟩ => ?_)
  cases d with
  | true => exact ha pins s1 σ H1 Q I1 q1
  | false => exact hb pins s1 σ H1 Q I1 q1
end
end L2

namespace L2
open PySem PySem.Spec PyProof.Rows

/-! ### a list, a tuple that is read: tracked, frozen, or an object of the module -/
def SqL (K : PySem.W.Frag) (H : Hp) (a : Addr) (xs : List V) : Prop :=
  Rd H a (.lst xs) ∨
    ∃ (o : Obj) (its : Array Value) (n : Nat), K.lookup a = some o ∧ o.cls = .type "list" ∧ o.dict = none ∧ o.data = .seq its n ∧ its.size ≤ sizeLine ∧ Vals xs its.toList
def SqT (K : PySem.W.Frag) (H : Hp) (a : Addr) (xs : List V) : Prop :=
  Rd H a (.tup xs) ∨
    ∃ (o : Obj) (its : Array Value) (n : Nat), K.lookup a = some o ∧ o.cls = .type "tuple" ∧ o.data = .seq its n ∧ its.size ≤ sizeLine ∧ Vals xs its.toList
def absV : Value → Option V
  | .none => some .non
  | .bool b => some (.bl b)
  | .int i _ => some (.int i)
  | .str x _ => some (.str x)
  | .bytes b _ => some (.byt b)
  | .float b _ => some (.flt b)
  | .ref a => some (.ref a)
  | .type n => some (.ty n)
  | _ => none
theorem RelV.abs {x : V} {u : Value} (r : RelV x u) : absV u = some x := by
  cases x with
  | non => cases r; rfl
  | bl _ => cases r; rfl
  | int _ => obtain ⟨t, rfl⟩ := r; rfl
  | str _ => obtain ⟨t, rfl⟩ := r; rfl
  | byt _ => obtain ⟨t, rfl⟩ := r; rfl
  | flt _ => obtain ⟨t, rfl⟩ := r; rfl
  | ref _ => cases r; rfl
  | ty _ => cases r; rfl
theorem RelV.inj {x y : V} {u : Value} (r : RelV x u) (q : RelV y u) : x = y := Option.some.inj (r.abs.symm.trans q.abs)
theorem Vals.inj : ∀ {xs ys : List V} {us : List Value}, Vals xs us → Vals ys us → xs = ys
  | _, _, _, .nil, .nil => rfl
  | _, _, _, .cons r t, .cons r' t' => by rw [r.inj r', Vals.inj t t']
section
variable {X : Cx} {pins : List (Addr × Obj)} {σ : St} {H : Hp} {s : Shared} {a : Addr} {xs ys : List V}
theorem SqL.of {K : PySem.W.Frag} (h : H a = some (.lst xs)) : SqL K H a xs := .inl (.inl h)
theorem SqT.of {K : PySem.W.Frag} (h : H a = some (.tup xs)) : SqT K H a xs := .inl (.inl h)
theorem Inv.list (I : Inv X pins σ H s) (h : SqL X.K H a xs) : ∃ its : List Value, Vals xs its ∧ PlainL s.heap a its.toArray ∧ xs.length ≤ sizeLine := by
  rcases h with h | ⟨o, its, n, hk, hc, hd, hs, hz, r⟩
  · obtain ⟨z, its, n, r, e⟩ := h.ok I.hok
    exact ⟨its, r, ⟨_, n, e, rfl, rfl, rfl⟩, z⟩
  · refine ⟨its.toList, r, ⟨o, n, I.kIn a o hk, hc, hd, by simpa using hs⟩, ?_⟩
    have e := r.length
    simp only [Array.length_toList] at e
    omega
theorem Inv.tuple (I : Inv X pins σ H s) (h : SqT X.K H a xs) : ∃ its : List Value, Vals xs its ∧ IsTup s.heap a its.toArray ∧ xs.length ≤ sizeLine := by
  rcases h with h | ⟨o, its, n, hk, hc, hs, hz, r⟩
  · obtain ⟨z, its, r, p⟩ := h.ok I.hok
    exact ⟨its, r, p, z⟩
  · refine ⟨its.toList, r, ⟨o, I.kIn a o hk, hc, n, by simpa using hs⟩, ?_⟩
    have e := r.length
    simp only [Array.length_toList] at e
    omega
theorem Inv.list_inj (I : Inv X pins σ H s) (h : SqL X.K H a xs) (h' : SqL X.K H a ys) : xs = ys := by
  obtain ⟨its, r, ⟨o, n, e, _, _, d⟩, _⟩ := I.list h
  obtain ⟨its', r', ⟨o', n', e', _, _, d'⟩, _⟩ := I.list h'
  rw [e] at e'; cases e'
  rw [d] at d'
  injection d' with d1 _
  have : its = its' := by simpa using congrArg Array.toList d1
  subst this
  exact r.inj r'
end

/-! ### another wish about exceptions -/
abbrev Cx.wish (X : Cx) (E : Value → Shared → Prop) : Cx := { X with xe := E }
/-- no exception leaves -/
abbrev Cx.nox (X : Cx) : Cx := X.wish fun _ _ => False
theorem Cx.Ok.wish {X : Cx} (ok : X.Ok) (E : Value → Shared → Prop) : (X.wish E).Ok :=
  ⟨ok.mod, ok.kind, ok.glob, ok.blt, ok.above, ok.inj, ok.has, ok.cab, ok.hd, ok.frames, ok.stk, ok.exf, ok.bs, ok.bsz, ok.noex, ok.exfs, ok.funs, ok.frf⟩
theorem Cx.Ok.unwish {X : Cx} {E : Value → Shared → Prop} (ok : (X.wish E).Ok) : X.Ok :=
  ⟨ok.mod, ok.kind, ok.glob, ok.blt, ok.above, ok.inj, ok.has, ok.cab, ok.hd, ok.frames, ok.stk, ok.exf, ok.bs, ok.bsz, ok.noex, ok.exfs, ok.funs, ok.frf⟩
section
variable {X : Cx} {pins : List (Addr × Obj)} {σ : St} {H : Hp} {s : Shared} {E : Value → Shared → Prop}
theorem Inv.wish (I : Inv X pins σ H s) (E : Value → Shared → Prop) : Inv (X.wish E) pins σ H s := ⟨I.ok.wish E, I.os, I.bare, I.base, I.loc, I.cell, I.free, I.freeC, I.pin, I.hok, I.len⟩
theorem Inv.unwish (I : Inv (X.wish E) pins σ H s) : Inv X pins σ H s := ⟨I.ok.unwish, I.os, I.bare, I.base, I.loc, I.cell, I.free, I.freeC, I.pin, I.hok, I.len⟩
theorem SP.unwish {D : Ends} {f : Flow} {s' : Shared} (h : SP (X.wish E) pins D f s') : SP X pins D f s' := by
  cases f with
  | next => obtain ⟨σ', H', I, q⟩ := h; exact ⟨σ', H', I.unwish, q⟩
  | brk => obtain ⟨σ', H', I, q⟩ := h; exact ⟨σ', H', I.unwish, q⟩
  | cont => obtain ⟨σ', H', I, q⟩ := h; exact ⟨σ', H', I.unwish, q⟩
  | ret u => obtain ⟨v, σ', H', I, r, q⟩ := h; exact ⟨v, σ', H', I.unwish, r, q⟩
theorem PSs.nox {st : List Stmt} {t : TS} (h : PSs X.nox st t) : PSs X st t := fun pins s σ H D I hw =>
  wpAny_mono (h pins s σ H D (I.wish _) hw) (fun _ _ q => q.unwish) fun _ _ z => False.elim z
end

/-! ### blocks and small statements -/
section
variable {X : Cx} {st : Stmt} {rest : List Stmt} {t u : TS} {e : Expr} {te : TE} {pos : Pos}
def tNext : TS := fun D σ H => D.nx σ H
def tSeq (t u : TS) : TS := fun D σ H => t { D with nx := u D } σ H
theorem pss_nil : PSs X [] tNext := fun _ _ σ H _ I h => wpAny_execs_nil ⟨σ, H, I, h⟩
theorem pss_cons (h1 : PS X st t) (h2 : PSs X rest u) : PSs X (st :: rest) (tSeq t u) := by
  intro pins s σ H D I h
  refine wpAny_execs_cons (thn (h1 pins s σ H { D with nx := u D } I h) fun f s1 q => ?_)
  cases f with
  | next =>
    obtain ⟨σ', H', I', q⟩ := q
    exact h2 pins s1 σ' H' D I' q
  | ret v => exact q
  | brk => exact q
  | cont => exact q
theorem pss_one (h1 : PS X st t) : PSs X [st] t := by
  intro pins s σ H D I h
  refine wpAny_execs_cons (thn (h1 pins s σ H D I h) fun f s1 q => ?_)
  cases f with
  | next => exact wpAny_execs_nil q
  | ret v => exact q
  | brk => exact q
  | cont => exact q
/-- in a def's body nothing is shown -/
theorem Inv.quiet {pins : List (Addr × Obj)} {σ : St} {H : Hp} {s : Shared} (I : Inv X pins σ H s) : interactive X.env = false := by simp [interactive, I.ok.kind]
/-- an expression whose value is dropped -/
def tDrop (te : TE) : TS := fun D σ H => te σ H fun _ H1 => D.nx σ H1
theorem ps_expr (he : PE X e te) (hs : swapsWith e none pos.line X.env = pure false := by rfl) : PS X (.Expr e pos) (tDrop te) := by
  intro pins s σ H D I h
  exact wpAny_Expr_any (thn (he pins s σ H _ I h) fun v s1 ⟨x, H1, I1, r1, q1⟩ => ⟨σ, H1, I1, q1⟩) I.quiet hs
def tRet (te : TE) : TS := fun D σ H => te σ H D.rt
theorem ps_ret (he : PE X e te) : PS X (.Return (some e) pos) (tRet te) := by
  intro pins s σ H D I h
  exact wpAny_Return_some (thn (he pins s σ H _ I h) fun v s1 ⟨x, H1, I1, r1, q1⟩ => ⟨x, σ, H1, I1, r1, q1⟩)
def tIfS (c : TT) (t u : TS) : TS := fun D σ H => c σ H fun b H1 => if b = true then t D σ H1 else u D σ H1
theorem ps_if {c : Expr} {a b : List Stmt} {tc : TT} (hc : PT X c tc) (ha : PSs X a t) (hb : PSs X b u) : PS X (.If c a b pos) (tIfS tc t u) := by
  intro pins s σ H D I h
  refine wpAny_If (thn (hc pins s σ H _ I h) fun d s1 ⟨H1, I1, q1⟩ => ?_)
  cases d with
  | true => exact ha pins s1 σ H1 D I1 q1
  | false => exact hb pins s1 σ H1 D I1 q1
end

/-! ### targets -/
abbrev TG := V → St → Hp → (St → Hp → Prop) → Prop
def PG (X : Cx) (target : Expr) (t : TG) : Prop :=
  ∀ (pins : List (Addr × Obj)) (s : Shared) (σ : St) (H : Hp) (v : V) (u : Value) (Q : St → Hp → Prop), Inv X pins σ H s → RelV v u → t v σ H Q →
    wpAny (model X.prog X.w) X.A (assign target X.env u) (fun _ s' => ∃ σ' H', Inv X pins σ' H' s' ∧ Q σ' H') X.xe s
/-- o[i] = v, by values -/
abbrev TSet := V → V → V → Hp → (Hp → Prop) → Prop
def PSet (X : Cx) (t : TSet) : Prop :=
  ∀ (pins : List (Addr × Obj)) (s : Shared) (σ : St) (H : Hp) (o i v : V) (ov iv u : Value) (Q : Hp → Prop), Inv X pins σ H s → RelV o ov → RelV i iv → RelV v u → t o i v H Q →
    wpAny (model X.prog X.w) X.A (setItem ov iv u) (fun _ s' => ∃ H', Inv X pins σ H' s' ∧ Q H') X.xe s
/-- a op= b, by values -/
abbrev TIp := V → V → Hp → VK → Prop
def PIp (X : Cx) (op : Operator) (t : TIp) : Prop :=
  ∀ (pins : List (Addr × Obj)) (s : Shared) (σ : St) (H : Hp) (x y : V) (v u : Value) (Q : VK), Inv X pins σ H s → RelV x v → RelV y u → t x y H Q →
    wpAny (model X.prog X.w) X.A (inplaceOp op v u) (EP X pins σ Q) X.xe s
section
variable {X : Cx} {pos : Pos}
def gName (i : Nat) : TG := fun v σ H Q => Q (σ.set i (some v)) H
theorem pg_name {i : Nat} {x : Str} (hN : X.N.Nodup) (hi : X.N[i]? = some x) (hx : Loc X.env.scope x) (hf : X.fn x = true ∨ X.env.scope.names.lookup x = some .local := by first | exact .inl rfl | exact .inr rfl | assumption) : PG X (.Name x pos) (gName i) := by
  intro pins s σ H v u Q I r h
  exact wpAny_assign_Name (store_ok I hN hi hx r (fun s' I' => ⟨_, H, I', h⟩) hf)
/-- target = value -/
def tAsg (te : TE) (g : TG) : TS := fun D σ H => te σ H fun x H1 => g x σ H1 D.nx
/-- name = value -/
theorem ps_set {i : Nat} {x : Str} {e : Expr} {te : TE} {pos' : Pos} (hN : X.N.Nodup) (hi : X.N[i]? = some x) (hx : Loc X.env.scope x) (he : PE X e te) (hs : swapsWith e (some (.Name x pos')) pos.line X.env = pure false := by rfl) (hf : X.fn x = true ∨ X.env.scope.names.lookup x = some .local := by first | exact .inl rfl | exact .inr rfl | assumption) :
    PS X (.Assign [.Name x pos'] e pos) (tAsg te (gName i)) := by
  intro pins s σ H D I h
  refine wpAny_Assign_Name (thn (he pins s σ H _ I h) fun v s1 ⟨y, H1, I1, r1, q1⟩ => ?_) hs
  exact store_ok I1 hN hi hx r1 (fun s2 I2 => ⟨_, H1, I2, q1⟩) hf
/-- name op= e -/
def tAug (i : Nat) (te : TE) (ti : TIp) : TS := fun D σ H => ∃ x, σ[i]? = some (some x) ∧ te σ H fun y H1 => ti x y H1 fun z H2 => D.nx (σ.set i (some z)) H2
theorem ps_aug {i : Nat} {x : Str} {e : Expr} {te : TE} {op : Operator} {ti : TIp} {pos' : Pos} (hN : X.N.Nodup) (hi : X.N[i]? = some x) (hx : Loc X.env.scope x) (he : PE X e te) (ho : PIp X op ti) (hf : X.fn x = true ∨ X.env.scope.names.lookup x = some .local := by first | exact .inl rfl | exact .inr rfl | assumption) :
    PS X (.AugAssign (.Name x pos') op e pos) (tAug i te ti) := by
  intro pins s σ H D I h
  obtain ⟨v, e1, h⟩ := h
  obtain ⟨m, hn, hl⟩ := I.loc
  have vis : Vis X.env.scope x := by rcases hx with k | k; exact .inl k; exact .inr (.inl k)
  obtain ⟨u, r, l⟩ := hl i x v hi e1 vis
  refine wpAny_AugAssign_Name ?_
  have go : wpAny (model X.prog X.w) X.A (eval e X.env) (fun w s₂ => wpAny (model X.prog X.w) X.A (inplaceOp op u w) (fun r s₃ => wpAny (model X.prog X.w) X.A (storeName X.env x r) (fun _ => SP X pins D .next) X.xe s₃) X.xe s₂) X.xe s := by
    refine thn (he pins s σ H _ I h) fun w s1 ⟨y, H1, I1, r1, q1⟩ => ?_
    refine thn (ho pins s1 σ H1 v y u w _ I1 r r1 q1) fun z s2 ⟨zv, H2, I2, r2, q2⟩ => ?_
    exact store_ok I2 hN hi hx r2 (fun s3 I3 => ⟨_, H2, I3, q2⟩) hf
  rcases l with ⟨hk, hm⟩ | ⟨hk, c, hc, hcell⟩
  · exact wpAny_loadName_local I.ok.kind hk hn hm go
  · rcases hk with hk | hk
    · exact wpAny_loadName_cell I.ok.kind hk hc hcell go
    · rcases hx with k | k
      · have : X.env.scope.names.lookup x = some .free := hk
        rw [k] at this; cases this
      · have : X.env.scope.names.lookup x = some .free := hk
        rw [k] at this; cases this
/-- o[i] op= e -/
def tAugS (to ti te : TE) (tget : V → V → Hp → VK → Prop) (tip : TIp) (tset : TSet) : TS := fun D σ H => to σ H fun o H1 => ti σ H1 fun i H2 => tget o i H2 fun x H3 => te σ H3 fun y H4 => tip x y H4 fun z H5 => tset o i z H5 fun H6 => D.nx σ H6
/-- o[i], by values -/
def PGet (X : Cx) (t : V → V → Hp → VK → Prop) : Prop :=
  ∀ (pins : List (Addr × Obj)) (s : Shared) (σ : St) (H : Hp) (o i : V) (ov iv : Value) (Q : VK), Inv X pins σ H s → RelV o ov → RelV i iv → t o i H Q →
    wpAny (model X.prog X.w) X.A (getItem ov iv) (EP X pins σ Q) X.xe s
theorem ps_augS {o i e : Expr} {to ti te : TE} {tget : V → V → Hp → VK → Prop} {tip : TIp} {tset : TSet} {op : Operator} {tpos : Pos} (ho : PE X o to) (hi : PE X i ti) (hg : PGet X tget) (he : PE X e te) (hp : PIp X op tip) (hs : PSet X tset)
    (ha : ∀ ov iv new, augStore i ov iv new = (do holding [new, ov, iv] (setItem ov iv new); release [new, ov, iv] []; pure .next) := by intros; rfl) : PS X (.AugAssign (.Subscript o i tpos) op e pos) (tAugS to ti te tget tip tset) := by
  intro pins s σ H D I h
  refine wpAny_AugAssign_SubscriptAny (thn (ho pins s σ H _ I h) fun ov s1 ⟨x1, H1, I1, r1, q1⟩ => ?_) ha
  refine thn (hi pins s1 σ H1 _ I1 q1) fun iv s2 ⟨x2, H2, I2, r2, q2⟩ => ?_
  refine thn (hg pins s2 σ H2 x1 x2 ov iv _ I2 r1 r2 q2) fun old s3 ⟨x3, H3, I3, r3, q3⟩ => ?_
  refine thn (he pins s3 σ H3 _ I3 q3) fun v s4 ⟨x4, H4, I4, r4, q4⟩ => ?_
  refine thn (hp pins s4 σ H4 x3 x4 old v _ I4 r3 r4 q4) fun new s5 ⟨x5, H5, I5, r5, q5⟩ => ?_
  exact thn (hs pins s5 σ H5 x1 x2 x5 ov iv new _ I5 r1 r2 r5 q5) fun _ s6 ⟨H6, I6, q6⟩ => ⟨σ, H6, I6, q6⟩
/-- ints -/
def ipI (f : Int → Int → Int) : TIp := fun x y H Q => ∃ i j, x = .int i ∧ y = .int j ∧ Q (.int (f i j)) H
theorem ip_add : PIp X .Add (ipI fun i j => i + j) := by
  intro pins s σ H x y v u Q I r1 r2 h
  obtain ⟨i, j, e1, e2, q⟩ := h
  subst e1; subst e2
  obtain ⟨t, rfl⟩ := r1
  obtain ⟨t', rfl⟩ := r2
  exact iadd_int ⟨.int _, H, I.tok _, ⟨_, rfl⟩, q⟩
end

/-! ### while -/
section
variable {X : Cx} {pos : Pos}
/-- the invariant W with its measure -/
def tWhile (c : TT) (tb : TS) : TS := fun D σ H => ∃ W : Nat → St → Hp → Prop, (∃ m, W m σ H) ∧ ∀ m σ H, W m σ H →
  c σ H fun b H1 => if b = true then ∃ N : St → Hp → Prop, (∀ σ' H', N σ' H' → ∃ m', m' < m ∧ W m' σ' H') ∧ tb { D with nx := N, ct := N, bk := D.nx } σ H1 else D.nx σ H1
theorem ps_while {c : Expr} {body : List Stmt} {tc : TT} {tb : TS} (hp : PassesOwn (model X.prog X.w) X.A X.env X.xe) (hc : PT X c tc) (hb : PSs X body tb) : PS X (.While c body [] pos) (tWhile tc tb) := by
  intro pins s σ H D I h
  obtain ⟨W, ⟨m0, w0⟩, turn⟩ := h
  refine wpAny_While (codeAny_whileLoop (fun n s' => ∃ σ' H', Inv X pins σ' H' s' ∧ W n σ' H') ?_ m0 ⟨σ, H, I, w0⟩)
  rintro n s1 ⟨σ1, H1, I1, w1⟩
  refine wpAny_passesOwn hp (thn (hc pins s1 σ1 H1 _ I1 (turn n σ1 H1 w1)) fun b s2 ⟨H2, I2, q2⟩ => ?_)
  cases b with
  | true =>
    obtain ⟨N, hN, q2⟩ := q2
    rw [if_pos rfl]
    refine wpAny_passesOwn hp (thn (hb pins s2 σ1 H2 _ I2 q2) fun f s3 q3 => ?_)
    cases f with
    | next =>
      obtain ⟨σ3, H3, I3, n3⟩ := q3
      obtain ⟨m', hm, w3⟩ := hN σ3 H3 n3
      exact ⟨m', hm, σ3, H3, I3, w3⟩
    | cont =>
      obtain ⟨σ3, H3, I3, n3⟩ := q3
      obtain ⟨m', hm, w3⟩ := hN σ3 H3 n3
      exact ⟨m', hm, σ3, H3, I3, w3⟩
    | brk => exact q3
    | ret v => exact q3
  | false =>
    rw [if_neg Bool.false_ne_true]
    exact wpAny_execs_nil ⟨σ1, H2, I2, q2⟩
end

/-! ### what a loop or a comprehension walks -/
/-- at turn i: it yields x (the heap may grow), or it stops -/
structure It where
  go : Nat → Hp → Prop
  yld : Nat → Hp → V → Hp → Prop
  stop : Nat → Hp → Prop
/-- the iterator's own objects may turn: they are not the frame's, not pinned, younger than the entry (or a comprehension's own) -/
def FpOk (X : Cx) (pins : List (Addr × Obj)) (H : Hp) (b : Addr) : Prop :=
  H b = none ∧ b ≠ X.env.locals ∧ b ∉ X.fs ∧ (b ∈ X.ex ∨ X.s_0.heap.objs.size ≤ b) ∧ (∀ x c, X.env.cells.lookup x = some c → c ≠ b) ∧ ∀ p ∈ X.pn ++ pins, p.1 ≠ b
theorem Inv.fpOk {X : Cx} {pins : List (Addr × Obj)} {σ : St} {H H' : Hp} {s : Shared} {b : Addr} (I : Inv X pins σ H s) (hb : s.heap.objs.size ≤ b) (hn : H' b = none) : FpOk X pins H' b := by
  refine ⟨hn, Nat.ne_of_gt (Nat.lt_of_lt_of_le I.lt hb), I.nofs hb, .inr (Nat.le_trans I.sz hb), fun x c e z => ?_, fun p hp z => ?_⟩
  · obtain ⟨v, q⟩ := I.cell x c e
    exact absurd (Nat.lt_of_lt_of_le q.lt (by rw [z]; exact hb)) (Nat.lt_irrefl _)
  · exact absurd (Nat.lt_of_lt_of_le (Heap.lt_size (I.pin p hp).1) (by rw [z]; exact hb)) (Nat.lt_irrefl _)
structure Turn (P : Program) (w : World) (K : PySem.W.Frag) (tg : Expr) (J : It) (fp : List Addr) (it : Addr) (tn : Nat → Heap → Prop) : Prop where
  mem : it ∈ fp
  obj : ∀ i h, tn i h → ∀ b ∈ fp, ∃ o, h.get? b = some o ∧ ∀ v, o.data ≠ .cell v
  keep : ∀ i h h', tn i h → (∀ b ∈ fp, ∀ o, h.get? b = some o → h'.get? b = some o) → tn i h'
  item : ∀ (X : Cx), X.prog = P → X.w = w → X.K = K → X.calm = true → ∀ (i : Nat) (pins : List (Addr × Obj)) (s : Shared) (σ : St) (H : Hp) (E : Value → Shared → Prop), Inv X pins σ H s → (∀ b ∈ fp, FpOk X pins H b) → tn i s.heap → J.go i H →
    wpAny (model P w) X.A (pyNext (.ref it)) (fun r s1 => ∃ u, r = some u ∧
      wpAny (model P w) X.A (letOwnedTupleGo tg (.ref it) u) (fun _ s2 => ∃ x H', Inv X pins σ H' s2 ∧ RelV x u ∧ J.yld i H x H' ∧ tn (i + 1) s2.heap ∧ ∀ b ∈ fp, H' b = none) E s1) E s
  done : ∀ (X : Cx), X.prog = P → X.w = w → X.K = K → X.calm = true → ∀ (i : Nat) (pins : List (Addr × Obj)) (s : Shared) (σ : St) (H : Hp) (E : Value → Shared → Prop), Inv X pins σ H s → (∀ b ∈ fp, FpOk X pins H b) → tn i s.heap → J.stop i H →
    wpAny (model P w) X.A (pyNext (.ref it)) (fun r s1 => r = none ∧ Inv X pins σ H s1) E s
  self : ∀ (A : Around) (i : Nat) (s : Shared) (Q : Value → Shared → Prop) (E : Value → Shared → Prop), tn i s.heap → Q (.ref it) s → wpAny (model P w) A (pyIter (.ref it)) Q E s
abbrev TI := St → Hp → (It → Hp → Prop) → Prop
/-- an iterator has come -/
def PIE (X : Cx) (pins : List (Addr × Obj)) (σ : St) (tg : Expr) (R : It → Hp → Prop) (itv : Value) (s2 : Shared) : Prop :=
  ∃ (it : Addr) (fp : List Addr) (tn : Nat → Heap → Prop) (J : It) (H' : Hp), itv = .ref it ∧ Inv X pins σ H' s2 ∧ Turn X.prog X.w X.K tg J fp it tn ∧ tn 0 s2.heap ∧ (∀ b ∈ fp, FpOk X pins H' b) ∧ R J H'
def PI (X : Cx) (tg iter : Expr) (wi : TI) : Prop :=
  ∀ (pins : List (Addr × Obj)) (s : Shared) (σ : St) (H : Hp) (R : It → Hp → Prop), Inv X pins σ H s → wi σ H R →
    wpAny (model X.prog X.w) X.A (eval iter X.env) (fun v s1 => wpAny (model X.prog X.w) X.A (pyIter v) (PIE X pins σ tg R) X.xe s1) X.xe s

/-- the step ahead of the store is nothing for an iterator that keeps no tuple -/
theorem go_of {M : Model} {A : Around} {E : Value → Shared → Prop} {s : Shared} {tg : Expr} {it : Addr} {u : Value} {o : Obj} {n : String} {vs : Array Value} {Q : Unit → Shared → Prop} (ho : s.heap.get? it = some o) (hc : o.cls = .type n) (hd : o.data = .fields vs)
    (hn : ["enumerate", "zip", "dict_itemiterator", "dict_reverseitemiterator", "odict_iterator", "itertools.zip_longest", "itertools.pairwise"].contains n = false) (hQ : Q () s) : wpAny M A (letOwnedTupleGo tg (.ref it) u) Q E s := by
  unfold letOwnedTupleGo
  cases tg <;> first
    | exact wpAny_pure hQ
    | (cases u <;> first
        | exact wpAny_pure hQ
        | (refine wpAny_bind (wpAny_load ho ?_)
           rw [hc, hd]
           show wpAny M A (if (["enumerate", "zip", "dict_itemiterator", "dict_reverseitemiterator", "odict_iterator", "itertools.zip_longest", "itertools.pairwise"].contains n && vs[0]? == some (rawInt _)) = true then _ else _) Q E s
           rw [if_neg (by intro h; rw [hn, Bool.false_and] at h; cases h)]
           exact wpAny_pure hQ))

/-- the list at a, as it stands at each turn (a loop may append to it) -/
def Itl (K : PySem.W.Frag) (a : Addr) : It :=
  ⟨fun i H => ∃ xs x, SqL K H a xs ∧ xs[i]? = some x, fun i H x H' => H' = H ∧ ∀ xs, SqL K H a xs → xs[i]? = some x, fun i H => ∃ xs, SqL K H a xs ∧ xs.length ≤ i⟩
/-- lo, lo + 1, .. (n of them) -/
def Itr (lo : Int) (n : Nat) : It := ⟨fun i _ => i < n, fun i H x H' => H' = H ∧ x = .int (lo + i), fun i _ => n ≤ i⟩
theorem turn_list {P : Program} {w : World} {K : PySem.W.Frag} {tg : Expr} (a it : Addr) : Turn P w K tg (Itl K a) [it] it (fun i h => h.IsListIter it a i) where
  mem := by simp
  obj := fun i h st b hb => by
    have e : b = it := by simpa using hb
    subst e
    obtain ⟨o, e, c, d⟩ := st
    exact ⟨o, e, fun v z => by rw [d] at z; cases z⟩
  keep := fun i h h' st k => st.at fun o e => k it (by simp) o e
  item := by
    intro X hP hw hK hc i pins s σ H E I hf st hg
    subst hP hw hK
    obtain ⟨xs, x, hq, hx⟩ := hg
    obtain ⟨its, rv, p, hz⟩ := I.list hq
    obtain ⟨u, hu, ru⟩ := rv.get hx
    obtain ⟨f0, f1, f2, f3, f4, f5⟩ := hf it (by simp)
    refine wpAny_pyNext_list_item st p.isList (x := u) (by simpa using hu) fun h' st' sb => ?_
    have I1 : Inv X pins σ H { s with heap := h' } := I.turned (t' := s.toks) (fun b o hb e => (sb.2 b hb).trans e) f0 f1 f3 f4 f5
    obtain ⟨o, e, c, d⟩ := id st'
    exact ⟨u, rfl, go_of (s := { s with heap := h' }) e c d (by decide) ⟨x, H, I1, ru, ⟨rfl, fun ys hy => by rw [I.list_inj hy hq]; exact hx⟩, st', fun b hb => (hf b hb).1⟩⟩
  done := by
    intro X hP hw hK hc i pins s σ H E I hf st hg
    subst hP hw hK
    obtain ⟨xs, hq, hx⟩ := hg
    obtain ⟨its, rv, p, hz⟩ := I.list hq
    obtain ⟨f0, f1, f2, f3, f4, f5⟩ := hf it (by simp)
    have hl := rv.length
    exact wpAny_pyNext_list_end (I.ok.hd hc) st p.isList (by simp; omega) fun h' eb => ⟨rfl, I.turned (t' := s.toks) (fun b o hb e => eb b o hb e) f0 f1 f3 f4 f5⟩
  self := fun _ _ _ _ _ st h => wpAny_pyIter_listiter st h
theorem turn_range {P : Program} {w : World} {K : PySem.W.Frag} {tg : Expr} (it : Addr) (lo : Int) (n : Nat) : Turn P w K tg (Itr lo n) [it] it (fun i h => IsRangeIter h it (lo + (i : Nat) * 1) ((n : Int) - (i : Nat)) 1) where
  mem := by simp
  obj := fun i h st b hb => by
    have e : b = it := by simpa using hb
    subst e
    exact ⟨_, st, fun v z => by
      have z' : Data.fields _ = Data.cell v := z
      cases z'⟩
  keep := fun i h h' st k => k it (by simp) _ st
  item := by
    intro X hP hw hK hc i pins s σ H E I hf st hg
    subst hP hw hK
    obtain ⟨f0, f1, f2, f3, f4, f5⟩ := hf it (by simp)
    have W := Walks.range (prog := X.prog) (w := X.w) (I.ok.hd hc) it lo 1 n
    refine W.item i s _ _ hg st fun v h' tk hv st' kk => ?_
    obtain ⟨t, rfl⟩ := hv
    have I1 : Inv X pins σ H { s with heap := h', toks := tk } := I.turned (fun b o hb e => kk b o (by simpa using hb) e) f0 f1 f3 f4 f5
    refine ⟨_, rfl, go_of (s := { s with heap := h', toks := tk }) (n := "range_iterator") st' rfl rfl (by decide) ⟨.int (lo + i), H, I1, ⟨t, ?_⟩, ⟨rfl, rfl⟩, st', fun b hb => (hf b hb).1⟩⟩
    rw [Int.mul_one]
  done := by
    intro X hP hw hK hc i pins s σ H E I hf st hg
    subst hP hw hK
    obtain ⟨f0, f1, f2, f3, f4, f5⟩ := hf it (by simp)
    exact wpAny_pyNext_range_end (I.ok.hd hc) st (by have : n ≤ i := hg; omega) fun h' eb => ⟨rfl, I.turned (t' := s.toks) (fun b o hb e => eb b o hb e) f0 f1 f3 f4 f5⟩
  self := fun _ _ _ _ _ st h => wpAny_pyIter_rangeiter st h
end L2

namespace L2
open PySem PySem.Spec PyProof.Rows
section
variable {X : Cx} {tg : Expr}
def iList (K : PySem.W.Frag) (tl : TE) : TI := fun σ H R => tl σ H fun x H1 => ∃ a, x = .ref a ∧ (∃ xs, SqL K H1 a xs) ∧ R (Itl K a) H1
theorem pi_list {l : Expr} {tl : TE} (hl : PE X l tl) : PI X tg l (iList X.K tl) := by
  intro pins s σ H R I h
  refine thn (hl pins s σ H _ I h) fun v s1 ⟨x, H1, I1, r1, q1⟩ => ?_
  obtain ⟨a, e, ⟨xs, hq⟩, q⟩ := q1
  subst e
  cases r1
  obtain ⟨its, rv, p, hz⟩ := I1.list hq
  refine wpAny_pyIter_list p.isList ?_
  refine ⟨s1.heap.objs.size, [s1.heap.objs.size], _, _, H1, rfl, I1.kept (t' := s1.toks) fun b o e => Heap.get?_push_of_some _ e, turn_list a _, ⟨_, Heap.get?_push_size _ rfl, rfl, rfl⟩, fun b hb => ?_, q⟩
  have e : b = s1.heap.objs.size := by simpa using hb
  subst e
  exact I1.fpOk (Nat.le_refl _) (I1.hok.fresh (Nat.le_refl _))
/-- a range object just made, walked -/
theorem range_it {pins : List (Addr × Obj)} {σ : St} {H : Hp} {s : Shared} {R : It → Hp → Prop} {E : Value → Shared → Prop} {lo hi : Int} {t u v : Tok} {tk : Nat} (I : Inv X pins σ H s) (h1 : -(2 ^ 62) ≤ lo) (h2 : lo < 2 ^ 62) (h3 : -(2 ^ 62) ≤ hi) (h4 : hi < 2 ^ 62)
    (q : R (Itr lo (hi - lo).toNat) H) : wpAny (model X.prog X.w) X.A (pyIter (.ref s.heap.objs.size)) (PIE X pins σ tg R) E { s with heap := s.heap.push { cls := .type "range", data := .fields #[.int lo t, .int hi u, .int 1 v] }, toks := tk } := by
  refine wpAny_pyIter_range (IsRange.new ..) (small_one h1 h2 h3 h4) ?_
  have I1 : Inv X pins σ H { s with heap := s.heap.push { cls := .type "range", data := .fields #[.int lo t, .int hi u, .int 1 v] }, toks := tk } := I.kept fun b o e => Heap.get?_push_of_some _ e
  refine ⟨(s.heap.push { cls := .type "range", data := .fields #[.int lo t, .int hi u, .int 1 v] }).objs.size, [(s.heap.push { cls := .type "range", data := .fields #[.int lo t, .int hi u, .int 1 v] }).objs.size], _, _, H, rfl,
    I1.kept (t' := tk) fun b o e => Heap.get?_push_of_some _ e, turn_range _ lo (hi - lo).toNat, ?_, fun b hb => ?_, q⟩
  · have e1 : lo + ((0 : Nat) : Int) * 1 = lo := by simp
    have e2 : (((hi - lo).toNat : Nat) : Int) - ((0 : Nat) : Int) = Builtin.Range.rangeSize lo hi 1 := by rw [rangeSize_one]; split <;> omega
    show IsRangeIter _ _ (lo + ((0 : Nat) : Int) * 1) ((((hi - lo).toNat : Nat) : Int) - ((0 : Nat) : Int)) 1
    rw [e1, e2]
    exact Heap.get?_push_size _ rfl
  · have e : b = (s.heap.push { cls := .type "range", data := .fields #[.int lo t, .int hi u, .int 1 v] }).objs.size := by simpa using hb
    subst e
    exact I1.fpOk (Nat.le_refl _) (I1.hok.fresh (Nat.le_refl _))
def iRng1 (ta : TA) : TI := fun σ H R => ta σ H fun vs H1 => ∃ j : Int, vs = [.int j] ∧ -(2 ^ 62) ≤ j ∧ j < 2 ^ 62 ∧ R (Itr 0 j.toNat) H1
def iRng2 (ta : TA) : TI := fun σ H R => ta σ H fun vs H1 => ∃ i j : Int, vs = [.int i, .int j] ∧ (-(2 ^ 62) ≤ i ∧ i < 2 ^ 62 ∧ -(2 ^ 62) ≤ j ∧ j < 2 ^ 62) ∧ R (Itr i (j - i).toNat) H1
theorem pi_range1 {a : Expr} {ta : TA} {p pos : Pos} (hg : Gl X "range") (hm : X.mg "range" = none) (ha : PA X [a] ta) (hs : starEach [a] X.env = [(false, eval a X.env)] := by rfl) : PI X tg (.Call (.Name "range" p) [a] [] pos) (iRng1 ta) := by
  intro pins s σ H R I h
  refine Call_ (ld_blt I hg hm boot_range (PyProof.Rows.callWith_type1 (thn (ha pos pins s σ H _ I h) fun us s1 ⟨vs, H1, I1, r1, q1⟩ => ?_) hs rfl))
  obtain ⟨j, e, q1, q2, q⟩ := q1
  subst e
  cases r1 with
  | cons r rr =>
    cases rr
    obtain ⟨t, rfl⟩ := r
    exact call_range_1 (range_it I1 (by omega) (by omega) q1 q2 (by simpa using q))
theorem pi_range2 {a b : Expr} {ta : TA} {p pos : Pos} (hg : Gl X "range") (hm : X.mg "range" = none) (ha : PA X [a, b] ta) (hs : starEach [a, b] X.env = [(false, eval a X.env), (false, eval b X.env)] := by rfl) (hs2 : starEach [b] X.env = [(false, eval b X.env)] := by rfl) :
    PI X tg (.Call (.Name "range" p) [a, b] [] pos) (iRng2 ta) := by
  intro pins s σ H R I h
  refine Call_ (ld_blt I hg hm boot_range (PyProof.Rows.callWith_type1 (thn (ha pos pins s σ H _ I h) fun us s1 ⟨vs, H1, I1, r1, q1⟩ => ?_) (by rw [hs, hs2]) (by rw [hs2]; rfl)))
  obtain ⟨i, j, e, ⟨q1, q2, q3, q4⟩, q⟩ := q1
  subst e
  cases r1 with
  | cons r rr =>
    cases rr with
    | cons r' rr =>
      cases rr
      obtain ⟨t, rfl⟩ := r
      obtain ⟨t', rfl⟩ := r'
      exact call_range_2 (range_it I1 q1 q2 q3 q4 q)

/-! ### for -/
/-- W: the invariant by the turn and a measure; N: what the body is to reach -/
def tFor (wi : TI) (g : TG) (tb : TS) : TS := fun D σ H => wi σ H fun J H1 => ∃ W : Nat → Nat → St → Hp → Prop, (∃ m, W 0 m σ H1) ∧ ∀ i m σ H, W i m σ H →
  (J.stop i H ∧ D.nx σ H) ∨ (J.go i H ∧ ∃ N : St → Hp → Prop, (∀ σ' H', N σ' H' → ∃ m', m' < m ∧ W (i + 1) m' σ' H') ∧ ∀ x H', J.yld i H x H' → g x σ H' fun σ2 H2 => tb { D with nx := N, ct := N, bk := D.nx } σ2 H2)
/-- the records at fp as they stand -/
def pinsAt (fp : List Addr) (h : Heap) : List (Addr × Obj) := fp.filterMap fun b => (h.get? b).map fun o => (b, o)
theorem mem_pinsAt {fp : List Addr} {h : Heap} {b : Addr} {o : Obj} (hb : b ∈ fp) (e : h.get? b = some o) : (b, o) ∈ pinsAt fp h := List.mem_filterMap.mpr ⟨b, hb, by rw [e]; rfl⟩
theorem of_pinsAt {fp : List Addr} {h : Heap} {p : Addr × Obj} (hp : p ∈ pinsAt fp h) : p.1 ∈ fp ∧ h.get? p.1 = some p.2 := by
  obtain ⟨b, hb, e⟩ := List.mem_filterMap.mp hp
  cases q : h.get? b with
  | none => rw [q] at e; cases e
  | some o =>
    rw [q] at e
    have e' : (b, o) = p := Option.some.inj e
    subst e'
    exact ⟨hb, q⟩
theorem Inv.pinned {pins : List (Addr × Obj)} {σ : St} {H : Hp} {s : Shared} {fp : List Addr} (I : Inv X pins σ H s) (hf : ∀ b ∈ fp, FpOk X pins H b) (ho : ∀ b ∈ fp, ∃ o, s.heap.get? b = some o ∧ ∀ v, o.data ≠ .cell v) : Inv X (pins ++ pinsAt fp s.heap) σ H s :=
  I.pins_of fun p hp => (List.mem_append.mp hp).elim (fun z => I.pin p (List.mem_append_right _ z)) fun z => by
    obtain ⟨hb, e⟩ := of_pinsAt z
    obtain ⟨f0, f1, f2, _⟩ := hf p.1 hb
    obtain ⟨o, e', d⟩ := ho p.1 hb
    rw [e] at e'; cases e'
    exact ⟨e, f0, f1, f2, d⟩
theorem Inv.unpinned {pins pl : List (Addr × Obj)} {σ : St} {H : Hp} {s : Shared} (I : Inv X (pins ++ pl) σ H s) : Inv X pins σ H s := I.pins_of fun p hp => I.pin p (List.mem_append_right _ (List.mem_append_left _ hp))
theorem ps_for {iter : Expr} {body : List Stmt} {wi : TI} {g : TG} {tb : TS} {pos : Pos} (hp : PassesOwn (model X.prog X.w) X.A X.env X.xe) (hc : X.calm = true) (hi : PI X tg iter wi) (hg : PG X tg g) (hb : PSs X body tb)
    (hs : ∀ x, foldedSetIterable iter X.env x = pure x := by intro _; rfl) : PS X (.For tg iter body [] pos) (tFor wi g tb) := by
  intro pins s σ H D I h
  refine wpAny_For (thn (hi pins s σ H _ I h) fun v s1 h1 => thn h1 fun itv s2 h2 => ?_) hs
  obtain ⟨it, fp, tn, J, H2, e, I2, T, st2, f2, W, ⟨m0, w0⟩, turn⟩ := h2
  subst e
  -- what stays true of the iterator's objects through the loop
  have stat : ∀ {H' : Hp}, (∀ b ∈ fp, H' b = none) → ∀ b ∈ fp, FpOk X pins H' b := fun hn b hb => ⟨hn b hb, (f2 b hb).2⟩
  refine codeAny_forLoop_any (fun n s' => ∃ i σ' H', Inv X pins σ' H' s' ∧ tn i s'.heap ∧ (∀ b ∈ fp, H' b = none) ∧ W i n σ' H') ?_ m0 ⟨0, σ, H2, I2, st2, fun b hb => (f2 b hb).1, w0⟩
  rintro n s3 ⟨i, σ3, H3, I3, st3, fr3, w3⟩
  rcases turn i n σ3 H3 w3 with ⟨stop, qn⟩ | ⟨go, N, hN, step⟩
  · refine wpAny_passesOwn hp (thn (T.done X rfl rfl rfl hc i pins s3 σ3 H3 X.xe I3 (stat fr3) st3 stop) fun r s4 ⟨hr, I4⟩ => ?_)
    subst hr
    exact wpAny_execs_nil ⟨σ3, H3, I4, qn⟩
  · refine wpAny_passesOwn hp (thn (T.item X rfl rfl rfl hc i pins s3 σ3 H3 X.xe I3 (stat fr3) st3 go) fun r s4 ⟨u, hr, h4⟩ => ?_)
    subst hr
    refine wpAny_passesOwn hp (thn h4 fun _ s5 ⟨x, H5, I5, r5, y5, st5, fr5⟩ => ?_)
    have I5' := I5.pinned (stat fr5) (T.obj _ _ st5)
    refine wpAny_passesOwn hp (thn (hg _ s5 σ3 H5 x u _ I5' r5 (step x H5 y5)) fun _ s6 ⟨σ6, H6, I6, q6⟩ => ?_)
    refine wpAny_passesOwn hp (thn (hb _ s6 σ6 H6 _ I6 q6) fun f s7 q7 => ?_)
    have again : ∀ {σ7 : St} {H7 : Hp}, Inv X (pins ++ pinsAt fp s5.heap) σ7 H7 s7 → N σ7 H7 → ∃ m, m < n ∧ ∃ i σ' H', Inv X pins σ' H' s7 ∧ tn i s7.heap ∧ (∀ b ∈ fp, H' b = none) ∧ W i m σ' H' := fun {σ7 H7} I7 n7 => by
      obtain ⟨m', hm, w7⟩ := hN σ7 H7 n7
      refine ⟨m', hm, i + 1, σ7, H7, I7.unpinned, T.keep _ _ _ st5 fun b hb o e => (I7.pin (b, o) (List.mem_append_right _ (List.mem_append_right _ (mem_pinsAt hb e)))).1, fun b hb => ?_, w7⟩
      obtain ⟨o, e, d⟩ := T.obj _ _ st5 b hb
      exact (I7.pin (b, o) (List.mem_append_right _ (List.mem_append_right _ (mem_pinsAt hb e)))).2.1
    cases f with
    | next => obtain ⟨σ7, H7, I7, n7⟩ := q7; exact again I7 n7
    | cont => obtain ⟨σ7, H7, I7, n7⟩ := q7; exact again I7 n7
    | brk => obtain ⟨σ7, H7, I7, q7⟩ := q7; exact ⟨σ7, H7, I7.unpinned, q7⟩
    | ret v => obtain ⟨x7, σ7, H7, I7, r7, q7⟩ := q7; exact ⟨x7, σ7, H7, I7.unpinned, r7, q7⟩
end

/-! ### the forms one uses -/
/-- over a list that the body leaves as it is -/
theorem for_list {K : PySem.W.Frag} {a : Addr} {xs : List V} {g : TG} {tb : TS} {D : Ends} {σ : St} {H : Hp} (Pv : Nat → St → Hp → Prop) (h0 : Pv 0 σ H) (hl : ∀ i σ H, i ≤ xs.length → Pv i σ H → SqL K H a xs)
    (hs : ∀ i x σ H, xs[i]? = some x → Pv i σ H → g x σ H fun σ2 H2 => tb { D with nx := Pv (i + 1), ct := Pv (i + 1), bk := D.nx } σ2 H2) (hd : ∀ σ H, Pv xs.length σ H → D.nx σ H) :
    ∃ W : Nat → Nat → St → Hp → Prop, (∃ m, W 0 m σ H) ∧ ∀ i m σ H, W i m σ H →
      ((Itl K a).stop i H ∧ D.nx σ H) ∨ ((Itl K a).go i H ∧ ∃ N : St → Hp → Prop, (∀ σ' H', N σ' H' → ∃ m', m' < m ∧ W (i + 1) m' σ' H') ∧ ∀ x H', (Itl K a).yld i H x H' → g x σ H' fun σ2 H2 => tb { D with nx := N, ct := N, bk := D.nx } σ2 H2) := by
  refine ⟨fun i m σ H => m = xs.length - i ∧ i ≤ xs.length ∧ Pv i σ H, ⟨xs.length, by simp, Nat.zero_le _, h0⟩, ?_⟩
  rintro i m σ H ⟨rfl, hi, p⟩
  have q := hl i σ H hi p
  by_cases hlt : i < xs.length
  · refine .inr ⟨⟨xs, xs[i], q, by simp [hlt]⟩, Pv (i + 1), fun σ' H' p' => ⟨xs.length - (i + 1), by omega, rfl, hlt, p'⟩, fun x H' y => ?_⟩
    obtain ⟨e, y⟩ := y
    subst e
    exact hs i x σ _ (y xs q) p
  · have e : i = xs.length := by omega
    subst e
    exact .inl ⟨⟨xs, q, Nat.le_refl _⟩, hd σ H p⟩
theorem for_range {lo : Int} {n : Nat} {g : TG} {tb : TS} {D : Ends} {σ : St} {H : Hp} (Pv : Nat → St → Hp → Prop) (h0 : Pv 0 σ H)
    (hs : ∀ i σ H, i < n → Pv i σ H → g (.int (lo + i)) σ H fun σ2 H2 => tb { D with nx := Pv (i + 1), ct := Pv (i + 1), bk := D.nx } σ2 H2) (hd : ∀ σ H, Pv n σ H → D.nx σ H) :
    ∃ W : Nat → Nat → St → Hp → Prop, (∃ m, W 0 m σ H) ∧ ∀ i m σ H, W i m σ H →
      ((Itr lo n).stop i H ∧ D.nx σ H) ∨ ((Itr lo n).go i H ∧ ∃ N : St → Hp → Prop, (∀ σ' H', N σ' H' → ∃ m', m' < m ∧ W (i + 1) m' σ' H') ∧ ∀ x H', (Itr lo n).yld i H x H' → g x σ H' fun σ2 H2 => tb { D with nx := N, ct := N, bk := D.nx } σ2 H2) := by
  refine ⟨fun i m σ H => m = n - i ∧ i ≤ n ∧ Pv i σ H, ⟨n, by simp, Nat.zero_le _, h0⟩, ?_⟩
  rintro i m σ H ⟨rfl, hi, p⟩
  by_cases hlt : i < n
  · refine .inr ⟨hlt, Pv (i + 1), fun σ' H' p' => ⟨n - (i + 1), by omega, rfl, hlt, p'⟩, fun x H' y => ?_⟩
    obtain ⟨e, y⟩ := y
    subst e y
    exact hs i σ _ hlt p
  · have e : i = n := by omega
    subst e
    exact .inl ⟨Nat.le_refl _, hd σ H p⟩
end L2

namespace L2
open PySem PySem.Spec PyProof.Rows

abbrev R2 := V → V → Hp → VK → Prop
/-- a two-place operation on values: f is binaryOp op, inplaceOp op or compareOp op -/
def OpR (X : Cx) (f : Value → Value → Sem Value) (r : R2) : Prop :=
  ∀ (pins : List (Addr × Obj)) (s : Shared) (σ : St) (H : Hp) (x y : V) (v u : Value) (Q : VK), Inv X pins σ H s → RelV x v → RelV y u → r x y H Q →
    wpAny (model X.prog X.w) X.A (f v u) (EP X pins σ Q) X.xe s
/-- a one-place operation -/
def UnR (X : Cx) (f : Value → Sem Value) (r : V → Hp → VK → Prop) : Prop :=
  ∀ (pins : List (Addr × Obj)) (s : Shared) (σ : St) (H : Hp) (x : V) (v : Value) (Q : VK), Inv X pins σ H s → RelV x v → r x H Q →
    wpAny (model X.prog X.w) X.A (f v) (EP X pins σ Q) X.xe s
/-- a call of a value that is known (a builtin, a type) with values -/
def CallR (X : Cx) (f : Value) (r : List V → Hp → VK → Prop) : Prop :=
  ∀ (pins : List (Addr × Obj)) (s : Shared) (σ : St) (H : Hp) (xs : List V) (us : List Value) (Q : VK), Inv X pins σ H s → Vals xs us → r xs H Q →
    wpAny (model X.prog X.w) X.A (call f us) (EP X pins σ Q) X.xe s

def tOp (r : R2) (ta tb : TE) : TE := fun σ H Q => ta σ H fun x H1 => tb σ H1 fun y H2 => r x y H2 Q
def tUn (r : V → Hp → VK → Prop) (ta : TE) : TE := fun σ H Q => ta σ H fun x H1 => r x H1 Q
/-- ints in, under C, and a value out -/
def rI (C : Int → Int → Prop) (g : Int → Int → V) : R2 := fun x y H Q => ∃ i j, x = .int i ∧ y = .int j ∧ C i j ∧ Q (g i j) H
def rI0 (g : Int → Int → V) : R2 := fun x y H Q => ∃ i j, x = .int i ∧ y = .int j ∧ Q (g i j) H
def rU (g : Int → V) : V → Hp → VK → Prop := fun x H Q => ∃ i, x = .int i ∧ Q (g i) H

section
variable {X : Cx} {a b c : Expr} {ta tb tc : TE} {pos : Pos}

theorem binT (ha : PE X a ta) (hb : PE X b tb) {pins : List (Addr × Obj)} {s : Shared} {σ : St} {H : Hp} {R : V → V → Hp → Prop} (I : Inv X pins σ H s)
    (h : ta σ H fun x H1 => tb σ H1 fun y H2 => R x y H2) {Q : Value → Shared → Prop} {f : Value → Value → Sem Value}
    (hf : ∀ v u s2 x y H2, Inv X pins σ H2 s2 → RelV x v → RelV y u → R x y H2 → wpAny (model X.prog X.w) X.A (f v u) Q X.xe s2) :
    wpAny (model X.prog X.w) X.A (eval a X.env) (fun v s₁ => wpAny (model X.prog X.w) X.A (eval b X.env) (fun u s₂ => wpAny (model X.prog X.w) X.A (f v u) Q X.xe s₂) X.xe s₁) X.xe s := by
  refine thn (ha pins s σ H _ I h) fun v s1 ⟨x, H1, I1, r1, q1⟩ => ?_
  refine thn (hb pins s1 σ H1 _ I1 q1) fun u s2 ⟨y, H2, I2, r2, q2⟩ => ?_
  exact hf v u s2 x y H2 I2 r1 r2 q2

theorem pe_op {op : Operator} {r : R2} (ho : OpR X (binaryOp op) r) (ha : PE X a ta) (hb : PE X b tb) : PE X (.BinOp a op b pos) (tOp r ta tb) := by
  intro pins s σ H Q I h
  exact wpAny_BinOp (binT ha hb I h fun v u s2 x y H2 I2 rx ry q => ho pins s2 σ H2 x y v u Q I2 rx ry q)
theorem pe_un {op : UnaryOp} {r : V → Hp → VK → Prop} (ho : UnR X (unaryOp op) r) (ha : PE X a ta) : PE X (.UnaryOp op a pos) (tUn r ta) := by
  intro pins s σ H Q I h
  exact UnaryOp_ (thn (ha pins s σ H _ I h) fun v s1 ⟨x, H1, I1, r1, q1⟩ => ho pins s1 σ H1 x v Q I1 r1 q1)

/-! ### ints -/
theorem opI {f : Value → Value → Sem Value} {C : Int → Int → Prop} {g : Int → Int → Int}
    (rule : ∀ (i j : Int) (t u : Tok) (s : Shared) (Q : Value → Shared → Prop) (E : Value → Shared → Prop), C i j → Q (.int (g i j) s.toks) { s with toks := s.toks + 1 } → wpAny (model X.prog X.w) X.A (f (.int i t) (.int j u)) Q E s) :
    OpR X f (rI C fun i j => .int (g i j)) := by
  intro pins s σ H x y v u Q I rx ry h
  obtain ⟨i, j, rfl, rfl, hc, q⟩ := h
  obtain ⟨t, rfl⟩ := rx
  obtain ⟨t', rfl⟩ := ry
  exact rule i j t t' s _ _ hc ⟨.int (g i j), H, I.tok _, ⟨_, rfl⟩, q⟩
theorem opI0 {f : Value → Value → Sem Value} {g : Int → Int → Int}
    (rule : ∀ (i j : Int) (t u : Tok) (s : Shared) (Q : Value → Shared → Prop) (E : Value → Shared → Prop), Q (.int (g i j) s.toks) { s with toks := s.toks + 1 } → wpAny (model X.prog X.w) X.A (f (.int i t) (.int j u)) Q E s) :
    OpR X f (rI0 fun i j => .int (g i j)) := by
  intro pins s σ H x y v u Q I rx ry h
  obtain ⟨i, j, rfl, rfl, q⟩ := h
  obtain ⟨t, rfl⟩ := rx
  obtain ⟨t', rfl⟩ := ry
  exact rule i j t t' s _ _ ⟨.int (g i j), H, I.tok _, ⟨_, rfl⟩, q⟩
theorem opB0 {f : Value → Value → Sem Value} {g : Int → Int → Bool}
    (rule : ∀ (i j : Int) (t u : Tok) (s : Shared) (Q : Value → Shared → Prop) (E : Value → Shared → Prop), Q (.bool (g i j)) s → wpAny (model X.prog X.w) X.A (f (.int i t) (.int j u)) Q E s) :
    OpR X f (rI0 fun i j => .bl (g i j)) := by
  intro pins s σ H x y v u Q I rx ry h
  obtain ⟨i, j, rfl, rfl, q⟩ := h
  obtain ⟨t, rfl⟩ := rx
  obtain ⟨t', rfl⟩ := ry
  exact rule i j t t' s _ _ ⟨.bl (g i j), H, I, rfl, q⟩

theorem op_add : OpR X (binaryOp .Add) (rI0 fun i j => .int (i + j)) := opI0 fun _ _ _ _ _ _ _ q => add_int q
theorem op_sub : OpR X (binaryOp .Sub) (rI0 fun i j => .int (i - j)) := opI0 fun _ _ _ _ _ _ _ q => sub_int q

theorem iop_add : OpR X (inplaceOp .Add) (rI0 fun i j => .int (i + j)) := opI0 fun _ _ _ _ _ _ _ q => iadd_int q
theorem iop_sub : OpR X (inplaceOp .Sub) (rI0 fun i j => .int (i - j)) := opI0 fun _ _ _ _ _ _ _ q => isub_int q

theorem unI {f : Value → Sem Value} {g : Int → Int}
    (rule : ∀ (i : Int) (t : Tok) (s : Shared) (Q : Value → Shared → Prop) (E : Value → Shared → Prop), Q (.int (g i) s.toks) { s with toks := s.toks + 1 } → wpAny (model X.prog X.w) X.A (f (.int i t)) Q E s) :
    UnR X f (rU fun i => .int (g i)) := by
  intro pins s σ H x v Q I rx h
  obtain ⟨i, rfl, q⟩ := h
  obtain ⟨t, rfl⟩ := rx
  exact rule i t s _ _ ⟨.int (g i), H, I.tok _, ⟨_, rfl⟩, q⟩
theorem un_neg : UnR X (unaryOp .USub) (rU fun i => .int (-i)) := unI fun _ _ _ _ _ q => neg_int q

/-! ### bools among ints: n += (a < b) -/
end

/-! ### comparisons -/
/-- the scalars that == tells apart as data does -/
def scal : V → V → Bool
  | .non, .non => true | .non, .int _ => true | .int _, .non => true | .non, .bl _ => true | .bl _, .non => true | .non, .str _ => true | .str _, .non => true
  | .int _, .int _ => true | .bl _, .bl _ => true | .str _, .str _ => true | .byt _, .byt _ => true
  | .int _, .str _ => true | .str _, .int _ => true | .bl _, .str _ => true | .str _, .bl _ => true
  | _, _ => false
def rEq : R2 := fun x y H Q => scal x y = true ∧ Q (.bl (decide (x = y))) H

theorem dec_int {i j : Int} : decide (V.int i = V.int j) = (i == j) := by
  rw [Bool.eq_iff_iff]
  simp
theorem dec_bl {i j : Bool} : decide (V.bl i = V.bl j) = (i == j) := by
  rw [Bool.eq_iff_iff]
  simp
theorem dec_str {i j : Str} : decide (V.str i = V.str j) = (i == j) := by
  rw [Bool.eq_iff_iff]
  simp
theorem dec_byt {i j : Array UInt8} : decide (V.byt i = V.byt j) = (i.toList == j.toList) := by
  rw [Bool.eq_iff_iff]
  cases i
  cases j
  simp

section
variable {X : Cx} {a b c : Expr} {ta tb tc : TE} {pos : Pos}
theorem fin_bl {pins : List (Addr × Obj)} {σ : St} {H : Hp} {s : Shared} {Q : VK} {k k' : Bool} (I : Inv X pins σ H s) (q : Q (.bl k) H) (e : k = k') : EP X pins σ Q (.bool k') s := by
  subst e
  exact ⟨.bl k, H, I, rfl, q⟩
theorem op_eq : OpR X (compareOp .Eq) rEq := by
  intro pins s σ H x y v u Q I rx ry h
  obtain ⟨hs, q⟩ := h
  cases x with
  | non =>
    cases rx
    cases y with
    | non => cases ry; exact PySem.EqNone.eq_none_none (fin_bl I q (by simp))
    | bl j => cases ry; exact PySem.EqNone.eq_none_bool (fin_bl I q (by simp))
    | int j => obtain ⟨t', rfl⟩ := ry; exact PySem.EqNone.eq_none_int (fin_bl I q (by simp))
    | str j => obtain ⟨t', rfl⟩ := ry; exact PySem.EqNone.eq_none_str (fin_bl I q (by simp))
    | _ => exact absurd (show false = true from hs) Bool.false_ne_true
  | bl i =>
    cases rx
    cases y with
    | non => cases ry; exact PySem.EqNone.eq_bool_none (fin_bl I q (by simp))
    | bl j => cases ry; exact eq_bool (fin_bl I q dec_bl)
    | str j => obtain ⟨t', rfl⟩ := ry; exact PySem.EqMixed.eq_bool_str (fin_bl I q (by simp))
    | _ => exact absurd (show false = true from hs) Bool.false_ne_true
  | int i =>
    obtain ⟨t, rfl⟩ := rx
    cases y with
    | non => cases ry; exact PySem.EqNone.eq_int_none (fin_bl I q (by simp))
    | int j => obtain ⟨t', rfl⟩ := ry; exact eq_int (fin_bl I q dec_int)
    | str j => obtain ⟨t', rfl⟩ := ry; exact PySem.EqMixed.eq_int_str (fin_bl I q (by simp))
    | _ => exact absurd (show false = true from hs) Bool.false_ne_true
  | str i =>
    obtain ⟨t, rfl⟩ := rx
    cases y with
    | non => cases ry; exact PySem.EqNone.eq_str_none (fin_bl I q (by simp))
    | bl j => cases ry; exact PySem.EqMixed.eq_str_bool (fin_bl I q (by simp))
    | int j => obtain ⟨t', rfl⟩ := ry; exact PySem.EqMixed.eq_str_int (fin_bl I q (by simp))
    | str j => obtain ⟨t', rfl⟩ := ry; exact eq_str (fin_bl I q dec_str)
    | _ => exact absurd (show false = true from hs) Bool.false_ne_true
  | byt i =>
    obtain ⟨t, rfl⟩ := rx
    cases y with
    | byt j => obtain ⟨t', rfl⟩ := ry; exact PySem.W.eq_bytes (fin_bl I q dec_byt)
    | _ => exact absurd (show false = true from hs) Bool.false_ne_true
  | _ => cases y <;> exact absurd (show false = true from hs) Bool.false_ne_true

theorem op_le : OpR X (compareOp .LtE) (rI0 fun i j => .bl (decide (i ≤ j))) := opB0 fun _ _ _ _ _ _ _ q => le_int q
theorem op_gt : OpR X (compareOp .Gt) (rI0 fun i j => .bl (decide (j < i))) := opB0 fun _ _ _ _ _ _ _ q => gt_int q
theorem op_ge : OpR X (compareOp .GtE) (rI0 fun i j => .bl (decide (j ≤ i))) := opB0 fun _ _ _ _ _ _ _ q => ge_int q

theorem nomark (b : Expr) {op : CmpOp} (h : op ≠ .In := by decide) (h2 : op ≠ .NotIn := by decide) : behindInMarks op b = false := by
  have e1 : (op == CmpOp.In) = false := by cases op <;> first | rfl | exact absurd rfl h
  have e2 : (op == CmpOp.NotIn) = false := by cases op <;> first | rfl | exact absurd rfl h2
  cases b <;> simp [behindInMarks, e1, e2]
/-- a comparison as a value; hm: nomark b, or (for in, not in) by with_unfolding_all rfl -/
theorem pe_cmpR {op : CmpOp} {r : R2} (ho : OpR X (compareOp op) r) (ha : PE X a ta) (hb : PE X b tb) (hm : behindInMarks op b = false) : PE X (.Compare a [op] [b] pos) (tOp r ta tb) := by
  intro pins s σ H Q I h
  exact wpAny_Compare1 (binT ha hb I h fun v u s2 x y H2 I2 rx ry q => ho pins s2 σ H2 x y v u Q I2 rx ry q) hm
/-- a reading of a value as a test -/
def tTest (t : TE) : TT := fun σ H Q => t σ H fun x H' => ∃ k, x = .bl k ∧ Q k H'
theorem pt_cmpR {op : CmpOp} {r : R2} (ho : OpR X (compareOp op) r) (ha : PE X a ta) (hb : PE X b tb) (hm : behindInMarks op b = false) : PT X (.Compare a [op] [b] pos) (tTest (tOp r ta tb)) := by
  intro pins s σ H Q I h
  refine wpAny_isTrue_Compare1 (thn (ha pins s σ H _ I h) fun v s1 ⟨x, H1, I1, r1, q1⟩ => thn (hb pins s1 σ H1 _ I1 q1) fun u s2 ⟨y, H2, I2, r2, q2⟩ =>
    thn (ho pins s2 σ H2 x y v u _ I2 r1 r2 q2) fun c s3 ⟨z, H3, I3, r3, k, e, q3⟩ => ?_) hm
  subst e
  cases r3
  exact wpAny_truthy_bool ⟨H3, I3, q3⟩

/-! ### truth -/
theorem line63 : (sizeLine : Nat) < 2 ^ 63 := by rw [sizeLine_eq]; decide

/-! ### strs and bytes -/

/-! ### scalar builtins, by CallR -/
theorem vals1 {x : V} {us : List Value} (r : Vals [x] us) : ∃ u, us = [u] ∧ RelV x u := by
  cases r with
  | cons r1 r2 => cases r2; exact ⟨_, rfl, r1⟩
theorem call_abs : CallR X (.builtin "abs") (fun xs H Q => ∃ i, xs = [.int i] ∧ Q (.int (if i < 0 then -i else i)) H) := by
  intro pins s σ H xs us Q I r h
  obtain ⟨i, rfl, q⟩ := h
  obtain ⟨u, rfl, t, rfl⟩ := vals1 r
  exact call_abs_int fun u tk => ⟨.int (if i < 0 then -i else i), H, I.tok _, ⟨_, rfl⟩, q⟩
end
end L2

namespace L2
open PySem PySem.Spec PyProof.Rows

/-! ### an instance, its attributes a map -/

section
variable {prog : Program} {w : World} {A : Around} {E : Value → Shared → Prop} {s : Shared} {K : PySem.W.Frag} {x dx C f : Addr} {mA : Str → Option Value} {name : Str} {v : Value}

end

/-! ### the attributes as a list of pairs -/

theorem RelO.some_of {v : V} {o : Option Value} (r : RelO (some v) o) : ∃ u, o = some u ∧ RelV v u := by
  cases o with
  | none => exact (show False from r).elim
  | some u => exact ⟨u, rfl, r⟩

section
variable {P : Program} {w : World} {H H' : Hp} {h h' : Heap} {a C dx : Addr} {fs fs' : List (Str × V)}
end

/-! ### what of the text a class must have -/

section
variable {X : Cx} {pins : List (Addr × Obj)} {σ : St} {H : Hp} {s : Shared} {a C dx : Addr} {fs : List (Str × V)} {f : Str} {v : V} {A : Around} {E : Value → Shared → Prop}

end

/-! ### readings and rules -/

section
variable {X : Cx} {o e value : Expr} {f : Str} {pos pos' tpos : Pos} {ta tv : TE}

end

/-! ### isinstance -/
section
variable {X : Cx} {pins : List (Addr × Obj)} {σ : St} {H : Hp} {s : Shared} {A : Around} {E : Value → Shared → Prop} {Q : Value → Shared → Prop} {c : Value} {b : Bool}
end
end L2

namespace L2
open PySem PySem.Spec PyProof.Rows

/-! ### room -/
structure Room (k : Nat) (A : Around) : Prop where
  hd : A.handled = none
  dp : A.depth + 3 * k + 5 < recursionLimit
  un : A.units + 16 * k + 200 < cLine
theorem Room.mono {j k : Nat} {A : Around} (r : Room k A) (h : j ≤ k) : Room j A := ⟨r.hd, by have := r.dp; omega, by have := r.un; omega⟩
theorem Room.deeper {k : Nat} {A : Around} (r : Room (k + 1) A) (env : Env) : Room k (A.deeper env) :=
  ⟨r.hd, by have := r.dp; show A.depth + 1 + 3 * k + 5 < _; omega, by have := r.un; show A.units + 3 + 16 * k + 200 < _; omega⟩
theorem Room.depth {k : Nat} {A : Around} (r : Room k A) : A.depth < recursionLimit := by have := r.dp; omega
theorem Room.units {k : Nat} {A : Around} (r : Room k A) : A.units + 64 < cLine := by have := r.un; omega

/-! ### argument lists and displays -/
def tNil : TA := fun _ H Q => Q [] H
def tCons (ta : TE) (tr : TA) : TA := fun σ H Q => ta σ H fun x H1 => tr σ H1 fun xs H2 => Q (x :: xs) H2
section
variable {X : Cx} {e : Expr} {es : List Expr} {te : TE} {t : TA} {pos : Pos}
theorem pa_nil : PA X [] tNil := fun _ _ _ _ H Q I h => Calls.spliced_nil ⟨[], H, I, .nil, h⟩
theorem pa_cons (ha : PE X e te) (hr : PA X es t) (hs : starEach (e :: es) X.env = (false, eval e X.env) :: starEach es X.env := by rfl) : PA X (e :: es) (tCons te t) := by
  intro pos pins s σ H Q I h
  rw [hs]
  show wpAny _ _ (spliced ((false, eval e X.env) :: backTo pos (starEach es X.env))) _ _ s
  refine Calls.spliced_cons (thn (ha pins s σ H _ I h) fun u s1 ⟨x, H1, I1, r1, q1⟩ => ?_)
  exact thn (hr pos pins s1 σ H1 _ I1 q1) fun us s2 ⟨xs, H2, I2, r2, q2⟩ => ⟨x :: xs, H2, I2, .cons r1 r2, q2⟩

def tLst (t : TA) : TE := fun σ H Q => t σ H fun xs H1 => xs.length ≤ sizeLine ∧ ∀ p, H1 p = none → Q (.ref p) (upd H1 p (.lst xs))
theorem pe_lst (h : PA X es t) : PE X (.List es pos) (tLst t) := by
  intro pins s σ H Q I hq
  refine wpAny_List_spliced (thn (h pos pins s σ H _ I hq) fun us s1 ⟨xs, H1, I1, r, z, q⟩ => ⟨by rw [← r.length]; exact z, ?_⟩)
  have hf : H1 s1.heap.objs.size = none := I1.hok.fresh (Nat.le_refl _)
  refine ⟨.ref s1.heap.objs.size, upd H1 s1.heap.objs.size (.lst xs), I1.laid (t' := s1.toks) (fun b u e => Heap.get?_push_of_some _ e) (Nat.le_refl _) ?_, rfl, q _ hf⟩
  exact ⟨z, us, 0, r, Heap.get?_push_size _ rfl⟩
end

/-! ### what a def promises -/
/-- a def's promise: the bound arguments in the parameters' order, the heap, the wanted end, the wanted exception -/
abbrev Sp := List V → Hp → VK → XK → Prop
/-- how an exception lies behind a call (file 08 gives it): the callers' frames, abstract heap and state ahead of the call, the wish, the exception, the state -/
abbrev CXT := List Env → Hp → Shared → XK → Value → Shared → Prop

/-- the state at a call -/
structure Env0 (P : Program) (w : World) (K : PySem.W.Frag) (mg : Str → Option Value) (base : Heap) (A : Around) (outer : List Env) (s : Shared) (H : Hp) : Prop where
  frames : A.frames = some outer
  mod : Mod K mg base
  bs : ∀ b o, base.get? b = some o → s.heap.get? b = some o ∧ H b = none
  bsz : base.objs.size ≤ s.heap.objs.size
  funs : s.heap.FunFrames base outer
  frf : ∀ b ∈ frs outer, H b = none
  hok : HOk P w H s.heap
  bare : AllBare s.gens
/-- a call's end -/
def CE (outer : List Env) (P : Program) (w : World) (H : Hp) (s : Shared) (Q : VK) (u : Value) (s' : Shared) : Prop :=
  ∃ v H', s'.os = s.os ∧ AllBare s'.gens ∧ Un (frs outer) [] H H' s.heap s'.heap ∧ HOk P w H' s'.heap ∧ RelV v u ∧ Q v H'
def CR (CX : CXT) (outer : List Env) (P : Program) (w : World) (H : Hp) (s : Shared) (Q : VK) (E : XK) (r : Result) (s' : Shared) : Prop :=
  match r with
  | .ok (.ret u) => CE outer P w H s Q u s'
  | .ok _ => False
  | .error e => CX outer H s E e s'
structure FnOk (P : Program) (w : World) (K : PySem.W.Frag) (mg : Str → Option Value) (base : Heap) (CX : CXT) (k : Nat) (f : Addr) (fd : FuncData) (ps : List Str) (sp : Sp) : Prop where
  len : ∀ vs H Q E, sp vs H Q E → vs.length = ps.length
  run : ∀ (A : Around) (outer : List Env) (s : Shared) (H : Hp) (args : Args) (us : List Value) (vs : List V) (Q : VK) (E : XK), Room k A → Env0 P w K mg base A outer s H → BindsTo s fd args (ps.zip us) → Vals vs us → sp vs H Q E →
    codeAny (model P w) A (.call (.ref f) args) (CR CX outer P w H s Q E) s

section
variable {X : Cx} {pins : List (Addr × Obj)} {σ : St} {H : Hp} {s s' : Shared}
/-- from a body: what a callee wants -/
theorem Inv.env0 (I : Inv X pins σ H s) : Env0 X.prog X.w X.K X.mg X.base X.A X.stack s H :=
  ⟨I.ok.frames, I.ok.mod, I.bs, Nat.le_trans I.ok.bsz I.sz, I.stack, I.stkFree, I.hok, I.bare⟩
/-- behind a call -/
theorem Inv.after {Q : VK} {u : Value} (I : Inv X pins σ H s) (h : CE X.stack X.prog X.w H s Q u s') : EP X pins σ Q u s' := by
  obtain ⟨v, H', os, bare, un, hok, r, q⟩ := h
  obtain ⟨hh, g, d, t, os'⟩ := s'
  obtain rfl : os' = s.os := os
  exact ⟨v, H', I.call (h' := hh) (g' := g) (d' := d) (t' := t) (ch := []) un hok bare (fun b z => absurd z (by simp)), r, q⟩
end

/-! ### calls -/
/-- f(..): the written arguments, then the defaults dvs; E: what is wanted of an exception -/
def tCall (sp : Sp) (dvs : List V) (E : XK) (t : TA) : TE := fun σ H Q => t σ H fun vs H1 => sp (vs ++ dvs) H1 Q E

/-- how the parameters are bound: us the positional arguments, kw the keywords' values by name, ds the defaults that fill up -/
def Binds (K : PySem.W.Frag) (fd : FuncData) (ps : List Str) (ds : List Value) : Prop :=
  ∀ (s : Shared) (us : List Value), K.In s.heap → (us ++ ds).length = ps.length → BindsTo s fd ⟨us, []⟩ (ps.zip (us ++ ds))
/-- every parameter is given -/
theorem Binds.all {K : PySem.W.Frag} {fd : FuncData} {ps : List Str} (h : ∀ us : List Value, us.length = ps.length → bindArgs fd ⟨us, []⟩ = pure (ps.zip us)) : Binds K fd ps [] := fun s us _ hl => by
  rw [List.append_nil] at hl ⊢
  exact .of_eq (h us hl)

/-- an exception of a callee reaches what this body wants of exceptions -/
def Passes (CX : CXT) (X : Cx) (E : XK) : Prop := ∀ (pins : List (Addr × Obj)) (σ : St) (H : Hp) (s : Shared) (e : Value) (s' : Shared), Inv X pins σ H s → CX X.stack H s E e s' → X.xe e s'

section
variable {X : Cx} {CX : CXT} {k : Nat} {f C : Addr} {fd : FuncData} {ps : List Str} {sp : Sp} {dvs : List V} {ds : List Value} {E : XK} {x m : Str} {p pos apos : Pos} {e o : Expr} {es : List Expr} {ta : TE} {t : TA}

/-- the callee runs -/
theorem run_fn {pins : List (Addr × Obj)} {σ : St} {H : Hp} {s : Shared} {Q : VK} {us : List Value} {vs : List V} (F : FnOk X.prog X.w X.K X.mg X.base CX k f fd ps sp) (hr : Room k X.A) (hb : Binds X.K fd ps ds) (hd : Vals dvs ds) (hx : Passes CX X E)
    (I : Inv X pins σ H s) (r : Vals vs us) (h : sp (vs ++ dvs) H Q E) : wpAny (model X.prog X.w) X.A (call (.ref f) us) (EP X pins σ Q) X.xe s := by
  have r2 : Vals (vs ++ dvs) (us ++ ds) := r.append hd
  have hl : (us ++ ds).length = ps.length := by rw [← r2.length]; exact F.len _ _ _ _ h
  refine wpAny_call (codeAny_mono (F.run X.A X.stack s H ⟨us, []⟩ (us ++ ds) (vs ++ dvs) Q E hr I.env0 (hb s us I.kIn hl) r2 h) fun r s' hq => ?_)
  cases r with
  | error e => exact hx pins σ H s e s' I hq
  | ok fl =>
    cases fl with
    | ret u => exact I.after hq
    | next => exact False.elim hq
    | brk => exact False.elim hq
    | cont => exact False.elim hq

theorem pe_call (F : FnOk X.prog X.w X.K X.mg X.base CX k f fd ps sp) (hr : Room k X.A) (hg : Gl X x) (hm : X.mg x = some (.ref f)) (hk : PySem.W.keepIn X.K (.ref f) = true) (hb : Binds X.K fd ps ds) (hd : Vals dvs ds) (hx : Passes CX X E)
    (ha : PA X (e :: es) t) (hdb : (x == ("__debug__" : Str)) = false := by decide) (he : starEach (e :: es) X.env = (false, eval e X.env) :: starEach es X.env := by rfl) (hpl : (backTo pos (starEach es X.env)).any (·.1) = false := by rfl) :
    PE X (.Call (.Name x p) (e :: es) [] pos) (tCall sp dvs E t) := by
  intro pins s σ H Q I h
  refine wpAny_Call_Name_kw (ld_glob I hg hm ?_ hdb)
  refine PySem.W.callWith_K (h₀ := X.base) I.ok.mod.kin hk (thn (ha pos pins s σ H _ I h) fun us s1 ⟨vs, H1, I1, r, q⟩ => ⟨I1.kIn, ?_⟩) he hpl
  exact run_fn F hr hb hd hx I1 r q

end

/-! ### keywords -/
section
variable {X : Cx} {CX : CXT} {k : Nat} {f C : Addr} {fd : FuncData} {ps ks : List Str} {sp : Sp} {E : XK} {x m : Str} {p pos apos kpos : Pos} {e o : Expr} {es : List Expr} {kws : List Keyword} {te ta : TE} {t tk : TA} {nm : Option Str}

variable {g : List Value → List Value → List Value} {gV : List V → List V → List V}
end

/-! ### a def's body keeps its promise -/
/-- names: the parameters first -/
structure FnScope (N P : List Str) (sc : Scope) : Prop where
  kind : sc.kind = .function
  co : sc.isCoroutine = false
  gen : sc.isGenerator = false
  nd : N.Nodup
  pre : N.take P.length = P
  par : ∀ x ∈ P, sc.names.lookup x = some .local ∨ sc.names.lookup x = some .cell
  nofree : ∀ y ∈ sc.names, y.2 ≠ .free

theorem bindL_out {kindOf : Str → Option NameKind} {x : Str} : ∀ {binds : List (Str × Value)} {m : Str → Option Value}, (∀ v, (x, v) ∉ binds) → bindL kindOf binds m x = m x
  | [], _, _ => rfl
  | (n, v) :: r, m, h => by
    unfold bindL
    rw [bindL_out fun w hw => h w (List.mem_cons_of_mem _ hw)]
    split
    · have : x ≠ n := by rintro rfl; exact h v List.mem_cons_self
      simp [this]
    · rfl
theorem bindC_out {kindOf : Str → Option NameKind} {x : Str} : ∀ {binds : List (Str × Value)} {m : Str → Option Value}, (∀ v, (x, v) ∉ binds) → bindC kindOf binds m x = m x
  | [], _, _ => rfl
  | (n, v) :: r, m, h => by
    unfold bindC
    rw [bindC_out fun w hw => h w (List.mem_cons_of_mem _ hw)]
    split
    · rfl
    · have : x ≠ n := by rintro rfl; exact h v List.mem_cons_self
      simp [this]
theorem bindL_get {kindOf : Str → Option NameKind} {x : Str} {v : Value} : ∀ {P : List Str} {vs : List Value} {i : Nat} {m : Str → Option Value}, P.Nodup → P[i]? = some x → vs[i]? = some v → kindOf x = some .local →
    bindL kindOf (P.zip vs) m x = some v
  | [], _, _, _, _, h, _, _ => by simp at h
  | _ :: _, [], _, _, _, _, h, _ => by simp at h
  | p :: P, w :: vs, 0, m, nd, h1, h2, hk => by
    simp at h1 h2; subst h1; subst h2
    show bindL kindOf ((p, w) :: P.zip vs) m p = _
    unfold bindL
    rw [bindL_out fun v hv => (List.nodup_cons.mp nd).1 (List.of_mem_zip hv).1, if_pos hk]
    simp
  | p :: P, w :: vs, i + 1, m, nd, h1, h2, hk => by
    show bindL kindOf ((p, w) :: P.zip vs) m x = _
    unfold bindL
    exact bindL_get (i := i) (List.nodup_cons.mp nd).2 (by simpa using h1) (by simpa using h2) hk
theorem bindC_get {kindOf : Str → Option NameKind} {x : Str} {v : Value} : ∀ {P : List Str} {vs : List Value} {i : Nat} {m : Str → Option Value}, P.Nodup → P[i]? = some x → vs[i]? = some v → kindOf x ≠ some .local →
    bindC kindOf (P.zip vs) m x = some v
  | [], _, _, _, _, h, _, _ => by simp at h
  | _ :: _, [], _, _, _, _, h, _ => by simp at h
  | p :: P, w :: vs, 0, m, nd, h1, h2, hk => by
    simp at h1 h2; subst h1; subst h2
    show bindC kindOf ((p, w) :: P.zip vs) m p = _
    unfold bindC
    rw [bindC_out fun v hv => (List.nodup_cons.mp nd).1 (List.of_mem_zip hv).1, if_neg hk]
    simp
  | p :: P, w :: vs, i + 1, m, nd, h1, h2, hk => by
    show bindC kindOf ((p, w) :: P.zip vs) m x = _
    unfold bindC
    exact bindC_get (i := i) (List.nodup_cons.mp nd).2 (by simpa using h1) (by simpa using h2) hk

/-- the names' values at the entry -/
def start (N : List Str) (vs : List V) : St := vs.map some ++ List.replicate (N.length - vs.length) none

/-- the context of a def's body, at its entry; an exception leaves the frame, then lies as CX says -/
def cxOf (CX : CXT) (P : Program) (w : World) (K : PySem.W.Frag) (mg : Str → Option Value) (base : Heap) (N : List Str) (qual : Str) (scope : Scope) (f : Addr) (cd : Value) (A : Around) (outer : List Env) (s : Shared) (H : Hp) (E : XK) : Cx where
  prog := P
  w := w
  K := K
  mg := mg
  base := base
  A := A.deeper (envOfC qual scope s.heap.objs.size f cd)
  N := N
  s_0 := s
  H_0 := H
  env := envOfC qual scope s.heap.objs.size f cd
  outer := outer
  stack := envOfC qual scope s.heap.objs.size f cd :: outer
  ex := []
  calm := true
  fn := fun _ => true
  pn := []
  xe := fun e s' => wpAny (model P w) (A.deeper (envOfC qual scope s.heap.objs.size f cd)) (leaving (envOfC qual scope s.heap.objs.size f cd) e) (fun _ s'' => CX outer H s E e s'') (fun e' s'' => CX outer H s E e' s'') s'

theorem cell_has {sc : Scope} {n : Nat} {x : Str} (h : sc.names.lookup x = some .cell) : ∃ c, (cellsFrom n sc.names []).lookup x = some c := by
  have q := PySem.W.cellsFrom_some sc.names n [] (.inl h)
  exact Option.isSome_iff_exists.mp q

theorem inv_start {CX : CXT} {P : Program} {w : World} {K : PySem.W.Frag} {mg : Str → Option Value} {base : Heap} {N ps : List Str} {qual : Str} {scope : Scope} {f : Addr} {cd : Value} {A : Around} {outer : List Env} {s s1 : Shared} {H : Hp} {E : XK} {us : List Value} {vs : List V}
    (S : FnScope N ps scope) (hd : A.handled = none) (e0 : Env0 P w K mg base A outer s H) (hl : vs.length = ps.length) (r : Vals vs us)
    (x : InCallC s s.heap.objs.size (bindL (envOfC qual scope s.heap.objs.size f cd).kindOf (ps.zip us) fun _ => none) (cellsFrom (s.heap.objs.size + 1) scope.names []) (bindC (envOfC qual scope s.heap.objs.size f cd).kindOf (ps.zip us) fun _ => none) s1) :
    Inv (cxOf CX P w K mg base N qual scope f cd A outer s H E) [] (start N vs) H s1 := by
  have hpl : ps.length ≤ N.length := by have := congrArg List.length S.pre; rw [List.length_take] at this; omega
  obtain ⟨h1, tk, rfl, hk⟩ := x.done
  have noA : ∀ b : Addr, b ∉ (cxOf CX P w K mg base N qual scope f cd A outer s H E).ex := fun b z => absurd (show b ∈ ([] : List Addr) from z) (by simp)
  refine ⟨⟨e0.mod, S.kind, rfl, rfl, Nat.le_refl _, fun y z c h1 h2 => ?_, fun y hy => ?_, fun y c _ h => ?_, fun _ => hd, Around.frames_deeper e0.frames, .inr ⟨rfl, rfl⟩, fun b z => absurd z (noA b), e0.bs, e0.bsz, fun b _ _ => noA b, fun b z => absurd z (noA b), e0.funs, e0.frf⟩,
    rfl, e0.bare, Un.kept hk, ⟨_, x.toInCall.ns, fun i y v h1 h2 h3 => ?_⟩, fun y c h => ⟨_, x.cell y c h⟩, e0.hok.fresh (Nat.le_refl _), fun y c h => ?_, fun p hp => absurd (show p ∈ ([] : List (Addr × Obj)) from hp) (by simp), e0.hok.kept hk, ?_⟩
  · exact name_of_addr x.apart (PySem.mem_of_lookup h1) (PySem.mem_of_lookup h2)
  · have hy : scope.names.lookup y = some .cell ∨ scope.names.lookup y = some .free := hy
    rcases hy with hy | hy
    · exact cell_has hy
    · exact absurd rfl (S.nofree _ (PySem.mem_of_lookup hy))
  · exact Nat.le_of_lt (x.above y c (PySem.mem_of_lookup h))
  · have hi : i < vs.length := by
      unfold start at h2
      by_cases hi : i < vs.length
      · exact hi
      · rw [List.getElem?_append_right (by simpa using hi)] at h2
        rw [List.getElem?_replicate] at h2
        split at h2 <;> cases h2
    have ha : vs[i]? = some v := by
      unfold start at h2
      rw [List.getElem?_append_left (by simpa using hi), List.getElem?_map] at h2
      cases e : vs[i]? with
      | none => rw [e] at h2; cases h2
      | some a => rw [e] at h2; cases h2; rfl
    obtain ⟨u, hu, rv⟩ := r.get ha
    have hp : ps[i]? = some y := by
      rw [← S.pre, List.getElem?_take_of_lt (by omega)]; exact h1
    have ndP : ps.Nodup := by rw [← S.pre]; exact S.nd.sublist (List.take_sublist _ _)
    refine ⟨u, rv, ?_⟩
    rcases S.par y (List.mem_of_getElem? hp) with k | k
    · exact .inl ⟨k, bindL_get ndP hp hu k⟩
    · obtain ⟨c, e⟩ := cell_has (n := s.heap.objs.size + 1) k
      refine .inr ⟨.inl k, c, e, ?_⟩
      have q := x.cell y c e
      rw [bindC_get ndP hp hu (by show scope.names.lookup y ≠ _; rw [k]; decide)] at q
      exact q
  · exact e0.hok.fresh (Nat.le_of_lt (x.above y c (PySem.mem_of_lookup h)))
  · unfold start
    show _ = N.length
    rw [List.length_append, List.length_map, List.length_replicate]
    omega

/-- THE RULE: a def (or a method) of the text, by its body. The body's reading t is chosen for each entry; it is run at the parameters' values -/
theorem fn_of {CX : CXT} {P : Program} {w : World} {K : PySem.W.Frag} {mg : Str → Option Value} {base : Heap} {k : Nat} {f : Addr} {name qual : Str} {params : Arguments} {body : List Stmt} {scope : Scope} {dV kV doc pm cdv ct oc : Value} {an od : Option Addr}
    {osl : Array (Option Value)} {N ps : List Str} {sp : Sp} (lk : K.lookup f = some ⟨oc, od, .func (PySem.W.fnOf name qual params body scope dV kV doc pm an cdv ct), osl⟩) (hcd : PySem.W.codeIn K cdv qual = true) (S : FnScope N ps scope)
    (len : ∀ vs H Q E, sp vs H Q E → vs.length = ps.length)
    (hbody : ∀ (A : Around) (outer : List Env) (s : Shared) (H : Hp) (vs : List V) (Q : VK) (E : XK), Room k (A.deeper (envOfC qual scope s.heap.objs.size f cdv)) → sp vs H Q E →
      ∃ t, PSs (cxOf CX P w K mg base N qual scope f cdv A outer s H E) body t ∧ t { nx := fun _ H' => Q .non H', rt := Q } (start N vs) H) :
    FnOk P w K mg base CX (k + 1) f (PySem.W.fnOf name qual params body scope dV kV doc pm an cdv ct) ps sp := by
  refine ⟨len, fun A outer s H args us vs Q E hr e0 hb r hsp => ?_⟩
  have hl := len _ _ _ _ hsp
  have KX : K.In s.heap := e0.mod.kin.keeps fun b o e => (e0.bs b o e).1
  have lim : s.heap.NoLimit := e0.mod.nolimit.keeps fun b o e => (e0.bs b o e).1
  have hkind : ∀ y ∈ ps.zip us, scope.names.lookup y.1 = some .local ∨ (scope.names.lookup y.1 = some .cell ∧ ((cellsFrom (s.heap.objs.size + 1) scope.names []).lookup y.1).isSome = true) := fun ⟨n, v⟩ hy => by
    rcases S.par n (List.of_mem_zip hy).1 with q | q
    · exact .inl q
    · exact .inr ⟨q, PySem.W.cellsFrom_some _ _ _ (.inl q)⟩
  refine codeAny_call_function hr.depth (KX _ _ lk) rfl S.co S.gen rfl (PySem.W.codeRec_of KX hcd) (hb _ _ _ _ ?_)
  refine wpAny_newFunctionEnv_cells S.kind hkind fun env he s1 x => ?_
  subst he
  refine ⟨lim.keeps x.toInCall.keep, codeAny_func ?_⟩
  obtain ⟨t, ht, hq⟩ := hbody A outer s H vs Q E (hr.deeper _) hsp
  have I : Inv (cxOf CX P w K mg base N qual scope f cdv A outer s H E) [] (start N vs) H s1 := inv_start S hr.hd e0 hl r x
  refine wpAny_mono (ht [] s1 (start N vs) H _ I hq) (fun fl s' hs => ?_) fun e s' hs => hs
  have fin : ∀ {σ' : St} {H' : Hp} {v : V} {u : Value}, Inv (cxOf CX P w K mg base N qual scope f cdv A outer s H E) [] σ' H' s' → RelV v u → Q v H' → CE outer P w H s Q u s' :=
    fun {σ' H' v u} J rv q => ⟨v, H', J.os, J.bare, J.base, J.hok, rv, q⟩
  cases fl with
  | ret u =>
    obtain ⟨v, σ', H', J, rv, q⟩ := hs
    exact fin J rv q
  | next =>
    obtain ⟨σ', H', J, q⟩ := hs
    exact fin (v := V.non) (u := Value.none) J rfl q
  | brk =>
    obtain ⟨_, _, _, q⟩ := hs
    exact False.elim q
  | cont =>
    obtain ⟨_, _, _, q⟩ := hs
    exact False.elim q
end L2

namespace L2
open PySem PySem.Spec PyProof.Rows
section
variable {X : Cx} {x : Str} {p pos : Pos} {e : Expr} {es : List Expr} {t : TA} {id T : String} {r : List V → Hp → VK → Prop}

def tCB (r : List V → Hp → VK → Prop) (t : TA) : TE := fun σ H Q => t σ H fun vs H1 => r vs H1 Q
/-- f(e, ..), f a built-in function -/
theorem pe_callB (hc : CallR X (.builtin id) r) (hg : Gl X x) (hm : X.mg x = none) (hv : bootBuiltins x = some (.builtin id)) (ha : PA X (e :: es) t) (hn : x ≠ "__name__" := by decide) (hdb : (x == ("__debug__" : Str)) = false := by decide)
    (he : starEach (e :: es) X.env = (false, eval e X.env) :: starEach es X.env := by rfl) (hpl : (backTo pos (starEach es X.env)).any (·.1) = false := by rfl) : PE X (.Call (.Name x p) (e :: es) [] pos) (tCB r t) := by
  intro pins s σ H Q I h
  refine wpAny_Call_Name_kw (ld_blt I hg hm hv ?_ hn hdb)
  exact PyProof.Rows.callWith_builtin1 (thn (ha pos pins s σ H _ I h) fun us s1 ⟨vs, H1, I1, r1, q1⟩ => hc pins s1 σ H1 vs us Q I1 r1 q1) he hpl
/-- T(e, ..), T a built-in type -/
theorem pe_callTy (hc : CallR X (.type T) r) (hg : Gl X x) (hm : X.mg x = none) (hv : bootBuiltins x = some (.type T)) (ha : PA X (e :: es) t) (hn : x ≠ "__name__" := by decide) (hdb : (x == ("__debug__" : Str)) = false := by decide)
    (he : starEach (e :: es) X.env = (false, eval e X.env) :: starEach es X.env := by rfl) (hpl : (backTo pos (starEach es X.env)).any (·.1) = false := by rfl) : PE X (.Call (.Name x p) (e :: es) [] pos) (tCB r t) := by
  intro pins s σ H Q I h
  refine wpAny_Call_Name_kw (ld_blt I hg hm hv ?_ hn hdb)
  exact PyProof.Rows.callWith_type1 (thn (ha pos pins s σ H _ I h) fun us s1 ⟨vs, H1, I1, r1, q1⟩ => hc pins s1 σ H1 vs us Q I1 r1 q1) he hpl
end
end L2

namespace HT
open PySem PyProof.Rows

section
open PySem.SeqAt
open PySem.AutoSeq1 (wpAny_loadPart')
open PySem.MeetsSeq PySem.MeetsSeq2 PySem.MeetsSeq3

end

section
variable {prog : Program} {w : World} {A : Around} {E : Value → Shared → Prop} {s : Shared}

/-! ### t[a:b], not the whole -/
/-- a slice's bound as a place among n (d where it is left out) -/
def sIx (n d : Nat) : Option Int → Nat
  | none => d
  | some v => if v < 0 then (v + (n : Int)).toNat else min v.toNat n
theorem sIx_none (n d : Nat) : sIx n d none = d := rfl
theorem sIx_nat (n d k : Nat) : sIx n d (some (k : Int)) = min k n := by
  show (if (k : Int) < 0 then ((k : Int) + (n : Int)).toNat else min (k : Int).toNat n) = min k n
  rw [if_neg (by omega), Int.toNat_natCast]
theorem sIx_le (n d : Nat) (hd : d ≤ n) (o : Option Int) : sIx n d o ≤ n := by
  cases o with
  | none => exact hd
  | some v =>
    show (if v < 0 then (v + (n : Int)).toNat else min v.toNat n) ≤ n
    by_cases hv : v < 0
    · rw [if_pos hv]; omega
    · rw [if_neg hv]; exact Nat.min_le_right _ _
theorem clip_eq (v : Int) (n d : Nat) : (if v < 0 then max (v + (n : Int)) 0 else min v (n : Int)) = ((sIx n d (some v) : Nat) : Int) := by
  show (if v < 0 then max (v + (n : Int)) 0 else min v (n : Int)) = (((if v < 0 then (v + (n : Int)).toNat else min v.toNat n) : Nat) : Int)
  by_cases hv : v < 0
  · simp only [if_pos hv]; omega
  · simp only [if_neg hv]; omega
theorem adjust_gen (lo hi : Option Int) (n : Nat) : Builtin.Slice.sliceAdjust lo hi 1 (n : Int) = (((sIx n 0 lo : Nat) : Int), ((sIx n n hi : Nat) : Int)) := by
  have h1 : ¬ ((1 : Int) < 0) := by omega
  unfold Builtin.Slice.sliceAdjust
  simp only [h1, if_false]
  refine Prod.ext ?_ ?_
  · cases lo with
    | none => rfl
    | some v => exact clip_eq v n 0
  · cases hi with
    | none => rfl
    | some v => exact clip_eq v n n
theorem places_gen (i j : Nat) : Builtin.Slice.slicePlaces (i : Int) (j : Int) 1 = j - i := by
  unfold Builtin.Slice.slicePlaces
  have h1 : (1 : Int) > 0 := by omega
  simp only [h1, if_true, Int.ediv_one]
  split <;> omega
theorem slicePart_ {v : Value} {o : Option Int} {Q : Option Int → Shared → Prop} (p : IsPart v o) (h : Q o s) : wpAny (model prog w) A (Builtin.Slice.slicePartIndex v) Q E s := by
  cases p with
  | none => exact slicePart_none h
  | int i t => exact slicePart_int h
theorem sliceApplied_gen {sl : Addr} {vl vu : Value} {lo hi : Option Int} {n : Nat} {Q : Int × Int × Nat → Shared → Prop} (hs : s.heap.IsSliceOf sl vl vu .none) (pl : IsPart vl lo) (pu : IsPart vu hi)
    (h : Q (((sIx n 0 lo : Nat) : Int), 1, sIx n n hi - sIx n 0 lo) s) : wpAny (model prog w) A (Builtin.Slice.sliceApplied (.ref sl) (pure (n : Int))) Q E s := by
  obtain ⟨os, hos, hcs, hds⟩ := id hs
  unfold Builtin.Slice.sliceApplied Builtin.Slice.sliceFields
  refine wpAny_bind (wpAny_bind (wpAny_field hos hds (x := vl) rfl (wpAny_bind (wpAny_field hos hds (x := vu) rfl (wpAny_bind (wpAny_field hos hds (x := .none) rfl (wpAny_pure ?_)))))))
  refine wpAny_bind (slicePart_none ?_)
  show wpAny _ _ (if ((1 : Int) == 0) = true then _ else _) _ _ s
  rw [if_neg (by decide)]
  refine wpAny_bind (slicePart_ pl (wpAny_bind (slicePart_ pu (wpAny_bind (wpAny_pure ?_)))))
  show wpAny _ _ (match Builtin.Slice.sliceAdjust lo hi 1 (n : Int) with | (lo, hi) => pure (lo, (1 : Int), Builtin.Slice.slicePlaces lo hi 1)) _ _ s
  rw [adjust_gen lo hi n]
  show wpAny _ _ (pure (((sIx n 0 lo : Nat) : Int), (1 : Int), Builtin.Slice.slicePlaces ((sIx n 0 lo : Nat) : Int) ((sIx n n hi : Nat) : Int) 1)) _ _ s
  rw [places_gen]
  exact wpAny_pure h
theorem pick_gen (xs : Array Value) (i k : Nat) : ((List.range k).filterMap fun (m : Nat) => xs[((i : Int) + (m : Int) * 1).toNat]?).toArray = ((xs.toList.drop i).take k).toArray := by
  have e : (fun (m : Nat) => xs[((i : Int) + (m : Int) * 1).toNat]?) = fun m => xs[i + m]? := by
    funext m
    have : ((i : Int) + (m : Int) * 1).toNat = i + m := by omega
    rw [this]
  rw [e]
  have := pick_run xs i k
  rw [List.filterMap_map] at this
  have e2 : ((fun x => xs[x]?) ∘ fun x => i + x) = fun m => xs[i + m]? := rfl
  rw [e2] at this
  rw [this]

theorem getItem_tuple_cut {t sl : Addr} {items : Array Value} {vl vu : Value} {lo hi : Option Int} {Q : Value → Shared → Prop} (ht : IsTup s.heap t items) (hs : s.heap.IsSliceOf sl vl vu .none) (pl : IsPart vl lo) (pu : IsPart vu hi)
    (hw : ¬ (sIx items.size 0 lo = 0 ∧ sIx items.size items.size hi = items.size))
    (h : Q (.ref s.heap.objs.size) { s with heap := s.heap.push { cls := .type "tuple", data := .seq ((items.toList.drop (sIx items.size 0 lo)).take (sIx items.size items.size hi - sIx items.size 0 lo)).toArray } })
    (hsz : items.size ≤ sizeLine) : wpAny (model prog w) A (getItem (.ref t) (.ref sl)) Q E s := by
  have htake : sizeOk (.seq ((items.toList.drop (sIx items.size 0 lo)).take (sIx items.size items.size hi - sIx items.size 0 lo)).toArray) := by
    show ((items.toList.drop (sIx items.size 0 lo)).take (sIx items.size items.size hi - sIx items.size 0 lo)).toArray.size ≤ sizeLine
    rw [List.size_toArray, List.length_take, List.length_drop, Array.length_toList]
    omega
  have hj : sIx items.size items.size hi ≤ items.size := sIx_le _ _ (Nat.le_refl _) hi
  obtain ⟨os, hos, hcs, hds⟩ := id hs
  have hTs : s.TypeIs (.ref sl) "slice" := ⟨os, hos, hcs⟩
  unfold getItem
  try with_reducible refine wpAny_holding ?_
  first | refine wpAny_bind (wpAny_pure ?_) | skip
  refine wpAny_bind (wpAny_sequenceKey ht.typeIs (by decide) ?_)
  refine wpAny_bind (wpAny_callSpecial?_slot (name := Str.ofString "__getitem__") ht.typeIs PyProof.Rows.slot_tuple_getitem
    (wpAny_call_entry PyProof.Rows.slot_tuple_getitem ht.typeIs entry_tuple_getitem ?_ (args_tuple_getitem _ _)))
  show wpAny _ _ (Builtin.Tuple.tupleItemsOf (.ref t) >>= _) _ _ s
  refine wpAny_bind (tupleItemsOf_ ht ?_)
  refine wpAny_bind (wpAny_typeOf hTs ?_)
  rw [if_pos (by decide)]
  refine wpAny_bind (sliceApplied_gen hs pl pu ?_)
  have hno : ¬ ((((sIx items.size 0 lo : Nat) : Int) == 0 && (1 : Int) == 1 && (sIx items.size items.size hi - sIx items.size 0 lo) == items.size) = true) := by
    intro q
    rw [Bool.and_eq_true, Bool.and_eq_true] at q
    have q1 : ((sIx items.size 0 lo : Nat) : Int) = 0 := eq_of_beq q.1.1
    have q2 : sIx items.size items.size hi - sIx items.size 0 lo = items.size := eq_of_beq q.2
    exact hw ⟨by omega, by omega⟩
  show wpAny _ _ (if (((sIx items.size 0 lo : Nat) : Int) == 0 && (1 : Int) == 1 && (sIx items.size items.size hi - sIx items.size 0 lo) == items.size) = true then _ else _) _ _ s
  rw [if_neg hno, pick_gen]
  first
    | exact wpAny_bind (m := Builtin.Tuple.tupleExact _) (wpAny_newObj_type (wpAny_pure ⟨_, rfl, wpAny_pure h⟩) htake)
    | exact wpAny_bind (m := Builtin.Tuple.tupleExact _) (wpAny_newObj_type (wpAny_bind (wpAny_pure (wpAny_pure ⟨_, rfl, wpAny_pure h⟩))) htake)
    | exact wpAny_bind (wpAny_bind (m := Builtin.Tuple.tupleExact _) (wpAny_newObj_type (wpAny_pure (wpAny_pure ⟨_, rfl, wpAny_pure h⟩)) htake))
    | exact wpAny_bind (wpAny_bind (m := Builtin.Tuple.tupleExact _) (wpAny_newObj_type (wpAny_pure ⟨_, rfl, wpAny_pure h⟩) htake))
end
end HT

namespace L2
open PySem PySem.Spec PyProof.Rows

/-! ### the parts of a slice -/
abbrev TO := St → Hp → (Option Int → Hp → Prop) → Prop
/-- a slice's part (left out, or an int) -/
def PO (X : Cx) (e : Option Expr) (t : TO) : Prop :=
  ∀ (pins : List (Addr × Obj)) (s : Shared) (σ : St) (H : Hp) (Q : Option Int → Hp → Prop), Inv X pins σ H s → t σ H Q →
    wpAny (model X.prog X.w) X.A (evalPart e X.env) (fun u s' => ∃ o H', Inv X pins σ H' s' ∧ IsPart u o ∧ Q o H') X.xe s
def tNoPart : TO := fun _ H Q => Q none H
def tPart (t : TE) : TO := fun σ H Q => t σ H fun x H1 => ∃ i, x = .int i ∧ Q (some i) H1

section
variable {X : Cx} {e : Expr} {te : TE} {lo hi : Option Expr} {tl th : TO} {pos p2 : Pos}

theorem po_none : PO X none tNoPart := by
  intro pins s σ H Q I h
  rw [evalPart_none]
  exact wpAny_pure ⟨none, H, I, .none, h⟩
theorem po_some (h : PE X e te) : PO X (some e) (tPart te) := by
  intro pins s σ H Q I hw
  rw [evalPart_some]
  refine thn (h pins s σ H _ I hw) fun u s1 ⟨x, H1, I1, r1, q1⟩ => ?_
  obtain ⟨i, rfl, q⟩ := q1
  obtain ⟨t, rfl⟩ := r1
  exact ⟨some i, H1, I1, .int i t, q⟩

/-- what a slice of a value is, by values: the slice object stands at sl -/
def SlR (X : Cx) (r : V → Option Int → Option Int → Hp → VK → Prop) : Prop :=
  ∀ (pins : List (Addr × Obj)) (s : Shared) (σ : St) (H : Hp) (x : V) (v vl vu : Value) (lo hi : Option Int) (sl : Addr) (Q : VK), Inv X pins σ H s → RelV x v → s.heap.IsSliceOf sl vl vu .none → IsPart vl lo → IsPart vu hi → r x lo hi H Q →
    ∃ T id, typeLookup (.type T) "__getitem__" = pure (some (.builtin id)) ∧ s.TypeIs v T ∧ wpAny (model X.prog X.w) X.A (getItem v (.ref sl)) (EP X pins σ Q) X.xe s
theorem SlR.or {r r' : V → Option Int → Option Int → Hp → VK → Prop} (h : SlR X r) (h' : SlR X r') : SlR X (fun x lo hi H Q => r x lo hi H Q ∨ r' x lo hi H Q) := by
  intro pins s σ H x v vl vu lo hi sl Q I rx hs pl pu q
  rcases q with q | q
  · exact h pins s σ H x v vl vu lo hi sl Q I rx hs pl pu q
  · exact h' pins s σ H x v vl vu lo hi sl Q I rx hs pl pu q
def tSl (r : V → Option Int → Option Int → Hp → VK → Prop) (te : TE) (tl th : TO) : TE := fun σ H Q => te σ H fun x H1 => tl σ H1 fun l H2 => th σ H2 fun u H3 => r x l u H3 Q
/-- a[lo:hi], any a -/
theorem pe_slice {r : V → Option Int → Option Int → Hp → VK → Prop} (hr : SlR X r) (he : PE X e te) (hl : PO X lo tl) (hu : PO X hi th) : PE X (.Subscript e (.Slice lo hi none p2) pos) (tSl r te tl th) := by
  intro pins s σ H Q I h
  refine Subscript_ (thn (he pins s σ H _ I h) fun v s1 ⟨x, H1, I1, r1, q1⟩ => ?_)
  refine wpAny_Slice (thn (hl pins s1 σ H1 _ I1 q1) fun vl s2 ⟨l, H2, I2, pl, q2⟩ => thn (hu pins s2 σ H2 _ I2 q2) fun vu s3 ⟨u, H3, I3, pu, q3⟩ => ?_)
  rw [evalPart_none]
  refine wpAny_pure ?_
  have I4 : Inv X pins σ H3 { s3 with heap := s3.heap.push { cls := .type "slice", data := .fields #[vl, vu, .none] } } := I3.kept (t' := s3.toks) fun b ob q => Heap.get?_push_of_some _ q
  obtain ⟨T, id, hT, ht, hg⟩ := hr pins { s3 with heap := s3.heap.push { cls := .type "slice", data := .fields #[vl, vu, .none] } } σ H3 x v vl vu l u s3.heap.objs.size Q I4 r1 (Heap.IsSliceOf.new ..) pl pu q3
  show wpAny (model X.prog X.w) X.A (subscriptTail e (.Slice lo hi none p2) v (.ref s3.heap.objs.size)) (EP X pins σ Q) X.xe { s3 with heap := s3.heap.push { cls := .type "slice", data := .fields #[vl, vu, .none] } }
  exact tail_any (ops := [.ref s3.heap.objs.size, v]) ht hT hg (by with_unfolding_all rfl)

/-- the items of xs[lo:hi] -/
def cutV (xs : List V) (lo hi : Option Int) : List V := (xs.drop (HT.sIx xs.length 0 lo)).take (HT.sIx xs.length xs.length hi - HT.sIx xs.length 0 lo)
theorem cutV_length (xs : List V) (lo hi : Option Int) : (cutV xs lo hi).length ≤ xs.length := by
  unfold cutV
  rw [List.length_take, List.length_drop]
  omega
/-- t[lo:hi], not the whole of it (the whole would be t itself) -/
def rSlT (K : PySem.W.Frag) : V → Option Int → Option Int → Hp → VK → Prop := fun x lo hi H Q => ∃ a xs, x = .ref a ∧ SqT K H a xs ∧
  ¬ (HT.sIx xs.length 0 lo = 0 ∧ HT.sIx xs.length xs.length hi = xs.length) ∧ ∀ p, H p = none → Q (.ref p) (upd H p (.tup (cutV xs lo hi)))
theorem sl_tup : SlR X (rSlT X.K) := by
  intro pins s σ H x v vl vu lo hi sl Q I rx hs pl pu h
  obtain ⟨a, xs, rfl, hx, hw, q⟩ := h
  cases rx
  obtain ⟨its, r, ht, hz⟩ := I.tuple hx
  have hlen : its.toArray.size = xs.length := by rw [List.size_toArray]; exact r.length.symm
  refine ⟨"tuple", _, PyProof.Rows.slot_tuple_getitem.lookup, ht.typeIs, ?_⟩
  refine HT.getItem_tuple_cut ht hs pl pu (by rw [hlen]; exact hw) ?_ (by rw [hlen]; exact hz)
  rw [hlen]
  refine ⟨.ref s.heap.objs.size, _, I.laid (t' := s.toks) (o := .tup (cutV xs lo hi)) (fun b ob q => Heap.get?_push_of_some _ q) (Nat.le_refl _) ?_, rfl, q _ (I.hok.fresh (Nat.le_refl _))⟩
  exact ⟨Nat.le_trans (cutV_length xs lo hi) hz, _, (r.drop (HT.sIx xs.length 0 lo)).take (HT.sIx xs.length xs.length hi - HT.sIx xs.length 0 lo), IsTup.new _ _⟩

/-! ### t < u, t + u -/
end
end L2

namespace L2
open PySem PySem.Spec PyProof.Rows

/-! ### places -/
/-- the place that an index of any sign means -/
def ixN (n : Nat) (i : Int) : Option Nat := if 0 ≤ i then (if i < n then some i.toNat else none) else if -(n : Int) ≤ i then some (i + n).toNat else none
def atI {α : Type} (xs : List α) (i : Int) : Option α := (ixN xs.length i).bind fun j => xs[j]?
theorem ixN_seq {n : Nat} {i : Int} {j : Nat} (h : ixN n i = some j) : seqIndex? i n = some j ∧ j < n ∧ -(n : Int) ≤ i ∧ i < n := by
  unfold ixN at h
  by_cases h0 : 0 ≤ i
  · rw [if_pos h0] at h
    by_cases h1 : i < n
    · rw [if_pos h1] at h
      have e : i.toNat = j := Option.some.inj h
      exact ⟨by rw [seqIndex_of h0 h1, e], by omega, by omega, h1⟩
    · rw [if_neg h1] at h; cases h
  · rw [if_neg h0] at h
    by_cases h1 : -(n : Int) ≤ i
    · rw [if_pos h1] at h
      have e : (i + n).toNat = j := Option.some.inj h
      exact ⟨by rw [seqIndex_neg (by omega) h1, e], by omega, h1, by omega⟩
    · rw [if_neg h1] at h; cases h
theorem atI_get {α : Type} {xs : List α} {i : Int} {v : α} (h : atI xs i = some v) : ∃ j, seqIndex? i xs.length = some j ∧ xs[j]? = some v ∧ j < xs.length ∧ -(xs.length : Int) ≤ i ∧ i < xs.length := by
  unfold atI at h
  cases e : ixN xs.length i with
  | none => rw [e] at h; cases h
  | some j =>
    rw [e] at h
    obtain ⟨h1, h2, h3, h4⟩ := ixN_seq e
    exact ⟨j, h1, h, h2, h3, h4⟩
theorem atI_nat {α : Type} {xs : List α} {j : Nat} {v : α} (h : xs[j]? = some v) : atI xs (j : Int) = some v := by
  have hj : j < xs.length := (List.getElem?_eq_some_iff.mp h).1
  have e : ixN xs.length (j : Int) = some j := by
    unfold ixN
    rw [if_pos (by omega), if_pos (by omega)]; simp
  unfold atI; rw [e]; exact h
theorem atI_last {α : Type} (xs : List α) (v : α) : atI (xs ++ [v]) (-1) = some v := by
  have hl : (xs ++ [v]).length = xs.length + 1 := by simp
  have e : ixN (xs ++ [v]).length (-1) = some xs.length := by
    unfold ixN
    rw [hl, if_neg (by decide), if_pos (by omega)]
    congr 1
    omega
  unfold atI
  rw [e]
  show (xs ++ [v])[xs.length]? = some v
  simp

/-! ### what may be subscripted -/
/-- what stands as an index of a plain subscript -/
def PlainIx (b : Expr) : Prop := ∀ o i, subscripted b false o i = operate [o, i] (getItem o i)
/-- a subscript by values -/
def IxR (X : Cx) (r : R2) : Prop :=
  ∀ (value slice : Expr) (pins : List (Addr × Obj)) (s : Shared) (σ : St) (H : Hp) (x y : V) (v u : Value) (Q : VK), Inv X pins σ H s → RelV x v → RelV y u → r x y H Q →
    subscripted slice false v u = operate [v, u] (getItem v u) → wpAny (model X.prog X.w) X.A (subscriptTail value slice v u) (EP X pins σ Q) X.xe s
/-- a call of a builtin's method by values: the receiver, the arguments -/
def MtR (X : Cx) (id : String) (r : V → List V → Hp → VK → Prop) : Prop :=
  ∀ (pins : List (Addr × Obj)) (s : Shared) (σ : St) (H : Hp) (x : V) (xs : List V) (v : Value) (us : List Value) (Q : VK), Inv X pins σ H s → RelV x v → Vals xs us → r x xs H Q →
    wpAny (model X.prog X.w) X.A (call (.builtin id) (v :: us)) (EP X pins σ Q) X.xe s
section
variable {X : Cx} {a b : Expr} {ta tb : TE} {pos : Pos}
/-- a[b] -/
theorem pe_ix {r : R2} (hr : IxR X r) (ha : PE X a ta) (hb : PE X b tb) (hs : PlainIx b) : PE X (.Subscript a b pos) (tOp r ta tb) := by
  intro pins s σ H Q I h
  exact Subscript_ (binT ha hb I h fun v u s2 x y H2 I2 rx ry q => hr a b pins s2 σ H2 x y v u Q I2 rx ry q (hs _ _))

def rIxL (K : PySem.W.Frag) : R2 := fun x y H Q => ∃ p xs i v, x = .ref p ∧ y = .int i ∧ SqL K H p xs ∧ atI xs i = some v ∧ Q v H
def rIxT (K : PySem.W.Frag) : R2 := fun x y H Q => ∃ p xs i v, x = .ref p ∧ y = .int i ∧ SqT K H p xs ∧ atI xs i = some v ∧ Q v H
theorem ix_list : IxR X (rIxL X.K) := by
  intro value slice pins s σ H x y v u Q I rx ry h hs
  obtain ⟨p, xs, i, z, rfl, rfl, hq, he, q⟩ := h
  cases rx
  obtain ⟨t, rfl⟩ := ry
  obtain ⟨its, r, pl, hz⟩ := I.list hq
  obtain ⟨j, h1, h2, h3, h4, h5⟩ := atI_get he
  obtain ⟨w, ew, rw'⟩ := r.get h2
  have hl := r.length
  have hn := line63
  have fin : EP X pins σ Q w s := ⟨z, H, I, rw', q⟩
  by_cases h0 : 0 ≤ i
  · have hj : i.toNat = j := by
      rw [seqIndex_of h0 h5] at h1
      exact Option.some.inj h1
    exact item_listR pl.isList h0 (by omega) (by rw [hj]; simpa using ew) fin hs
  · have hj : (i + (its.toArray.size : Int)).toNat = j := by
      rw [seqIndex_neg (by omega) h4] at h1
      rw [List.size_toArray, ← hl]
      exact Option.some.inj h1
    exact subscriptTail_builtinR (x := w) pl.isList.typeIs slot_list_getitem.lookup
      (wpAny_getItem_list_neg (Q := fun r s' => r = w ∧ EP X pins σ Q r s') pl.isList (by omega) (by rw [List.size_toArray] <;> omega) (by omega) (by rw [hj]; simpa using ew) ⟨rfl, fin⟩) hs
theorem ix_tup : IxR X (rIxT X.K) := by
  intro value slice pins s σ H x y v u Q I rx ry h hs
  obtain ⟨p, xs, i, z, rfl, rfl, hq, he, q⟩ := h
  cases rx
  obtain ⟨t, rfl⟩ := ry
  obtain ⟨its, r, pl, hz⟩ := I.tuple hq
  obtain ⟨j, h1, h2, h3, h4, h5⟩ := atI_get he
  obtain ⟨w, ew, rw'⟩ := r.get h2
  have hl := r.length
  have hn := line63
  have fin : EP X pins σ Q w s := ⟨z, H, I, rw', q⟩
  exact subscriptTail_builtinR (x := w) pl.typeIs slot_tuple_getitem.lookup
    (getItem_tuple (j := j) (Q := fun r s' => r = w ∧ EP X pins σ Q r s') pl (by omega) (by omega) (by rw [List.size_toArray, ← hl]; exact h1) (by simpa using ew) ⟨rfl, fin⟩) hs

/-! ### xs[i] = v, any sign -/
/-- the list's object behind a store -/
theorem mapSeq_set (its : List Value) (n j : Nat) (u : Value) : Obj.mapSeq (·.setIfInBounds j u) { cls := .type "list", data := .seq its.toArray n } = { cls := .type "list", data := .seq (its.set j u).toArray n } := by
  simp [Obj.mapSeq]
theorem Inv.lst {pins : List (Addr × Obj)} {σ : St} {H : Hp} {s : Shared} {p : Addr} {xs : List V} (I : Inv X pins σ H s) (h : H p = some (.lst xs)) :
    ∃ (its : List Value) (n : Nat), Vals xs its ∧ s.heap.get? p = some { cls := .type "list", data := .seq its.toArray n } ∧ xs.length ≤ sizeLine := by
  obtain ⟨z, its, n, r, e⟩ := I.hok p _ h
  exact ⟨its, n, r, e, z⟩
/-- the list at p is written by an update of its object -/
theorem Inv.lstUpd {pins : List (Addr × Obj)} {σ : St} {H : Hp} {s : Shared} {p : Addr} {xs ys : List V} {its its' : List Value} {n n' : Nat} {f : Obj → Obj} (I : Inv X pins σ H s) (h : H p = some (.lst xs))
    (ho : s.heap.get? p = some { cls := .type "list", data := .seq its.toArray n }) (hf : f { cls := .type "list", data := .seq its.toArray n } = { cls := .type "list", data := .seq its'.toArray n' }) (r : Vals ys its') (hz : ys.length ≤ sizeLine) (t : Nat) :
    Inv X pins σ (upd H p (.lst ys)) { s with heap := s.heap.update p f, toks := t } := by
  have e : (s.heap.update p f).get? p = some { cls := .type "list", data := .seq its'.toArray n' } := by
    rw [Heap.get?_update_self f ho (by rw [hf] <;> rfl), hf]
  refine I.write (x := p) (e := p) (by rw [h]; trivial) (.inl rfl) (fun b u hb q => (Heap.get?_update_other _ _ (Ne.symm hb)).trans q) ⟨_, e⟩ ?_
  exact ⟨hz, its', n', r, e⟩
def rSetL : V → V → V → Hp → (Hp → Prop) → Prop := fun o i v H Q => ∃ p xs k j, o = .ref p ∧ i = .int k ∧ H p = some (.lst xs) ∧ ixN xs.length k = some j ∧ Q (upd H p (.lst (xs.set j v)))
theorem set_list : PSet X rSetL := by
  intro pins s σ H o i v ov iv u Q I ro ri rv h
  obtain ⟨p, xs, k, j, rfl, rfl, hp, hj, q⟩ := h
  cases ro
  obtain ⟨t, rfl⟩ := ri
  obtain ⟨its, n, r, ho, hz⟩ := I.lst hp
  obtain ⟨h1, h2, h3, h4⟩ := ixN_seq hj
  have hl := r.length
  have hn := line63
  have I' : Inv X pins σ (upd H p (.lst (xs.set j v))) { s with heap := s.heap.update p (Obj.mapSeq (·.setIfInBounds j u)) } :=
    I.lstUpd hp ho (mapSeq_set its n j u) (r.set rv j) (by rw [List.length_set]; exact hz) s.toks
  by_cases h0 : 0 ≤ k
  · have hk : k.toNat = j := by
      rw [seqIndex_of h0 h4] at h1
      exact Option.some.inj h1
    exact PySem.W.ki_setAt ho h0 (by omega) (by rw [List.size_toArray, ← hl]; exact h4) (by rw [hk]; exact ⟨_, I', q⟩)
  · have hk : (k + (its.toArray.size : Int)).toNat = j := by
      rw [seqIndex_neg (by omega) h3] at h1
      rw [List.size_toArray, ← hl]
      exact Option.some.inj h1
    exact PySem.W.ki_setBack ho (by omega) (by rw [List.size_toArray, ← hl]; exact h3) (by omega) (by rw [hk]; exact ⟨_, I', q⟩)

/-! ### slices -/
theorem slice_bounds (lo hi : Option Int) (n : Nat) : (sliceBounds lo hi none n).1 = ((HT.sIx n 0 lo : Nat) : Int) ∧ (sliceBounds lo hi none n).2.1 = ((HT.sIx n n hi : Nat) : Int) ∧ (sliceBounds lo hi none n).2.2 = 1 := by
  refine ⟨?_, ?_, rfl⟩
  · cases lo with
    | none => simp [sliceBounds, HT.sIx]
    | some i =>
      simp only [sliceBounds, HT.sIx, Option.getD_none, show (1 : Int) > 0 by decide, if_true]
      by_cases h : i < 0
      · simp only [h, if_true] <;> omega
      · simp only [h, if_false] <;> omega
  · cases hi with
    | none => simp [sliceBounds, HT.sIx]
    | some i =>
      simp only [sliceBounds, HT.sIx, Option.getD_none, show (1 : Int) > 0 by decide, if_true]
      by_cases h : i < 0
      · simp only [h, if_true] <;> omega
      · simp only [h, if_false] <;> omega
theorem slicePick_cut (its : List Value) (lo hi : Option Int) : slicePick its.toArray lo hi none = ((its.drop (HT.sIx its.length 0 lo)).take (HT.sIx its.length its.length hi - HT.sIx its.length 0 lo)).toArray := by
  obtain ⟨h1, h2, h3⟩ := slice_bounds lo hi its.toArray.size
  unfold slicePick
  rw [h1, h2, h3]
  simp only [sliceRange_one, pick_run, List.size_toArray] <;> rfl
/-- xs[lo:hi] of a list: a new list -/
def rSlL (K : PySem.W.Frag) : V → Option Int → Option Int → Hp → VK → Prop := fun x lo hi H Q => ∃ a xs, x = .ref a ∧ SqL K H a xs ∧ ∀ p, H p = none → Q (.ref p) (upd H p (.lst (cutV xs lo hi)))
theorem sl_list : SlR X (rSlL X.K) := by
  intro pins s σ H x v vl vu lo hi sl Q I rx hs pl pu h
  obtain ⟨a, xs, rfl, hx, q⟩ := h
  cases rx
  obtain ⟨its, r, ht, hz⟩ := I.list hx
  have hlen := r.length
  refine ⟨"list", _, slot_list_getitem.lookup, ht.isList.typeIs, ?_⟩
  refine wpAny_getItem_list_slice ht.isList hs pl pu .none (by simp) ?_ (by rw [List.size_toArray] <;> omega)
  rw [slicePick_cut, ← hlen]
  refine ⟨.ref s.heap.objs.size, _, I.laid (t' := s.toks) (o := .lst (cutV xs lo hi)) (fun b ob q => Heap.get?_push_of_some _ q) (Nat.le_refl _) ?_, rfl, q _ (I.hok.fresh (Nat.le_refl _))⟩
  exact ⟨Nat.le_trans (cutV_length xs lo hi) hz, _, 0, (r.drop (HT.sIx xs.length 0 lo)).take (HT.sIx xs.length xs.length hi - HT.sIx xs.length 0 lo), Heap.get?_push_size _ rfl⟩

/-! ### in, not in: flat items -/
def flatV : V → Bool
  | .non => true
  | .bl _ => true
  | .int _ => true
  | .str _ => true
  | _ => false
/-- == of flat values -/
def eqV : V → V → Bool
  | .non, .non => true
  | .bl a, .bl b => a == b
  | .bl a, .int b => (if a then 1 else 0) == b
  | .int a, .bl b => a == (if b then 1 else 0)
  | .int a, .int b => a == b
  | .str a, .str b => a == b
  | _, _ => false
theorem eqAt_V {A : Around} {s : Shared} {y x : V} {u v : Value} (ry : RelV y u) (rx : RelV x v) (fy : flatV y = true) (fx : flatV x = true) : SeqAt.EqAt A s u v (eqV y x) := by
  cases y with
  | non =>
    cases ry
    cases x with
    | non => cases rx; exact SeqAt.EqAt.same _
    | bl b => cases rx; exact SeqAt.EqAt.none_bool b
    | int b => obtain ⟨t, rfl⟩ := rx; exact SeqAt.EqAt.none_int b t
    | str b => obtain ⟨t, rfl⟩ := rx; exact SeqAt.EqAt.none_str b t
    | _ => exact absurd (show false = true from fx) Bool.false_ne_true
  | bl a =>
    cases ry
    cases x with
    | non => cases rx; exact SeqAt.EqAt.bool_none a
    | bl b => cases rx; exact SeqAt.EqAt.bool_bool a b
    | int b => obtain ⟨t, rfl⟩ := rx; exact SeqAt.EqAt.bool_int a b t
    | str b => obtain ⟨t, rfl⟩ := rx; exact SeqAt.EqAt.bool_str a b t
    | _ => exact absurd (show false = true from fx) Bool.false_ne_true
  | int a =>
    obtain ⟨t', rfl⟩ := ry
    cases x with
    | non => cases rx; exact SeqAt.EqAt.int_none a t'
    | bl b => cases rx; exact SeqAt.EqAt.int_bool a t' b
    | int b => obtain ⟨t, rfl⟩ := rx; exact SeqAt.EqAt.int_int a t' b t
    | str b => obtain ⟨t, rfl⟩ := rx; exact SeqAt.EqAt.int_str a t' b t
    | _ => exact absurd (show false = true from fx) Bool.false_ne_true
  | str a =>
    obtain ⟨t', rfl⟩ := ry
    cases x with
    | non => cases rx; exact SeqAt.EqAt.str_none a t'
    | bl b => cases rx; exact SeqAt.EqAt.str_bool a t' b
    | int b => obtain ⟨t, rfl⟩ := rx; exact SeqAt.EqAt.str_int a t' b t
    | str b => obtain ⟨t, rfl⟩ := rx; exact SeqAt.EqAt.str_str a t' b t
    | _ => exact absurd (show false = true from fx) Bool.false_ne_true
  | _ => exact absurd (show false = true from fy) Bool.false_ne_true
/-- the items' answers, read off the values (a value's own answer does not lean on its token) -/
def eqU (x : V) (u : Value) : Bool := match u with
  | .none => eqV .non x
  | .bool b => eqV (.bl b) x
  | .int i _ => eqV (.int i) x
  | .str z _ => eqV (.str z) x
  | _ => false
theorem eqU_of {x y : V} {u : Value} (r : RelV y u) (f : flatV y = true) : eqU x u = eqV y x := by
  cases y with
  | non => cases r; rfl
  | bl b => cases r; rfl
  | int i => obtain ⟨t, rfl⟩ := r; rfl
  | str z => obtain ⟨t, rfl⟩ := r; rfl
  | _ => exact absurd (show false = true from f) Bool.false_ne_true
theorem mem_eqAt {A : Around} {s : Shared} {x : V} {v : Value} (rx : RelV x v) (fx : flatV x = true) : ∀ {xs : List V} {us : List Value}, Vals xs us → xs.all flatV = true → ∀ u ∈ us, SeqAt.EqAt A s u v (eqU x u)
  | _, _, .nil, _ => fun u hu => by cases hu
  | y :: xs, u :: us, .cons r t, f => fun u' hu => by
    rw [List.all_cons, Bool.and_eq_true] at f
    rcases List.mem_cons.mp hu with rfl | hu
    · rw [eqU_of r f.1]; exact eqAt_V r rx f.1 fx
    · exact mem_eqAt rx fx t f.2 u' hu

/-! ### len, list(x), tuple(x) of any list or tuple that is read -/
theorem call_len_seq : CallR X (.builtin "len") (fun xs H Q => ∃ p ys, xs = [.ref p] ∧ (SqL X.K H p ys ∨ SqT X.K H p ys) ∧ Q (.int ys.length) H) := by
  intro pins s σ H xs us Q I r h
  obtain ⟨p, ys, rfl, hq, q⟩ := h
  obtain ⟨u, rfl, rx⟩ := vals1 r
  cases rx
  have hn := line63
  rcases hq with hq | hq
  · obtain ⟨its, r', pl, hz⟩ := I.list hq
    have hlen := r'.length
    exact Calls.call_len_list pl.isList (by simp only [List.size_toArray] <;> omega) ⟨.int ys.length, H, I.tok _, ⟨s.toks + 1, by rw [List.size_toArray, hlen]⟩, q⟩
  · obtain ⟨its, r', pl, hz⟩ := I.tuple hq
    have hlen := r'.length
    exact len_tuple pl (by simp only [List.size_toArray] <;> omega) ⟨.int ys.length, H, I.tok _, ⟨s.toks + 1, by rw [List.size_toArray, hlen]⟩, q⟩
theorem call_list_of : CallR X (.type "list") (fun xs H Q => ∃ p ys, xs = [.ref p] ∧ (SqL X.K H p ys ∨ SqT X.K H p ys) ∧ ∀ l, H l = none → Q (.ref l) (upd H l (.lst ys))) := by
  intro pins s σ H xs us Q I r h
  obtain ⟨p, ys, rfl, hq, q⟩ := h
  obtain ⟨u, rfl, rx⟩ := vals1 r
  cases rx
  have fin : ∀ (its : List Value), Vals ys its → ys.length ≤ sizeLine → ∀ (h' : Heap) (c' : Nat), (∀ b o', s.heap.get? b = some o' → h'.get? b = some o') →
      h'.get? s.heap.objs.size = some { cls := .type "list", dict := none, data := .seq its.toArray c', slots := #[] } → EP X pins σ Q (.ref s.heap.objs.size) { s with heap := h' } := fun its r' hz h' c' kp e =>
    ⟨.ref s.heap.objs.size, _, I.laid (t' := s.toks) kp (Nat.le_refl _) (show ObjOk X.prog X.w _ h' _ (.lst ys) from ⟨hz, its, c', r', e⟩), rfl, q _ (I.hok.fresh (Nat.le_refl _))⟩
  rcases hq with hq | hq
  · obtain ⟨its, r', pl, hz⟩ := I.list hq
    have hlen := r'.length
    obtain ⟨o, ho, hc, n, hd⟩ := pl.isList
    exact call_list_seq p (.inl rfl) ho hc hd (fun h' c' kp e => fin its r' hz h' c' kp e) (by simp only [List.size_toArray] <;> omega)
  · obtain ⟨its, r', pl, hz⟩ := I.tuple hq
    have hlen := r'.length
    obtain ⟨o, ho, hc, n, hd⟩ := pl
    exact call_list_seq p (.inr rfl) ho hc hd (fun h' c' kp e => fin its r' hz h' c' kp e) (by simp only [List.size_toArray] <;> omega)
theorem call_tuple_of : CallR X (.type "tuple") (fun xs H Q => ∃ p ys, xs = [.ref p] ∧ ((SqL X.K H p ys ∧ ∀ l, H l = none → Q (.ref l) (upd H l (.tup ys))) ∨ (SqT X.K H p ys ∧ Q (.ref p) H))) := by
  intro pins s σ H xs us Q I r h
  obtain ⟨p, ys, rfl, h⟩ := h
  obtain ⟨u, rfl, rx⟩ := vals1 r
  cases rx
  rcases h with ⟨hq, q⟩ | ⟨hq, q⟩
  · obtain ⟨its, r', pl, hz⟩ := I.list hq
    have hlen := r'.length
    refine call_tuple_list pl.isList (fun h' kp => ?_) (by simp only [List.size_toArray] <;> omega)
    have I1 : Inv X pins σ H { s with heap := h' } := I.kept (t' := s.toks) kp
    have I2 : Inv X pins σ (upd H h'.objs.size (.tup ys)) { s with heap := h'.push { cls := .type "tuple", data := .seq its.toArray } } :=
      I1.laid (t' := s.toks) (fun b o e => Heap.get?_push_of_some _ e) (Nat.le_refl _) (show ObjOk X.prog X.w _ _ _ (.tup ys) from ⟨hz, its, r', IsTup.new _ _⟩)
    exact ⟨.ref h'.objs.size, _, I2, rfl, q _ (I1.hok.fresh (Nat.le_refl _))⟩
  · obtain ⟨its, r', pl, hz⟩ := I.tuple hq
    exact call_tuple_same pl ⟨.ref p, H, I, rfl, q⟩

/-! ### the call of a builtin's method: o.m(..) -/
/-- the value is of that builtin type -/
def tyV (K : PySem.W.Frag) (T : String) (x : V) (H : Hp) : Prop := match x with
  | .str _ => T = "str"
  | .int _ => T = "int"
  | .ref p => (T = "list" ∧ ∃ xs, SqL K H p xs) ∨ (T = "tuple" ∧ ∃ o, K.lookup p = some o ∧ o.cls = .type "tuple" ∧ o.dict = none) ∨
      (T = "dict" ∧ ((∃ kvs, H p = some (.dK kvs)) ∨ ∃ kvs, H p = some (.dT kvs))) ∨ (T = "set" ∧ ∃ S n, H p = some (.set S n))
  | _ => False
theorem tyV_is {pins : List (Addr × Obj)} {σ : St} {H : Hp} {s : Shared} {T : String} {x : V} {v : Value} (I : Inv X pins σ H s) (r : RelV x v) (ty : tyV X.K T x H) :
    s.TypeIs v T ∧ ∀ a, v = .ref a → ∃ ob, s.heap.get? a = some ob ∧ ob.dict = none := by
  cases x with
  | str z =>
    obtain ⟨t, rfl⟩ := r
    cases (show T = "str" from ty)
    exact ⟨typeIs_str s z t, fun _ e => nomatch e⟩
  | int i =>
    obtain ⟨t, rfl⟩ := r
    cases (show T = "int" from ty)
    exact ⟨typeIs_int s i t, fun _ e => nomatch e⟩
  | ref p =>
    cases r
    rcases ty with ⟨rfl, xs, hq⟩ | ⟨rfl, o, hk, hc, hd⟩ | ⟨rfl, hk⟩ | ⟨rfl, S, n, hk⟩
    · obtain ⟨its, _, pl, _⟩ := I.list hq
      refine ⟨pl.isList.typeIs, fun a e => ?_⟩
      cases e
      obtain ⟨o, n, e, c, hd, _⟩ := pl
      exact ⟨o, e, hd⟩
    · refine ⟨⟨o, I.kIn p o hk, hc⟩, fun a e => ?_⟩
      cases e
      exact ⟨o, I.kIn _ o hk, hd⟩
    · have z : ∃ o, s.heap.get? p = some o ∧ o.ExactDict := by
        rcases hk with ⟨kvs, hk⟩ | ⟨kvs, hk⟩
        · obtain ⟨_, _, _, _, o, _, _, e, ex, _⟩ := I.hok p _ hk
          exact ⟨o, e, ex⟩
        · obtain ⟨_, _, _, _, o, _, _, e, ex, _⟩ := I.hok p _ hk
          exact ⟨o, e, ex⟩
      obtain ⟨o, e, ex⟩ := z
      refine ⟨⟨o, e, ex.1⟩, fun a e2 => ?_⟩
      cases e2
      exact ⟨o, e, ex.2.1⟩
    · obtain ⟨o, _, _, _, e, ex, _⟩ := I.hok p _ hk
      refine ⟨⟨o, e, ex.1⟩, fun a e2 => ?_⟩
      cases e2
      exact ⟨o, e, ex.2.1⟩
  | _ => exact False.elim ty
def tBM (K : PySem.W.Frag) (T : String) (r : V → List V → Hp → VK → Prop) (to : TE) (t : TA) : TE := fun σ H Q => to σ H fun x H1 => tyV K T x H1 ∧ t σ H1 fun xs H2 => r x xs H2 Q
variable {o e : Expr} {es : List Expr} {to : TE} {t : TA} {name : Str} {apos cpos : Pos} {T id : String} {r : V → List V → Hp → VK → Prop}
theorem pe_bm (pa : PlainAttrs T) (slot : Slot T name id) (hty : typeOf (.builtin id) = pure (.type "method_descriptor")) (hm : MtR X id r) (ho : PE X o to) (ha : PA X (e :: es) t)
    (hbase : attributeBase o name X.env (eval o X.env) = eval o X.env := by rfl)
    (hfew : ((backTo cpos (starEach (e :: es) X.env)).all (fun x => !x.1) && (backToKw cpos (keywordEach [] X.env)).all (fun x => x.1.isSome)
      && decide ((e :: es).length + ([] : List Keyword).length + (if ([] : List Keyword).isEmpty then 0 else 1) < 30)) = true := by rfl)
    (hline : (apos.endLine == cpos.line) = true := by rfl) (hs : starEach (e :: es) X.env = (false, eval e X.env) :: starEach es X.env := by rfl) (hplain : (backTo cpos (starEach es X.env)).any (·.1) = false := by rfl) :
    PE X (.Call (.Attribute o name apos) (e :: es) [] cpos) (tBM X.K T r to t) := by
  intro pins s σ H Q I h
  refine wpAny_Call_method_late hbase hfew hline rfl (thn (ho pins s σ H _ I h) fun v s1 ⟨x, H1, I1, r1, ty, q1⟩ => ?_)
  obtain ⟨h1, h2⟩ := tyV_is I1 r1 ty
  refine ⟨T, id, pa, slot, hty, h1, h2, ?_⟩
  have hA := ha cpos pins s1 σ H1 _ I1 q1
  rw [hs] at hA ⊢
  refine Calls.callWith_builtin (by show (false || (backTo cpos (starEach es X.env)).any (·.1)) = false; rw [hplain] <;> rfl) (Calls.evalArgs_plain ?_)
  exact thn hA fun us s2 ⟨vs, H2, I2, r2, q2⟩ => hm pins s2 σ H2 x vs v us Q I2 r1 r2 q2
/- xs.append(e), list.index on a module's tuple .. are MtR facts of 06m -/
end
end L2

namespace L2
open PySem PySem.Spec PyProof.Rows

def MtM (X : Cx) (id : String) (r : V → List V → Hp → VK → Prop) : Prop :=
  ∀ (pins : List (Addr × Obj)) (s : Shared) (σ : St) (H : Hp) (x : V) (xs : List V) (v : Value) (us : List Value) (Q : VK), Inv X pins σ H s → RelV x v → Vals xs us → r x xs H Q →
    wpAny (model X.prog X.w) X.A (call (.builtin id) (v :: us)) (EP X pins σ Q) X.xe s

/-! ### lists of values -/
theorem Vals.one : ∀ {x : V} {us : List Value}, Vals [x] us → ∃ u, us = [u] ∧ RelV x u
  | _, _, .cons r .nil => ⟨_, rfl, r⟩
theorem Vals.two : ∀ {x y : V} {us : List Value}, Vals [x, y] us → ∃ u v, us = [u, v] ∧ RelV x u ∧ RelV y v
  | _, _, _, .cons r (.cons q .nil) => ⟨_, _, rfl, r, q⟩
theorem Vals.rep {xs : List V} {us : List Value} (h : Vals xs us) : ∀ k : Nat, Vals (List.replicate k xs).flatten (List.replicate k us).flatten
  | 0 => .nil
  | k + 1 => by
    rw [List.replicate_succ, List.replicate_succ, List.flatten_cons, List.flatten_cons]
    exact Vals.append h (Vals.rep h k)
theorem foldl_rep (its : List Value) : ∀ (k : Nat) (acc : List Value),
    List.foldl (fun x1 x2 => x1 ++ x2) acc.toArray (List.replicate k its.toArray) = (acc ++ (List.replicate k its).flatten).toArray
  | 0, acc => by simp
  | k + 1, acc => by
    have e : acc.toArray ++ its.toArray = (acc ++ its).toArray := by simp
    have e2 : (acc ++ its) ++ (List.replicate k its).flatten = acc ++ (List.replicate (k + 1) its).flatten := by
      rw [List.replicate_succ, List.flatten_cons, List.append_assoc]
    rw [← e2, ← foldl_rep its k (acc ++ its), ← e, List.replicate_succ, List.foldl_cons]

section
variable {X : Cx} {pins : List (Addr × Obj)} {σ : St} {H : Hp} {s : Shared} {l b : Addr} {xs ys zs : List V}

/-! ### the two steps: a tracked list is rewritten, a new list is laid -/
theorem Inv.lset {its its' : List Value} {n : Nat} {f : Array Value → Array Value} {t' : Nat} (I : Inv X pins σ H s) (hH : H l = some (.lst xs))
    (e : s.heap.get? l = some { cls := .type "list", data := .seq its.toArray n }) (hf : f its.toArray = its'.toArray) (hv : Vals ys its') (hz : ys.length ≤ sizeLine) :
    Inv X pins σ (upd H l (.lst ys)) { s with heap := s.heap.update l (Obj.mapSeq f), toks := t' } := by
  have q := PySem.IsL.update e f
  rw [hf] at q
  refine I.write (x := l) (e := l) (by rw [hH]; exact trivial) (.inl rfl) (fun b' u hb hu => (Heap.get?_update_other s.heap (Obj.mapSeq f) (Ne.symm hb)).trans hu) ⟨_, q⟩ ?_
  exact ⟨hz, its', _, hv, q⟩
theorem Inv.lnew {its : List Value} {t' : Nat} (I : Inv X pins σ H s) (hv : Vals ys its) (hz : ys.length ≤ sizeLine) :
    Inv X pins σ (upd H s.heap.objs.size (.lst ys)) { s with heap := s.heap.push { cls := .type "list", data := .seq its.toArray }, toks := t' } :=
  I.laid (fun _ _ q => Heap.get?_push_of_some _ q) (Nat.le_refl _) ⟨hz, its, 0, hv, Heap.get?_push_size _ rfl⟩
theorem Inv.fresh (I : Inv X pins σ H s) : H s.heap.objs.size = none := I.hok.fresh (Nat.le_refl _)
theorem Inv.lstM (I : Inv X pins σ H s) (hH : H l = some (.lst xs)) : xs.length ≤ sizeLine ∧ ∃ (its : List Value) (n : Nat), Vals xs its ∧ xs.length = its.length ∧ s.heap.get? l = some { cls := .type "list", data := .seq its.toArray n } := by
  obtain ⟨z, its, n, r, e⟩ := I.hok l _ hH
  exact ⟨z, its, n, r, r.length, e⟩

theorem notLongL {n : Nat} (h : n ≤ sizeLine) : Builtin.List.listTooLong n = false := by
  unfold Builtin.List.listTooLong
  exact decide_eq_false (by omega)
end

section
variable {X : Cx}

/-! ### methods -/
def rAppend : V → List V → Hp → VK → Prop := fun x vs H Q => ∃ l xs y, x = .ref l ∧ vs = [y] ∧ H l = some (.lst xs) ∧ xs.length < sizeLine ∧ Q .non (upd H l (.lst (xs ++ [y])))
theorem mt_append : MtM X "list.append" rAppend := by
  intro pins s σ H x vs v us Q I rx rv h
  obtain ⟨l, xs, y, rfl, rfl, hH, hz, q⟩ := h
  cases rx
  obtain ⟨u, rfl, ru⟩ := rv.one
  obtain ⟨z, its, n, r, hl, e⟩ := I.lstM hH
  refine call_meets F.slot_list_append ⟨_, e, rfl⟩ F.entry_list_append (F.args_list_append_2 _ _) (PySem.list_append l its.toArray n u (by rw [List.size_toArray]; omega)) ⟨e, ?_⟩
  refine ⟨.non, _, I.lset (its' := its ++ [u]) hH e (by simp) (r.append (.cons ru .nil)) ?_, rfl, q⟩
  rw [List.length_append, List.length_singleton]
  omega

/-! ### list + list, list += list, list * int -/
def rCat : R2 := fun x y H Q => ∃ l b xs zs, x = .ref l ∧ y = .ref b ∧ H l = some (.lst xs) ∧ H b = some (.lst zs) ∧ xs.length + zs.length ≤ sizeLine ∧ ∀ p, H p = none → Q (.ref p) (upd H p (.lst (xs ++ zs)))
theorem op_cat : OpR X (binaryOp .Add) rCat := by
  intro pins s σ H x y v u Q I rx ry h
  obtain ⟨l, b, xs, zs, rfl, rfl, hH, hB, hz, q⟩ := h
  cases rx
  cases ry
  obtain ⟨z, its, n, r, hl, e⟩ := I.lstM hH
  obtain ⟨z2, its2, n2, r2, hl2, e2⟩ := I.lstM hB
  refine PySem.P.add_list e e2 ?_ (by rw [List.size_toArray, List.size_toArray]; omega)
  have ea : its.toArray ++ its2.toArray = (its ++ its2).toArray := by simp
  rw [ea]
  exact ⟨.ref _, _, I.lnew (t' := s.toks) (r.append r2) (by rw [List.length_append]; omega), rfl, q _ I.fresh⟩
/-- a list times an int (a negative one is nothing) -/
def rRep : R2 := fun x y H Q => ∃ l k xs, x = .ref l ∧ y = .int k ∧ H l = some (.lst xs) ∧ -(2 ^ 63) ≤ k ∧ k < 2 ^ 63 ∧ xs.length * k.toNat ≤ sizeLine ∧
  ∀ p, H p = none → Q (.ref p) (upd H p (.lst (List.replicate k.toNat xs).flatten))
theorem len_rep {α : Type} (xs : List α) (k : Nat) : (List.replicate k xs).flatten.length = k * xs.length := by
  induction k with
  | zero => simp
  | succ k ih => rw [List.replicate_succ, List.flatten_cons, List.length_append, ih, Nat.succ_mul, Nat.add_comm]
theorem op_rep : OpR X (binaryOp .Mult) rRep := by
  intro pins s σ H x y v u Q I rx ry h
  obtain ⟨l, k, xs, rfl, rfl, hH, h1, h2, hz, q⟩ := h
  cases rx
  obtain ⟨t, rfl⟩ := ry
  obtain ⟨z, its, n, r, hl, e⟩ := I.lstM hH
  have hlen : its.toArray.size * k.toNat ≤ sizeLine := by rw [List.size_toArray, ← hl]; exact hz
  have hcap : ¬ its.toArray.size * k.toNat > (2 ^ 63 - 1) / 8 := by
    have : (sizeLine : Nat) ≤ (2 ^ 63 - 1) / 8 := by decide
    omega
  have hfit : ¬ (!Builtin.List.listFitsIndex k) = true := by
    rw [fitsIndex_both h1 h2]
    exact Bool.false_ne_true
  have hlong : ¬ Builtin.List.listTooLong (its.toArray.size * k.toNat) = true := by
    rw [notLongL hlen]
    exact Bool.false_ne_true
  have hnew : List.foldl (fun x1 x2 => x1 ++ x2) #[] (List.replicate (if its.toArray.isEmpty = true then 0 else k.toNat) its.toArray) = (List.replicate k.toNat its).flatten.toArray := by
    have f0 : ∀ m : Nat, List.foldl (fun x1 x2 => x1 ++ x2) #[] (List.replicate m its.toArray) = (List.replicate m its).flatten.toArray := fun m => by
      have := foldl_rep its m []
      rw [List.nil_append] at this
      exact this
    rw [f0]
    cases its with
    | nil => simp
    | cons a r' => rw [if_neg (by simp)]
  refine wpAny_binaryOp_repeat_ref (T := "list") (U := "int") (by decide) ⟨_, e, rfl⟩ (fun s' => typeIs_int s' k t) noFill_list_mul F.fills_int_mul F.slot_int_rmul repeat_list F.slot_int_index.lookup
    (call_meets F.slot_int_rmul (typeIs_int s k t) F.entry_int_rmul (F.args_int_rmul_2 _ _) (int___rmul___int_list k t l its.toArray n)
      ⟨e, rfl, ⟨_, e, rfl⟩, call_meets F.slot_list_mul ⟨_, e, rfl⟩ F.entry_list_mul (F.args_list_mul_2 _ _) (AutoListH.list___mul___list_int_3 l its.toArray n k t hfit hcap hlong) ⟨e, ?_⟩⟩)
  rw [hnew]
  exact ⟨.ref _, _, I.lnew (t' := s.toks) (r.rep k.toNat) (by rw [len_rep, Nat.mul_comm]; exact hz), rfl, q _ I.fresh⟩

/-! ### del xs[i] -/
end

/-! ### xs[a:b] = ys -/
section
variable {prog : Program} {w : World} {A : Around} {E : Value → Shared → Prop} {s : Shared}
set_option maxRecDepth 100000 in
end

section
variable {X : Cx}
end
end L2

namespace L2
open PySem PySem.Spec PyProof.Rows

theorem Vals.ints : ∀ {ns : List Int} {us : List Value}, Vals (ns.map V.int) us → IntsAre us ns
  | [], us, h => by
    rw [List.map_nil] at h
    cases h
    exact IntsAre.nil
  | n :: ns, us, h => by
    rw [List.map_cons] at h
    cases h with
    | cons r t =>
      obtain ⟨k, rfl⟩ := r
      exact IntsAre.cons n k (Vals.ints t)
theorem Vals.bls : ∀ {bs : List Bool} {us : List Value}, Vals (bs.map V.bl) us → us = bs.map Value.bool
  | [], us, h => by
    rw [List.map_nil] at h
    cases h
    rfl
  | b :: bs, us, h => by
    rw [List.map_cons] at h
    cases h with
    | cons r t =>
      cases r
      rw [Vals.bls t, List.map_cons]
theorem Vals.ref1 {a : Addr} {us : List Value} (r : Vals [V.ref a] us) : us = [Value.ref a] := by
  cases r with
  | cons r t =>
    cases t
    cases r
    rfl

/-! ### the library's walks over a list of ints, kept objects alone -/
section
variable {prog : Program} {w : World} {A : Around} {E : Value → Shared → Prop} {s : Shared} {l : Addr} {its : List Value} {ns : List Int} {Q : Value → Shared → Prop}
theorem sum_raw (hh : A.handled = none) (hl : s.heap.IsList l its.toArray) (hi : IntsAre its ns)
    (h : ∀ h' tk t', (∀ b o, s.heap.get? b = some o → h'.get? b = some o) → Q (.int ns.sum t') { s with heap := h', toks := tk }) : wpAny (model prog w) A (call (.builtin "sum") [.ref l]) Q E s := by
  obtain ⟨xs, e⟩ := hi.allInts.items
  have hn : numsOf (intItems xs).toList = ns := by rw [← e]; exact hi.numsOf
  rw [nums_intItems] at hn
  rw [e] at hl
  refine PySem.sum_intListG hh hl fun h' tk t' hk => ?_
  have := h h' tk t' hk
  rw [preSum_eq, List.take_of_length_le (by simp), hn]; exact this
theorem max_raw (hh : A.handled = none) (hl : s.heap.IsList l its.toArray) (hi : IntsAre its ns) (hne : 0 < ns.length)
    (h : ∀ h' tk M t', (∀ b o, s.heap.get? b = some o → h'.get? b = some o) → M ∈ ns → (∀ a, a ∈ ns → a ≤ M) → Q (.int M t') { s with heap := h', toks := tk }) : wpAny (model prog w) A (call (.builtin "max") [.ref l]) Q E s := by
  obtain ⟨xs, e⟩ := hi.allInts.items
  have hn : numsOf (intItems xs).toList = ns := by rw [← e]; exact hi.numsOf
  rw [nums_intItems] at hn
  subst hn
  rw [e] at hl
  have hsz : 0 < xs.size := by simpa using hne
  refine PySem.max_intList hh hl hsz fun v h' tk hv hk => ?_
  obtain ⟨t, rfl⟩ := intItems_at hv
  obtain ⟨h1, h2⟩ := argBest_gt (numAt xs) (xs.size - 1)
  refine h h' tk _ t hk ?_ fun a ha => ?_
  · rw [numAt_eq]; exact PySem.getD_mem (by rw [List.length_map, Array.length_toList]; omega)
  · obtain ⟨j, hj, rfl⟩ := mem_getD ha
    rw [List.length_map, Array.length_toList] at hj
    rw [← numAt_eq]; exact h2 j (by omega)
end

/-! ### the calls, by values (CallR of 03t; MtR of 06l) -/
section
variable {X : Cx}
/-- sum(xs) of a list of ints -/
def rSum (K : PySem.W.Frag) : List V → Hp → VK → Prop := fun vs H Q => ∃ (a : Addr) (ns : List Int), vs = [V.ref a] ∧ SqL K H a (ns.map V.int) ∧ Q (.int ns.sum) H
/-- max(xs), min(xs) of a list of ints -/
def rMax (K : PySem.W.Frag) : List V → Hp → VK → Prop := fun vs H Q => ∃ (a : Addr) (ns : List Int), vs = [V.ref a] ∧ SqL K H a (ns.map V.int) ∧ 0 < ns.length ∧ ∀ m, m ∈ ns → (∀ y, y ∈ ns → y ≤ m) → Q (.int m) H
theorem cr_sum (hc : X.calm = true) : CallR X (.builtin "sum") (rSum X.K) := by
  intro pins s σ H vs us Q I r h
  obtain ⟨a, ns, rfl, hs, q⟩ := h
  obtain ⟨its, rv, hl, _⟩ := I.list hs
  rw [Vals.ref1 r]
  exact sum_raw (I.ok.hd hc) hl.isList rv.ints fun h' tk t' hk => ⟨.int _, H, I.kept hk, ⟨_, rfl⟩, q⟩
theorem cr_max (hc : X.calm = true) : CallR X (.builtin "max") (rMax X.K) := by
  intro pins s σ H vs us Q I r h
  obtain ⟨a, ns, rfl, hs, hne, q⟩ := h
  obtain ⟨its, rv, hl, _⟩ := I.list hs
  rw [Vals.ref1 r]
  exact max_raw (I.ok.hd hc) hl.isList rv.ints hne fun h' tk m t' hk h1 h2 => ⟨.int _, H, I.kept hk, ⟨_, rfl⟩, q m h1 h2⟩

/-! sorted, sort (fewer than 64 items: the library's own bound) -/
end

/-! ### list.index, flat items -/
section
variable {X : Cx}
def rIndex (K : PySem.W.Frag) : V → List V → Hp → VK → Prop := fun x xs H Q => ∃ (a : Addr) (ys : List V) (y : V) (j : Nat) (z : V), x = V.ref a ∧ xs = [y] ∧ SqL K H a ys ∧ flatV y = true ∧ ys.all flatV = true ∧ ys[j]? = some z ∧ eqV z y = true ∧
  (∀ (m : Nat) (z' : V), m < j → ys[m]? = some z' → eqV z' y = false) ∧ Q (.int (j : Nat)) H
theorem flat_at {ys : List V} (f : ys.all flatV = true) {j : Nat} {z : V} (h : ys[j]? = some z) : flatV z = true := List.all_eq_true.mp f z (List.mem_of_getElem? h)
theorem mt_index : MtR X "list.index" (rIndex X.K) := by
  intro pins s σ H x xs v us Q I rx rxs h
  obtain ⟨a, ys, y, j, z, rfl, rfl, hs, fy, fys, hz, hzj, hno, q⟩ := h
  cases rx
  cases rxs with
  | cons ry rt =>
    rename_i uy ut
    cases rt
    obtain ⟨its, rv, ⟨⟨cls, dd, data, sl⟩, n, ho, hc, hdn, hd⟩, hlen⟩ := I.list hs
    simp only at hc hd
    subst hc hd
    obtain ⟨u, hu, ru⟩ := rv.get hz
    obtain ⟨hjl, hje⟩ := List.getElem?_eq_some_iff.mp hu
    have hvl := rv.length
    have hj : j < its.toArray.size := by simpa using hjl
    have hsl := sizeLine_eq
    refine call_meets PySem.F.slot_list_index ⟨_, ho, rfl⟩ PySem.F.entry_list_index (PySem.F.args_list_index_2 _ _)
      (SeqAt.list_indexAt a its.toArray n dd sl uy (eqU y) j hj (by omega) ?_ ?_) ⟨ho, fun u' hu' => mem_eqAt ry fy rv fys u' (by simpa using hu'), ?_⟩
    · have e1 : its.toArray[j] = u := by simpa using hje
      rw [e1, eqU_of ru (flat_at fys hz)]
      exact hzj
    · intro m hm hmj
      have hml : m < its.length := by simpa using hm
      have hmy : m < ys.length := by omega
      have hy' : ys[m]? = some ys[m] := List.getElem?_eq_getElem hmy
      obtain ⟨u2, hu2, ru2⟩ := rv.get hy'
      obtain ⟨_, hme⟩ := List.getElem?_eq_some_iff.mp hu2
      have e1 : its.toArray[m] = u2 := by simpa using hme
      rw [e1, eqU_of ru2 (flat_at fys hy')]
      exact hno m _ hmj hy'
    · exact ⟨.int (j : Nat), H, I.tok _, ⟨_, rfl⟩, q⟩
end

/-! ### type(x) of an own instance; is, is not of a module's class -/
section
variable {X : Cx}
end

/-! ### any(xs), all(xs) of a list of bools -/
theorem iter_any {prog : Program} {w : World} {A : Around} {E : Value → Shared → Prop} {s : Shared} {l : Addr} {items : Array Value} {Q : Value → Shared → Prop} (hl : s.heap.IsList l items)
    (h : ∀ s₂ : Shared, s₂ = { s with heap := s.heap.push { cls := .type "list_iterator", data := .fields #[.ref l, .int 0 0] } } →
      (s₂.heap.IsListIter s.heap.objs.size l 0 ∧ s₂.heap.IsList l items) → l ≠ s.heap.objs.size → Q (.ref s.heap.objs.size) s₂) : wpAny (model prog w) A (pyIter (.ref l)) Q E s := by
  have hlt : l < s.heap.objs.size := by obtain ⟨_, e, _⟩ := hl; exact Heap.lt_size e
  exact wpAny_pyIter_list hl (h _ rfl ⟨⟨_, Heap.get?_push_size _ rfl, rfl, rfl⟩, hl.push _⟩ (Nat.ne_of_lt hlt))
theorem truth_bools {prog : Program} {w : World} {A : Around} {bs : List Bool} {its : List Value} (e : its = bs.map Value.bool) :
    TruthOf prog w A (fun i v => its.toArray[i]? = some v) (fun i => bs.getD i false) := fun i v s Q E hv hq => by
  have hv' : its[i]? = some v := by simpa using hv
  rw [e, List.getElem?_map] at hv'
  obtain ⟨b, hb, rfl⟩ := Option.map_eq_some_iff.mp hv'
  have hg : bs.getD i false = b := by rw [List.getD_eq_getElem?_getD, hb] <;> rfl
  have hq' : Q (bs.getD i false) s := hq
  rw [hg] at hq'
  exact wpAny_truthy_bool hq'
theorem all_range : ∀ bs : List Bool, (List.range bs.length).all (fun i => bs.getD i false) = bs.all id
  | [] => rfl
  | b :: bs => by
    rw [List.length_cons, List.range_succ_eq_map, List.all_cons, List.all_map, List.all_cons, ← all_range bs]
    all_goals rfl
section
variable {X : Cx}
def rAll (K : PySem.W.Frag) : List V → Hp → VK → Prop := fun vs H Q => ∃ (a : Addr) (bs : List Bool), vs = [V.ref a] ∧ SqL K H a (bs.map V.bl) ∧ Q (.bl (bs.all id)) H
theorem cr_all (hc : X.calm = true) : CallR X (.builtin "all") (rAll X.K) := by
  intro pins s σ H vs us Q I r h
  obtain ⟨a, bs, rfl, hs, q⟩ := h
  obtain ⟨its, rv, hl, _⟩ := I.list hs
  rw [Vals.ref1 r]
  have hb := rv.bls
  refine call_all_walk (iter_any hl.isList fun s₂ e2 st hne => ?_)
  subst e2
  refine ⟨_, _, _, _, _, _, _, rfl, Walks.list (A := X.A.in1) (I.ok.hd hc) _ a hne its.toArray, st, truth_bools hb, fun h' tk hk => ?_⟩
  refine ⟨.bl _, H, I.kept fun b o eo => hk b o (fun hmem => ?_) (Heap.get?_push_of_some _ eo), ?_, q⟩
  · rcases List.mem_cons.mp hmem with e1 | hmem
    · exact absurd (e1 ▸ Heap.lt_size eo) (Nat.lt_irrefl _)
    · cases hmem
  · show Value.bool _ = Value.bool _
    rw [← all_range, hb, List.size_toArray, List.length_map]
end

/-! ### == and != of data at any depth: none, bools, ints, texts, lists, tuples -/
mutual
inductive Dp (K : PySem.W.Frag) (H : Hp) : V → PyData → Prop
  | non : Dp K H .non .none
  | bl (b : Bool) : Dp K H (.bl b) (.bool b)
  | int (i : Int) : Dp K H (.int i) (.int i)
  | str (x : Str) : Dp K H (.str x) (.str x)
  | lst {a : Addr} {xs : List V} {ds : List PyData} : SqL K H a xs → DpAll K H xs ds → Dp K H (.ref a) (.list ds)
  | tup {a : Addr} {xs : List V} {ds : List PyData} : SqT K H a xs → DpAll K H xs ds → Dp K H (.ref a) (.tuple ds)
inductive DpAll (K : PySem.W.Frag) (H : Hp) : List V → List PyData → Prop
  | nil : DpAll K H [] []
  | cons {v : V} {vs : List V} {d : PyData} {ds : List PyData} : Dp K H v d → DpAll K H vs ds → DpAll K H (v :: vs) (d :: ds)
end
section
variable {X : Cx} {pins : List (Addr × Obj)} {σ : St} {H : Hp} {s : Shared}
mutual
theorem Dp.reads (I : Inv X pins σ H s) : ∀ (d : PyData) (v : V) (u : Value), Dp X.K H v d → RelV v u → ∃ as, Reads s.heap u d as
  | .none, _, _, h, r => by
    cases h
    cases r
    exact ⟨_, Reads.none⟩
  | .bool b, _, _, h, r => by
    cases h
    cases r
    exact ⟨_, Reads.bool b⟩
  | .int i, _, _, h, r => by
    cases h
    obtain ⟨t, rfl⟩ := r
    exact ⟨_, Reads.int i t⟩
  | .str x, _, _, h, r => by
    cases h
    obtain ⟨t, rfl⟩ := r
    exact ⟨_, Reads.str x t⟩
  | .list ds, _, _, h, r => by
    cases h with
    | lst hs ha =>
      cases r
      obtain ⟨its, rv, ⟨o, n, ho, hc, _, hd⟩, _⟩ := I.list hs
      obtain ⟨as, hr⟩ := Dp.readsAll I ds _ its ha rv
      exact ⟨_, Reads.list ho hc hd hr⟩
  | .tuple ds, _, _, h, r => by
    cases h with
    | tup hs ha =>
      cases r
      obtain ⟨its, rv, ⟨o, ho, hc, n, hd⟩, _⟩ := I.tuple hs
      obtain ⟨as, hr⟩ := Dp.readsAll I ds _ its ha rv
      exact ⟨_, Reads.tuple ho hc hd hr⟩
  | .dict _, _, _, h, _ => by cases h
theorem Dp.readsAll (I : Inv X pins σ H s) : ∀ (ds : List PyData) (vs : List V) (us : List Value), DpAll X.K H vs ds → Vals vs us → ∃ as, ReadsAll s.heap us ds as
  | [], _, _, h, r => by
    cases h
    cases r
    exact ⟨_, ReadsAll.nil⟩
  | d :: ds, _, _, h, r => by
    cases h with
    | cons h1 h2 =>
      cases r with
      | cons r1 r2 =>
        obtain ⟨as, q1⟩ := Dp.reads I d _ _ h1 r1
        obtain ⟨bs, q2⟩ := Dp.readsAll I ds _ _ h2 r2
        exact ⟨_, ReadsAll.cons q1 q2⟩
end
end
section
variable {X : Cx}
def rEqD (K : PySem.W.Frag) : R2 := fun x y H Q => ∃ d e, Dp K H x d ∧ Dp K H y e ∧ SeqAt.shaped d = true ∧ SeqAt.shaped e = true ∧ Q (.bl (PyData.eqv d e)) H
theorem op_eqD (hu : X.A.units + 64 < cLine) : OpR X (compareOp .Eq) (rEqD X.K) := by
  intro pins s σ H x y v u Q I rx ry h
  obtain ⟨d, e, hd, he, sd, se, q⟩ := h
  obtain ⟨as, r1⟩ := Dp.reads I d x v hd rx
  obtain ⟨bs, r2⟩ := Dp.reads I e y u he ry
  exact SeqAt.compareEq_shaped r1 r2 sd se hu ⟨.bl _, H, I, rfl, q⟩
end
end L2

namespace L2
open PySem PySem.Spec PyProof.Rows
abbrev CellAt (h : Heap) (c : Addr) (v : Option Value) : Prop := h.IsCell c v
def relS (scope sc : Scope) : Scope :=
  { scope with names := scope.names.map fun (n, k) => if (k == .free && sc.kind == .function && sc.names.lookup n == some .cell) then (n, .cell) else (n, k) }

def cloFrom (cells : List (Str × Addr)) : List (Str × NameKind) → List (Str × Addr) → List (Str × Addr)
  | [], acc => acc
  | (n, k) :: r, acc => if k == .free then cloFrom cells r ((n, (cells.lookup n).getD 0) :: acc) else cloFrom cells r acc

theorem closure_loop (env : Env) (f : Str × NameKind → List (Str × Addr) → Sem (ForInStep (List (Str × Addr))))
    (hf : ∀ n k c, f (n, k) c = if k == .free then (do let a ← cellOf env n; pure (.yield ((n, a) :: c))) else pure (.yield c)) :
    ∀ (names : List (Str × NameKind)) (acc : List (Str × Addr)), (∀ y ∈ names, y.2 = .free → ∃ c, env.cells.lookup y.1 = some c) → forIn names acc f = pure (cloFrom env.cells names acc)
  | [], acc, _ => by rw [List.forIn_nil]; rfl
  | (n, k) :: r, acc, h => by
    rw [List.forIn_cons, hf]
    have ih := fun acc => closure_loop env f hf r acc fun y hy => h y (List.mem_cons_of_mem _ hy)
    unfold cloFrom
    by_cases hk : (k == NameKind.free) = true
    · rw [if_pos hk, if_pos hk]
      obtain ⟨c, hc⟩ := h (n, k) List.mem_cons_self (by simpa using hk)
      have e : cellOf env n = pure c := by unfold cellOf; rw [hc]
      rw [e]
      have e2 : (env.cells.lookup n).getD 0 = c := by rw [hc]; rfl
      rw [e2]
      exact ih _
    · rw [if_neg hk, if_neg hk]
      exact ih _
theorem closure_ok {scope : Scope} {env : Env} (h : ∀ y ∈ scope.names, y.2 = .free → ∃ c, env.cells.lookup y.1 = some c) : closureFor scope env = pure (cloFrom env.cells scope.names []) := by
  simp only [closureFor]
  rw [closure_loop env _ (fun n k c => rfl) scope.names [] h]
  rfl

theorem mem_lookup {α : Type} : ∀ {l : List (Str × α)} {n : Str} {c : α}, (n, c) ∈ l → ∃ c', l.lookup n = some c'
  | (k, v) :: r, n, c, h => by
    rw [List.lookup_cons]
    cases hb : n == k with
    | true => exact ⟨_, rfl⟩
    | false =>
      rcases List.mem_cons.mp h with e | h
      · cases e; simp at hb
      · exact mem_lookup h

theorem cloFrom_mem {cells : List (Str × Addr)} : ∀ {names : List (Str × NameKind)} {acc : List (Str × Addr)} {n : Str} {c : Addr}, (n, c) ∈ cloFrom cells names acc → (n, c) ∈ acc ∨ ((n, .free) ∈ names ∧ c = (cells.lookup n).getD 0)
  | [], _, _, _, h => .inl h
  | (m, k) :: r, acc, n, c, h => by
    unfold cloFrom at h
    split at h
    · rename_i hk
      have hk : k = .free := by simpa using hk
      rcases cloFrom_mem h with h | ⟨h1, h2⟩
      · rcases List.mem_cons.mp h with e | h
        · cases e; exact .inr ⟨hk ▸ List.mem_cons_self, rfl⟩
        · exact .inl h
      · exact .inr ⟨List.mem_cons_of_mem _ h1, h2⟩
    · rcases cloFrom_mem h with h | ⟨h1, h2⟩
      · exact .inl h
      · exact .inr ⟨List.mem_cons_of_mem _ h1, h2⟩
theorem cloFrom_acc {cells : List (Str × Addr)} : ∀ {names : List (Str × NameKind)} {acc : List (Str × Addr)} {p : Str × Addr}, p ∈ acc → p ∈ cloFrom cells names acc
  | [], _, _, h => h
  | (m, k) :: r, acc, p, h => by
    unfold cloFrom
    split
    · exact cloFrom_acc (List.mem_cons_of_mem _ h)
    · exact cloFrom_acc h
theorem cloFrom_has {cells : List (Str × Addr)} : ∀ {names : List (Str × NameKind)} {acc : List (Str × Addr)} {n : Str}, (n, .free) ∈ names → (n, (cells.lookup n).getD 0) ∈ cloFrom cells names acc
  | (m, k) :: r, acc, n, h => by
    unfold cloFrom
    rcases List.mem_cons.mp h with e | h
    · cases e
      exact cloFrom_acc List.mem_cons_self
    · split
      · exact cloFrom_has h
      · exact cloFrom_has h

theorem cells_mem : ∀ {names : List (Str × NameKind)} {h : Heap} {acc : List (Str × Addr)} {x : Str} {c : Addr}, (x, c) ∈ cellsFrom h.objs.size names acc →
    (x, c) ∈ acc ∨ ((x, .cell) ∈ names ∧ h.objs.size ≤ c ∧ CellAt (pushCells h names) c none)
  | [], _, _, _, _, h => .inl h
  | (n, k) :: r, h, acc, x, c, hm => by
    unfold cellsFrom at hm
    unfold pushCells
    split at hm
    · rename_i hk
      rw [if_pos hk]
      have hk : k = .cell := by simpa using hk
      rw [← Heap.size_push h { cls := .type "cell", data := .cell none }] at hm
      rcases cells_mem hm with hm | ⟨h1, h2, h3⟩
      · rcases List.mem_cons.mp hm with e | hm
        · cases e
          exact .inr ⟨hk ▸ List.mem_cons_self, Nat.le_refl _, _, pushCells_keeps r _ _ _ (Heap.get?_push_size _ rfl), rfl⟩
        · exact .inl hm
      · rw [Heap.size_push] at h2
        exact .inr ⟨List.mem_cons_of_mem _ h1, Nat.le_of_succ_le h2, h3⟩
    · rename_i hk
      rw [if_neg hk]
      rcases cells_mem hm with hm | ⟨h1, h2, h3⟩
      · exact .inl hm
      · exact .inr ⟨List.mem_cons_of_mem _ h1, h2, h3⟩
theorem cells_acc : ∀ {names : List (Str × NameKind)} {n : Nat} {acc : List (Str × Addr)} {p : Str × Addr}, p ∈ acc → p ∈ cellsFrom n names acc
  | [], _, _, _, h => h
  | (m, k) :: r, n, acc, p, h => by
    unfold cellsFrom
    split
    · exact cells_acc (List.mem_cons_of_mem _ h)
    · exact cells_acc h
theorem cells_has : ∀ {names : List (Str × NameKind)} {n : Nat} {acc : List (Str × Addr)} {x : Str}, (x, .cell) ∈ names → ∃ c, (x, c) ∈ cellsFrom n names acc
  | (m, k) :: r, n, acc, x, h => by
    unfold cellsFrom
    rcases List.mem_cons.mp h with e | h
    · cases e
      exact ⟨n, cells_acc List.mem_cons_self⟩
    · split
      · exact cells_has h
      · exact cells_has h
theorem cells_inj : ∀ {names : List (Str × NameKind)} {h : Heap} {acc : List (Str × Addr)} {x y : Str} {c : Addr}, (∀ p ∈ acc, p.2 < h.objs.size) → (∀ x y c, (x, c) ∈ acc → (y, c) ∈ acc → x = y) →
    (x, c) ∈ cellsFrom h.objs.size names acc → (y, c) ∈ cellsFrom h.objs.size names acc → x = y
  | [], _, _, _, _, _, _, hi, h1, h2 => hi _ _ _ h1 h2
  | (n, k) :: r, h, acc, x, y, c, hl, hi, h1, h2 => by
    unfold cellsFrom at h1 h2
    split at h1
    · rename_i hk
      rw [if_pos hk] at h2
      rw [← Heap.size_push h { cls := .type "cell", data := .cell none }] at h1 h2
      refine cells_inj (h := h.push _) (fun p hp => ?_) (fun x y c a b => ?_) h1 h2
      · rw [Heap.size_push]
        rcases List.mem_cons.mp hp with rfl | hp
        · exact Nat.lt_succ_self _
        · exact Nat.lt_succ_of_lt (hl p hp)
      · rcases List.mem_cons.mp a with e | a <;> rcases List.mem_cons.mp b with e' | b
        · cases e; cases e'; rfl
        · cases e; exact absurd (hl _ b) (Nat.lt_irrefl _)
        · cases e'; exact absurd (hl _ a) (Nat.lt_irrefl _)
        · exact hi _ _ _ a b
    · rename_i hk
      rw [if_neg hk] at h2
      exact cells_inj hl hi h1 h2

theorem newEnv_comp {M : Model} {A : Around} {E : Value → Shared → Prop} {s : Shared} {scope : Scope} {globals : Addr} {closure : List (Str × Addr)} {qual : Str} {func : Option Addr} {code : Value} {around : Env} {builtins : Addr} {Q : Env → Shared → Prop}
    (h : Q (newEnv scope s.heap.objs.size globals (cellsFrom (s.heap.objs.size + 1) scope.names closure) qual func code (some around) builtins)
      { s with heap := pushCells (s.heap.push { cls := .type "dict", data := .dict #[] }) scope.names }) :
    wpAny M A (newFunctionEnv scope globals closure [] qual func code (some around) builtins) Q E s := by
  simp only [newFunctionEnv, Option.isSome_some, if_true]
  refine wpAny_bind (wpAny_alloc ?_)
  refine wpAny_bind (wpAny_layCells _ (fun n k c => rfl) scope.names closure _ _ ?_)
  rw [show ({ s with heap := s.heap.push { cls := .type "dict", data := .dict #[] } } : Shared).heap.objs.size = s.heap.objs.size + 1 from Heap.size_push ..]
  rw [List.forIn_nil]
  exact wpAny_bind (wpAny_pure (wpAny_pure h))

/-- every name of the written scope, in the scope that runs -/
theorem lookup_relS {sc : Scope} : ∀ {names : List (Str × NameKind)} {x : Str} {k : NameKind},
    (names.map fun (n, k) => if (k == NameKind.free && sc.kind == .function && sc.names.lookup n == some .cell) then (n, NameKind.cell) else (n, k)).lookup x = some k →
    ∃ k', names.lookup x = some k' ∧ (k = k' ∨ (k' = .free ∧ k = .cell))
  | [], _, _, h => by simp at h
  | (n, k₀) :: r, x, k, h => by
    have ih := @lookup_relS sc r x k
    have h' : List.lookup x ((if (k₀ == NameKind.free && sc.kind == .function && sc.names.lookup n == some .cell) = true then (n, NameKind.cell) else (n, k₀)) :: (r.map _)) = some k := h
    cases hx : x == n with
    | true =>
      simp only [List.lookup_cons, hx]
      by_cases hc : (k₀ == NameKind.free && sc.kind == .function && sc.names.lookup n == some .cell) = true
      · rw [if_pos hc] at h'
        simp only [List.lookup_cons, hx] at h'
        cases h'
        simp only [Bool.and_eq_true, beq_iff_eq] at hc
        exact ⟨k₀, rfl, .inr ⟨hc.1.1, rfl⟩⟩
      · rw [if_neg hc] at h'
        simp only [List.lookup_cons, hx] at h'
        cases h'
        exact ⟨_, rfl, .inl rfl⟩
    | false =>
      simp only [List.lookup_cons, hx]
      by_cases hc : (k₀ == NameKind.free && sc.kind == .function && sc.names.lookup n == some .cell) = true
      · rw [if_pos hc] at h'
        simp only [List.lookup_cons, hx] at h'
        exact ih h'
      · rw [if_neg hc] at h'
        simp only [List.lookup_cons, hx] at h'
        exact ih h'

/-- the names of a comprehension's block: its own (with their places in N), or captured -/
structure BlkOk (N : List Str) (sc scope : Scope) (own : List (Str × Nat)) : Prop where
  kind : scope.kind = .function
  uniq : ∀ y ∈ scope.names, scope.names.lookup y.1 = some y.2
  ix : ∀ p ∈ own, N[p.2]? = some p.1
  free : ∀ y ∈ scope.names, y.2 = .free → sc.names.lookup y.1 = some .cell ∨ sc.names.lookup y.1 = some .free
  own : ∀ y ∈ scope.names, y.2 = .local ∨ y.2 = .cell → y.1 ∈ own.map (·.1) ∨ y.1 ∉ N
/-- the slots of the block's own names forgotten -/
def wipe (σ : St) : List Nat → St
  | [] => σ
  | v :: vs => (wipe σ vs).set v none
theorem wipe_length (σ : St) : ∀ vs : List Nat, (wipe σ vs).length = σ.length
  | [] => rfl
  | v :: vs => by unfold wipe; rw [List.length_set, wipe_length σ vs]
theorem wipe_some {σ : St} {i : Nat} {x : V} : ∀ {vs : List Nat}, (wipe σ vs)[i]? = some (some x) → σ[i]? = some (some x) ∧ i ∉ vs
  | [], h => ⟨h, by simp⟩
  | v :: vs, h => by
    unfold wipe at h
    by_cases hi : v = i
    · subst hi
      by_cases hv : v < (wipe σ vs).length
      · rw [List.getElem?_set_self hv] at h; cases h
      · rw [List.getElem?_eq_none (by simpa using hv)] at h; cases h
    · rw [List.getElem?_set_ne hi] at h
      obtain ⟨h1, h2⟩ := wipe_some h
      exact ⟨h1, by simp only [List.mem_cons, not_or]; exact ⟨fun e => hi e.symm, h2⟩⟩

/-- the context of a block that starts at s, its iterator's objects at fp -/
abbrev Cx.blk (X : Cx) (s : Shared) (H : Hp) (scope : Scope) (cenv : Env) (fp : List Addr) : Cx := { X with s_0 := s, H_0 := H, env := cenv, outer := X.stack, ex := fp, fn := fun x => scope.names.lookup x == some .cell, pn := [], xe := fun _ _ => False }
section
variable {X : Cx} {pins : List (Addr × Obj)} {σ : St} {H : Hp} {s : Shared}
theorem block_start {scope : Scope} {own : List (Str × Nat)} {fp : List Addr} (I : Inv X pins σ H s) (ok : BlkOk X.N X.env.scope scope own) (hN : X.N.Nodup) (hfp : ∀ b ∈ fp, FpOk X pins H b ∧ b < s.heap.objs.size) :
    Inv (X.blk s H scope (compEnvC scope (cellsFrom (s.heap.objs.size + 1) scope.names (cloFrom X.env.cells scope.names [])) s.heap.objs.size X.env) fp) [] (wipe σ (own.map (·.2))) H { s with heap := pushCells (s.heap.push { cls := .type "dict", data := .dict #[] }) scope.names } := by
  have hfree : ∀ y ∈ scope.names, y.2 = .free → ∃ c, X.env.cells.lookup y.1 = some c := fun y hy e => by
    rcases ok.free y hy e with k | k
    · exact I.ok.has _ (.inl k)
    · exact I.ok.has _ (.inr k)
  generalize hcenv : compEnvC scope (cellsFrom (s.heap.objs.size + 1) scope.names (cloFrom X.env.cells scope.names [])) s.heap.objs.size X.env = cenv
  have kp : ∀ b o, s.heap.get? b = some o → (pushCells (s.heap.push { cls := .type "dict", data := .dict #[] }) scope.names).get? b = some o := fun b o e => pushCells_keeps _ _ _ _ (Heap.get?_push_of_some _ e)
  have hL : cenv.locals = s.heap.objs.size := by rw [← hcenv]; rfl
  have hcl : cenv.cells = cellsFrom (s.heap.objs.size + 1) scope.names (cloFrom X.env.cells scope.names []) := by rw [← hcenv]; rfl
  have hsc : cenv.scope = relS scope X.env.scope := by rw [← hcenv]; rfl
  rw [← Heap.size_push s.heap { cls := .type "dict", data := .dict #[] }] at hcl
  have cm : ∀ {y c}, (y, c) ∈ cloFrom X.env.cells scope.names [] → X.env.cells.lookup y = some c ∧ c < s.heap.objs.size := fun {y c} hm => by
    rcases cloFrom_mem hm with hm | ⟨h1, rfl⟩
    · cases hm
    · obtain ⟨c, hc⟩ := hfree _ h1 rfl
      rw [hc]
      obtain ⟨w, z⟩ := I.cell _ _ hc
      exact ⟨rfl, z.lt⟩
  have mem : ∀ {y c}, cenv.cells.lookup y = some c → (X.env.cells.lookup y = some c ∧ c < s.heap.objs.size) ∨ (s.heap.objs.size + 1 ≤ c ∧ CellAt (pushCells (s.heap.push { cls := .type "dict", data := .dict #[] }) scope.names) c none) := fun {y c} e => by
    rw [hcl] at e
    rcases cells_mem (PySem.mem_of_lookup e) with hm | ⟨_, h2, h3⟩
    · exact .inl (cm hm)
    · rw [Heap.size_push] at h2; exact .inr ⟨h2, h3⟩
  have look : ∀ {y}, scope.names.lookup y = some .free → ∃ c, cenv.cells.lookup y = some c ∧ X.env.cells.lookup y = some c := fun {y} hl => by
    have hy : (y, NameKind.free) ∈ scope.names := PySem.mem_of_lookup hl
    obtain ⟨c', e'⟩ := mem_lookup (cells_acc (names := scope.names) (n := (s.heap.push { cls := .type "dict", data := .dict #[] }).objs.size) (cloFrom_has (cells := X.env.cells) (acc := []) hy))
    rw [← hcl] at e'
    refine ⟨c', e', ?_⟩
    rw [hcl] at e'
    rcases cells_mem (PySem.mem_of_lookup e') with hm | ⟨h1, _, _⟩
    · exact (cm hm).1
    · have := ok.uniq _ h1
      rw [hl] at this; cases this
  have okB : (X.blk s H scope cenv fp).Ok := by
    refine ⟨I.ok.mod, by show cenv.scope.kind = _; rw [hsc]; exact ok.kind, by show cenv.globals = _; rw [← hcenv]; exact I.ok.glob, by show cenv.builtins = _; rw [← hcenv]; exact I.ok.blt, by show s.heap.objs.size ≤ cenv.locals; rw [hL]; exact Nat.le_refl _,
      fun y z c e1 e2 => ?_, fun y hy => ?_, fun y c z e => ?_, I.ok.hd, I.ok.frames, .inl rfl, fun b hb => ⟨?_, fun y c e z => ?_⟩, I.bs, Nat.le_trans I.ok.bsz I.sz, fun b o e hb => ?_, fun b hb z => ?_, I.stack, I.stkFree⟩
    · have e1 : cenv.cells.lookup y = some c := e1
      have e2 : cenv.cells.lookup z = some c := e2
      rw [hcl] at e1 e2
      refine cells_inj (fun p hp => ?_) (fun y z c a b => I.ok.inj y z c (cm a).1 (cm b).1) (PySem.mem_of_lookup e1) (PySem.mem_of_lookup e2)
      rw [Heap.size_push]
      exact Nat.lt_succ_of_lt (cm (y := p.1) (c := p.2) hp).2
    · show ∃ c, cenv.cells.lookup y = some c
      have key : ∀ k, cenv.kindOf y = some k → (k = .cell ∨ k = .free) → ∃ c, cenv.cells.lookup y = some c := fun k hk hk' => by
        unfold Env.kindOf at hk
        rw [hsc] at hk
        obtain ⟨k', e, r⟩ := lookup_relS hk
        have : k' = .cell ∨ k' = .free := by
          rcases r with rfl | ⟨rfl, _⟩
          · exact hk'
          · exact .inr rfl
        rcases this with rfl | rfl
        · obtain ⟨c, hm⟩ := cells_has (n := (s.heap.push { cls := .type "dict", data := .dict #[] }).objs.size) (acc := cloFrom X.env.cells scope.names []) (PySem.mem_of_lookup e)
          obtain ⟨c', e'⟩ := mem_lookup hm
          exact ⟨c', by rw [hcl]; exact e'⟩
        · obtain ⟨c, h1, _⟩ := look e
          exact ⟨c, h1⟩
      rcases hy with hy | hy
      · exact key _ hy (.inl rfl)
      · exact key _ hy (.inr rfl)
    · have z : (scope.names.lookup y == some NameKind.cell) = true := z
      have z : scope.names.lookup y = some .cell := by simpa using z
      have e : cenv.cells.lookup y = some c := e
      rw [hcl] at e
      rcases cells_mem (PySem.mem_of_lookup e) with hm | ⟨_, h2, _⟩
      · rcases cloFrom_mem hm with hm | ⟨h1, _⟩
        · cases hm
        · have q := ok.uniq _ h1
          rw [z] at q; cases q
      · rw [Heap.size_push] at h2
        exact Nat.le_of_succ_le h2
    · show b ≠ cenv.locals
      rw [hL]; exact Nat.ne_of_lt (hfp b hb).2
    · have e : cenv.cells.lookup y = some c := e
      rcases mem e with ⟨h1, _⟩ | ⟨h1, _⟩
      · exact (hfp b hb).1.2.2.2.2.1 y c h1 z
      · have h2 : s.heap.objs.size + 1 ≤ b := by rw [← z]; exact h1
        exact absurd (Nat.lt_of_lt_of_le (hfp b hb).2 (Nat.le_of_succ_le h2)) (Nat.lt_irrefl _)
    · rcases (hfp b hb).1.2.2.2.1 with z | z
      · exact I.ok.noex b o e z
      · exact absurd (Nat.lt_of_lt_of_le (Heap.lt_size e) (Nat.le_trans I.ok.bsz z)) (Nat.lt_irrefl _)
    · rcases List.mem_cons.mp (I.stkSub b z) with z | z
      · exact (hfp b hb).1.2.1 z
      · exact (hfp b hb).1.2.2.1 z
  refine ⟨okB, rfl, I.bare, Un.kept kp, ⟨fun _ => none, ?_, fun i y av e1 e2 e3 => ?_⟩, fun y c e => ?_, ?_, fun y c e => ?_, fun p hp => ?_, I.hok.kept kp, by rw [wipe_length]; exact I.len⟩
  · show Heap.Ns _ cenv.locals _
    rw [hL]
    exact Heap.Ns.keeps (Heap.Ns.new ..) fun b o e => pushCells_keeps _ _ _ _ e
  · obtain ⟨e2, hne⟩ := wipe_some e2
    have hfr : scope.names.lookup y = some .free ∧ (cenv.kindOf y = some .cell ∨ cenv.kindOf y = some .free) := by
      have key : ∀ k, cenv.scope.names.lookup y = some k → k = .local ∨ k = .cell ∨ k = .free → scope.names.lookup y = some .free ∧ (cenv.kindOf y = some .cell ∨ cenv.kindOf y = some .free) := fun k hk hk' => by
        have hk0 := hk
        rw [hsc] at hk
        obtain ⟨k', e, r⟩ := lookup_relS hk
        have no : ¬ (k' = .local ∨ k' = .cell) := fun hh => by
          rcases ok.own _ (PySem.mem_of_lookup e) hh with e' | e'
          · obtain ⟨p, hp, hpy⟩ := List.mem_map.mp e'
            have e3 := ok.ix p hp
            have : p.1 = y := hpy
            rw [this] at e3
            exact hne (List.mem_map.mpr ⟨p, hp, nodup_ix hN e3 e1⟩)
          · exact e' (List.mem_of_getElem? e1)
        rcases r with rfl | ⟨rfl, rfl⟩
        · rcases hk' with rfl | rfl | rfl
          · exact absurd (.inl rfl) no
          · exact absurd (.inr rfl) no
          · exact ⟨e, .inr hk0⟩
        · exact ⟨e, .inl hk0⟩
      have e3 : Vis cenv.scope y := e3
      rcases e3 with e3 | e3 | e3
      · exact key _ e3 (.inl rfl)
      · exact key _ e3 (.inr (.inl rfl))
      · exact key _ e3 (.inr (.inr rfl))
    obtain ⟨m, hn, hl⟩ := I.loc
    have hvis : Vis X.env.scope y := (ok.free _ (PySem.mem_of_lookup hfr.1) rfl).elim (fun k => .inr (.inl k)) (fun k => .inr (.inr k))
    obtain ⟨w, r, q⟩ := hl i y av e1 e2 hvis
    refine ⟨w, r, .inr ⟨hfr.2, ?_⟩⟩
    obtain ⟨c, h1, h2⟩ := look hfr.1
    rcases q with ⟨k, _⟩ | ⟨_, c', e', z⟩
    · have k : X.env.scope.names.lookup y = some .local := k
      rcases ok.free _ (PySem.mem_of_lookup hfr.1) rfl with k' | k' <;> rw [show X.env.scope.names.lookup y = _ from k'] at k <;> cases k
    · rw [h2] at e'; cases e'
      exact ⟨c, h1, z.keeps kp⟩
  · have e : cenv.cells.lookup y = some c := e
    rcases mem e with ⟨h1, _⟩ | ⟨_, z⟩
    · obtain ⟨w, z⟩ := I.cell y c h1
      exact ⟨w, z.keeps kp⟩
    · exact ⟨_, z⟩
  · show H cenv.locals = none
    rw [hL]; exact I.hok.fresh (Nat.le_refl _)
  · have e : cenv.cells.lookup y = some c := e
    rcases mem e with ⟨h1, _⟩ | ⟨h1, _⟩
    · exact I.freeC y c h1
    · exact I.hok.fresh (Nat.le_of_succ_le h1)
  · exact absurd (show p ∈ ([] : List (Addr × Obj)) ++ [] from hp) (by simp)

/-- an item appended to a tracked list -/
theorem app_ok {E : Value → Shared → Prop} {D : Addr} {xs : List V} {y : V} {v : Value} {Q : Value → Shared → Prop} (I : Inv X pins σ H s) (hD : H D = some (.lst xs)) (hz : xs.length < sizeLine) (r : RelV y v)
    (h : ∀ s', Inv X pins σ (upd H D (.lst (xs ++ [y]))) s' → Q .none s') : wpAny (model X.prog X.w) X.A (call (.builtin "list.append") [.ref D, v]) Q E s := by
  obtain ⟨hz', its, n, ri, e⟩ := I.hok D _ hD
  have hl := ri.length
  refine append_at (hsz := by rw [List.size_toArray]; omega) e fun h' sb ho' => ?_
  refine h { s with heap := h' } (I.write (t' := s.toks) (by rw [hD]; trivial) (.inl rfl) (fun b u hb q => (sb.2 b hb).trans q) ⟨_, ho'⟩ ⟨by rw [List.length_append]; exact hz, its ++ [v], n + 1, ri.append (.cons r .nil), ?_⟩)
  rw [ho']
  simp

/-- a clause's tests -/
def PTs (X : Cx) (ifs : List Expr) (t : TT) : Prop :=
  ∀ (pins : List (Addr × Obj)) (s : Shared) (σ : St) (H : Hp) (Q : Bool → Hp → Prop), Inv X pins σ H s → t σ H Q →
    wpAny (model X.prog X.w) X.A (forIn ifs true fun c r => if r = true then do let ok ← isTrue c X.env (eval c X.env); pure (ForInStep.yield ok) else pure (ForInStep.yield r)) (TP X pins σ Q) X.xe s
def tYes : TT := fun _ H Q => Q true H
theorem pts_nil : PTs X [] tYes := fun _ _ _ H _ I h => wpAny_tests_nil ⟨H, I, h⟩
theorem pts_one {c : Expr} {t : TT} (h : PT X c t) : PTs X [c] t := fun pins s σ H Q I hw => wpAny_tests_one (h pins s σ H Q I hw)
end

theorem thnF {α : Type} {t : Sem α} {Q Q' : α → Shared → Prop} {M : Model} {A : Around} {E : Value → Shared → Prop} {s : Shared} (h : wpAny M A t Q (fun _ _ => False) s) (hQ : ∀ a s, Q a s → Q' a s) : wpAny M A t Q' E s := wpAny_mono h hQ fun _ _ z => False.elim z

/-- the loop of a list comprehension's block, the target of any form (codeAny_compLoop_tests asks a target that no tuple goes to; statement and proof follow it, PyProof/CompMap.lean:41-61, with the step letOwnedTupleGo kept) -/
theorem compLoop_any {prog : Program} {w : World} {A : Around} {R : Result → Shared → Prop} {s : Shared} {elt target iter : Expr} {ifs : List Expr} {scope : Scope} {pos : Pos} {it acc : Value} {env : Env} (I : Nat → Shared → Prop)
    (turn : ∀ n s, I n s → wpAny (model prog w) A (pyNext it) (fun r s₁ => match r with
      | none => R (.ok .next) s₁
      | some v => wpAny (model prog w) A (letOwnedTupleGo target it v) (fun _ s₁' => wpAny (model prog w) A (assign target env v) (fun _ s₂ =>
          wpAny (model prog w) A (forIn ifs true fun c r => if r = true then do let ok ← isTrue c env (eval c env); pure (ForInStep.yield ok) else pure (ForInStep.yield r)) (fun ok s₃ =>
            if ok = true then wpAny (model prog w) A (eval elt env) (fun x s₄ =>
              wpAny (model prog w) A (call (.builtin "list.append") [acc, x]) (fun _ s₅ => ∃ m, m < n ∧ I m s₅) (notedBy (model prog w) A env fun e s' => R (.error e) s') s₄) (notedBy (model prog w) A env fun e s' => R (.error e) s') s₃
            else ∃ m, m < n ∧ I m s₃) (notedBy (model prog w) A env fun e s' => R (.error e) s') s₂) (notedBy (model prog w) A env fun e s' => R (.error e) s') s₁') (notedBy (model prog w) A env fun e s' => R (.error e) s') s₁) (notedBy (model prog w) A env fun e s' => R (.error e) s') s)
    (n : Nat) (h : I n s) :
    codeAny (model prog w) A (.compLoop (.ListComp elt [⟨target, iter, ifs, 0⟩] scope pos) 0 it acc env) R s := by
  refine codeAny_loop rfl I (fun n s hI => ?_) n h
  show wpAny _ A ((compTurn (.ListComp elt [⟨target, iter, ifs, 0⟩] scope pos) 0 it acc env).onRaise (fun x => do noteFrame x env; theTreesLotGoes x)) _ _ s
  refine wpAny_noted ?_
  rw [compTurn_list]
  refine wpAny_bind (wpAny_standAt (wpAny_bind (wpAny_mono (turn n s hI) (fun r s₁ h₁ => ?_) fun _ _ h' => h')))
  cases r with
  | none => exact wpAny_pure h₁
  | some v =>
    refine wpAny_bind (wpAny_mono h₁ (fun _ s₁' h₁' => ?_) fun _ _ h' => h')
    refine wpAny_bind (wpAny_mono h₁' (fun _ s₂ h₂ => wpAny_bind (wpAny_mono h₂ (fun ok s₃ h₃ => ?_) fun _ _ h' => h')) fun _ _ h' => h')
    cases ok with
    | false => exact wpAny_pure ⟨rfl, h₃⟩
    | true =>
      exact wpAny_bind (wpAny_bind (wpAny_mono h₃ (fun x s₄ h₄ => wpAny_bind (wpAny_mono h₄ (fun _ s₅ h₅ => wpAny_pure (wpAny_pure ⟨rfl, h₅⟩)) fun _ _ h' => h')) fun _ _ h' => h'))

section
variable {X : Cx}
/-- [elt for target in iter if ..]: D the new list; W by the turn and a measure, Nx what a turn is to reach -/
def tLc (wi : TI) (g : TG) (tt : TT) (te : TE) (vs : List Nat) : TE := fun σ H Q => wi σ H fun J H1 => ∀ D, H1 D = none → ∃ W : Nat → Nat → Hp → Prop, (∃ m, W 0 m (upd H1 D (.lst []))) ∧ ∀ i m H, W i m H →
  (J.stop i H ∧ Q (.ref D) H) ∨ (J.go i H ∧ ∃ Nx : Hp → Prop, (∀ H', Nx H' → ∃ m', m' < m ∧ W (i + 1) m' H') ∧ ∀ x H', J.yld i H x H' → g x (wipe σ vs) H' fun σ2 H2 => wipe σ2 vs = wipe σ vs ∧ tt σ2 H2 fun b H3 =>
    if b = true then te σ2 H3 fun y H4 => ∃ acc, H4 D = some (.lst acc) ∧ acc.length < sizeLine ∧ Nx (upd H4 D (.lst (acc ++ [y]))) else Nx H3)
theorem lc_core {pins : List (Addr × Obj)} {s : Shared} {σ : St} {H : Hp} {Q : VK} {elt tg iter : Expr} {ifs : List Expr} {scope : Scope} {own : List (Str × Nat)} {pos pos' : Pos} {wi : TI} {g : TG} {tt : TT} {te : TE} {use : Option (Value → Sem Unit)} {Qf : Value → Shared → Prop}
    (hc : X.calm = true) (hN : X.N.Nodup) (I : Inv X pins σ H s) (hi : PI X tg iter wi) (ok : BlkOk X.N X.env.scope scope own)
    (hg : ∀ (s : Shared) (H : Hp) (C : Addr) (cl : List (Str × Addr)) (fp : List Addr), PG (X.blk s H scope (compEnvC scope cl C X.env) fp) tg g) (ht : ∀ (s : Shared) (H : Hp) (C : Addr) (cl : List (Str × Addr)) (fp : List Addr), PTs (X.blk s H scope (compEnvC scope cl C X.env) fp) ifs tt)
    (he : ∀ (s : Shared) (H : Hp) (C : Addr) (cl : List (Str × Addr)) (fp : List Addr), PE (X.blk s H scope (compEnvC scope cl C X.env) fp) elt te) (hs : ∀ x, foldedSetIterable iter X.env x = pure x)
    (h : tLc wi g tt te (own.map (·.2)) σ H Q)
    (hRR : ∀ D C s' m H', Inv X pins σ H' s' → Q (.ref D) H' → s'.heap.Ns C m → FpOk X pins H' C → compPost (model X.prog X.w) X.A X.xe use Qf (.ref D) C (.ok .next) s') :
    wpAny (model X.prog X.w) X.A (comprehension (.ListComp elt [⟨tg, iter, ifs, 0⟩] scope pos) scope X.env pos' (newList []) false (eval iter X.env) use) Qf X.xe s := by
  have hfree : ∀ y ∈ scope.names, y.2 = .free → ∃ c, X.env.cells.lookup y.1 = some c := fun y hy e => by
    rcases ok.free y hy e with k | k
    · exact I.ok.has _ (.inl k)
    · exact I.ok.has _ (.inr k)
  refine wpAny_comprehension_free (use := use) rfl hs (closure_ok hfree) ok.kind (fun y hy e => by rw [ok.uniq y hy, e])
    (thn (hi pins s σ H _ I h) fun xv s1 hx => thn hx fun itv s2 h2 => ?_)
  obtain ⟨it, fp, tn, J, H2, e, I2, T, st2, f2, q⟩ := h2
  subst e
  refine wpAny_newObj_type (newEnv_comp ?_) (by show 0 ≤ sizeLine; decide)
  generalize hD : s2.heap.objs.size = D
  have hDn : H2 D = none := I2.hok.fresh (Nat.le_of_eq hD)
  obtain ⟨W, ⟨m0, w0⟩, turn⟩ := q D hDn
  -- the new list
  generalize hs3 : ({ s2 with heap := s2.heap.push { cls := .type "list", data := .seq ([] : List Value).toArray } } : Shared) = s3
  have I3 : Inv X pins σ (upd H2 D (.lst [])) s3 := by
    rw [← hs3]
    refine I2.laid (t' := s2.toks) (fun b o e => Heap.get?_push_of_some _ e) (Nat.le_of_eq hD) ⟨Nat.zero_le _, [], 0, .nil, ?_⟩
    rw [← hD]
    exact Heap.get?_push_size _ rfl
  have h3 : s3.heap = s2.heap.push { cls := .type "list", data := .seq ([] : List Value).toArray } := by rw [← hs3]
  have sz : ∀ b ∈ fp, b < s2.heap.objs.size := fun b hb => by
    obtain ⟨o, e, _⟩ := T.obj _ _ st2 b hb
    exact Heap.lt_size e
  have f3 : ∀ b ∈ fp, FpOk X pins (upd H2 D (.lst [])) b ∧ b < s3.heap.objs.size := fun b hb => by
    have hlt := sz b hb
    refine ⟨⟨?_, (f2 b hb).2⟩, by rw [h3, Heap.size_push]; exact Nat.lt_succ_of_lt hlt⟩
    rw [upd_ne (by rw [← hD]; exact Nat.ne_of_lt hlt)]
    exact (f2 b hb).1
  have st3 : tn 0 s3.heap := T.keep _ _ _ st2 fun b _ o e => by rw [h3]; exact Heap.get?_push_of_some _ e
  have I4 := block_start I3 ok hN f3
  have pg := hg s3 (upd H2 D (.lst [])) s3.heap.objs.size (cellsFrom (s3.heap.objs.size + 1) scope.names (cloFrom X.env.cells scope.names [])) fp
  have pt := ht s3 (upd H2 D (.lst [])) s3.heap.objs.size (cellsFrom (s3.heap.objs.size + 1) scope.names (cloFrom X.env.cells scope.names [])) fp
  have pe := he s3 (upd H2 D (.lst [])) s3.heap.objs.size (cellsFrom (s3.heap.objs.size + 1) scope.names (cloFrom X.env.cells scope.names [])) fp
  show codeAny _ _ (.compStart (.ListComp elt [⟨tg, iter, ifs, 0⟩] scope pos) 0 (.ref it) (.ref D) (compEnvC scope (cellsFrom (s3.heap.objs.size + 1) scope.names (cloFrom X.env.cells scope.names [])) s3.heap.objs.size X.env)) (compPost (model X.prog X.w) X.A X.xe use Qf (.ref D) s3.heap.objs.size) { s3 with heap := pushCells (s3.heap.push { cls := .type "dict", data := .dict #[] }) scope.names }
  have nfp : ∀ b ∈ fp, (upd H2 D (.lst [])) b = none := fun b hb => (f3 b hb).1.1
  generalize hce : compEnvC scope (cellsFrom (s3.heap.objs.size + 1) scope.names (cloFrom X.env.cells scope.names [])) s3.heap.objs.size X.env = ce at I4 pg pt pe ⊢
  have cL : ce.locals = s3.heap.objs.size := by subst hce; rfl
  generalize hH3 : upd H2 D (.lst []) = H3 at I3 I4 pg pt pe w0 nfp f3
  generalize hs4 : ({ s3 with heap := pushCells (s3.heap.push { cls := .type "dict", data := .dict #[] }) scope.names } : Shared) = s4 at I4 ⊢
  have st4 : tn 0 s4.heap := T.keep _ _ _ st3 fun b _ o e => by rw [← hs4]; exact pushCells_keeps _ _ _ _ (Heap.get?_push_of_some _ e)
  have stat : ∀ {σ' : St} {H' : Hp} {s' : Shared}, Inv (X.blk s3 H3 scope ce fp) [] σ' H' s' → (∀ b ∈ fp, H' b = none) → ∀ b ∈ fp, FpOk (X.blk s3 H3 scope ce fp) [] H' b := fun {σ' H' s'} I' hn b hb =>
    ⟨hn b hb, (I'.ok.exf b hb).1, I'.ok.exfs b hb, .inl hb, fun x c e => (I'.ok.exf b hb).2 x c e, fun p hp => absurd (show p ∈ ([] : List (Addr × Obj)) ++ [] from hp) (by simp)⟩
  have loop : codeAny (model X.prog X.w) X.A (.compLoop (.ListComp elt [⟨tg, iter, ifs, 0⟩] scope pos) 0 (.ref it) (.ref D) ce) (compPost (model X.prog X.w) X.A X.xe use Qf (.ref D) s3.heap.objs.size) s4 := by
    refine compLoop_any (fun n s' => ∃ i H', Inv (X.blk s3 H3 scope ce fp) [] (wipe σ (own.map (·.2))) H' s' ∧ tn i s'.heap ∧ (∀ b ∈ fp, H' b = none) ∧ W i n H') ?_ m0 ⟨0, H3, I4, st4, nfp, w0⟩
    rintro n s5 ⟨i, H5, I5, st5, n5, w5⟩
    rcases turn i n H5 w5 with ⟨stop, qq⟩ | ⟨go, Nx, hNx, step⟩
    · have td := T.done (X.blk s3 H3 scope ce fp) rfl rfl rfl hc i [] s5 _ H5 (fun _ _ => False) I5 (stat I5 n5) st5 stop
      refine thnF td fun r s6 ⟨hr, I6⟩ => ?_
      subst hr
      -- back in the def's context
      have I7 : Inv X pins σ H5 s6 := I3.call' (ch := fp) I6.os I6.base I6.hok I6.bare fun b hb => ⟨(f3 b hb).1.2.2.2.1, (f3 b hb).1.2.1, (f3 b hb).1.2.2.2.2.1, (f3 b hb).1.2.2.2.2.2⟩
      have nC : H5 s3.heap.objs.size = none := by
        have z : H5 ce.locals = none := I6.free
        rw [cL] at z
        exact z
      obtain ⟨m, hn, _⟩ := I6.loc
      have hn : s6.heap.Ns ce.locals m := hn
      rw [cL] at hn
      exact hRR D s3.heap.objs.size s6 m H5 I7 qq hn (I3.fpOk (Nat.le_refl _) nC)
    · have ti := T.item (X.blk s3 H3 scope ce fp) rfl rfl rfl hc i [] s5 _ H5 (fun _ _ => False) I5 (stat I5 n5) st5 go
      refine thnF ti fun r s6 ⟨u, hr, h6⟩ => ?_
      subst hr
      refine thnF h6 fun _ s7 ⟨x, H7, I7, r7, y7, st7, n7⟩ => ?_
      have I7' := I7.pinned (stat I7 n7) (T.obj _ _ st7)
      refine thnF (pg _ s7 _ H7 x u _ I7' r7 (step x H7 y7)) fun _ s8 ⟨σ8, H8, I8, hw8, q8⟩ => ?_
      refine thnF (pt _ s8 σ8 H8 _ I8 q8) fun b s9 ⟨H9, I9, q9⟩ => ?_
      -- the turn's end
      have fin : ∀ {s' : Shared} {H' : Hp}, Inv (X.blk s3 H3 scope ce fp) ([] ++ pinsAt fp s7.heap) σ8 H' s' → Nx H' → ∃ m, m < n ∧ ∃ i H', Inv (X.blk s3 H3 scope ce fp) [] (wipe σ (own.map (·.2))) H' s' ∧ tn i s'.heap ∧ (∀ b ∈ fp, H' b = none) ∧ W i m H' := fun {s' H'} I' nx => by
        obtain ⟨m', hm, w'⟩ := hNx H' nx
        have pin' : ∀ b ∈ fp, ∀ o, s7.heap.get? b = some o → s'.heap.get? b = some o ∧ H' b = none := fun b hb o e =>
          let z := I'.pin (b, o) (List.mem_append_right _ (List.mem_append_right _ (mem_pinsAt hb e)))
          ⟨z.1, z.2.1⟩
        have hl : (wipe σ (own.map (·.2))).length = σ8.length := by rw [← hw8, wipe_length]
        refine ⟨m', hm, i + 1, H', (I'.unpinned (pins := [])).weak hl (fun j v e => ?_), T.keep _ _ _ st7 fun b hb o e => (pin' b hb o e).1, fun b hb => ?_, w'⟩
        · rw [← hw8] at e
          exact (wipe_some e).1
        · obtain ⟨o, e, _⟩ := T.obj _ _ st7 b hb
          exact (pin' b hb o e).2
      cases b with
      | false =>
        simp only [Bool.false_eq_true, if_false] at q9 ⊢
        exact fin I9 q9
      | true =>
        simp only [if_true] at q9 ⊢
        refine thnF (pe _ s9 σ8 H9 _ I9 q9) fun z s10 ⟨yv, H10, I10, r10, acc, hD10, hz10, nx⟩ => ?_
        exact app_ok (X := X.blk s3 H3 scope ce fp) I10 hD10 hz10 r10 fun s11 I11 => fin I11 nx
  exact codeAny_compStart_list loop (T.self X.A 0 _ _ _ st4 loop)
/-- as a value -/
theorem pe_lc {elt tg iter : Expr} {ifs : List Expr} {scope : Scope} {own : List (Str × Nat)} {pos : Pos} {wi : TI} {g : TG} {tt : TT} {te : TE} (hc : X.calm = true) (hN : X.N.Nodup) (hi : PI X tg iter wi) (ok : BlkOk X.N X.env.scope scope own)
    (hg : ∀ (s : Shared) (H : Hp) (C : Addr) (cl : List (Str × Addr)) (fp : List Addr), PG (X.blk s H scope (compEnvC scope cl C X.env) fp) tg g) (ht : ∀ (s : Shared) (H : Hp) (C : Addr) (cl : List (Str × Addr)) (fp : List Addr), PTs (X.blk s H scope (compEnvC scope cl C X.env) fp) ifs tt)
    (he : ∀ (s : Shared) (H : Hp) (C : Addr) (cl : List (Str × Addr)) (fp : List Addr), PE (X.blk s H scope (compEnvC scope cl C X.env) fp) elt te) (hs : ∀ x, foldedSetIterable iter X.env x = pure x := by intro _; rfl) :
    PE X (.ListComp elt [⟨tg, iter, ifs, 0⟩] scope pos) (tLc wi g tt te (own.map (·.2))) := by
  intro pins s σ H Q I h
  rw [eval_ListComp]
  refine lc_core hc hN I hi ok hg ht he hs h fun D C s' m H' I' q hn f => ⟨m, hn, fun h'' sb => ?_⟩
  obtain ⟨f0, f1, f2, f3, f4, f5⟩ := f
  exact ⟨.ref D, H', I'.turned (t' := s'.toks) (fun b o hb e => (sb.2 b hb).trans e) f0 f1 f3 f4 f5, rfl, q⟩
/-- name = [..] on one line, the name a local -/
theorem ps_setLc {i : Nat} {y : Str} {py : Pos} {elt tg iter : Expr} {ifs : List Expr} {scope : Scope} {own : List (Str × Nat)} {pos spos : Pos} {wi : TI} {g : TG} {tt : TT} {te : TE} (hc : X.calm = true) (hN : X.N.Nodup) (hy : X.N[i]? = some y) (hyl : X.env.scope.names.lookup y = some .local)
    (hsw : swapsWith (.ListComp elt [⟨tg, iter, ifs, 0⟩] scope pos) (some (.Name y py)) spos.line X.env = pure true) (hi : PI X tg iter wi) (ok : BlkOk X.N X.env.scope scope own)
    (hg : ∀ (s : Shared) (H : Hp) (C : Addr) (cl : List (Str × Addr)) (fp : List Addr), PG (X.blk s H scope (compEnvC scope cl C X.env) fp) tg g) (ht : ∀ (s : Shared) (H : Hp) (C : Addr) (cl : List (Str × Addr)) (fp : List Addr), PTs (X.blk s H scope (compEnvC scope cl C X.env) fp) ifs tt)
    (he : ∀ (s : Shared) (H : Hp) (C : Addr) (cl : List (Str × Addr)) (fp : List Addr), PE (X.blk s H scope (compEnvC scope cl C X.env) fp) elt te) (hs : ∀ x, foldedSetIterable iter X.env x = pure x := by intro _; rfl) :
    PS X (.Assign [.Name y py] (.ListComp elt [⟨tg, iter, ifs, 0⟩] scope pos) spos) (tAsg (tLc wi g tt te (own.map (·.2))) (gName i)) := by
  intro pins s σ H D I h
  rw [exec_Assign_Name_used _ _ _ _ hsw]
  refine wpAny_bind (wpAny_standAt (wpAny_bind ?_))
  show wpAny _ X.A (do let _ ← comprehension (.ListComp elt [⟨tg, iter, ifs, 0⟩] scope pos) scope X.env (firstIterPos [⟨tg, iter, ifs, 0⟩] pos) (newList []) false (eval iter X.env) (some (assign (.Name y py) X.env))) _ _ s
  have h : tLc wi g tt te (own.map (·.2)) σ H (fun x H1 => gName i x σ H1 D.nx) := h
  refine wpAny_bind (thn (lc_core (Qf := fun _ s' => SP X pins D .next s') hc hN I hi ok hg ht he hs h fun L C s' m H' I' q hn f => ?_) fun _ s' hq => wpAny_pure (wpAny_pure hq))
  show wpAny _ _ (assign (.Name y py) X.env (.ref L)) _ _ _
  refine wpAny_assign_Name (store_ok2 (v := V.ref L) I' hN hy (.inl hyl) rfl (fun s2 I2 ⟨a, sb, ha⟩ => ?_) (.inr hyl))
  obtain ⟨f0, f1, f2, f3, f4, f5⟩ := f
  have haC : C ≠ a := by
    rcases ha with z | z
    · rw [z]; exact f1
    · exact fun e => f4 y a z e.symm
  refine ⟨m, hn.sameBut sb haC, fun h3 sb3 => ?_⟩
  exact ⟨_, H', I2.turned (t' := s2.toks) (fun b o hb e => (sb3.2 b hb).trans e) f0 f1 f3 f4 f5, q⟩
theorem sw_true {elt : Expr} {gs : List Comprehension} {scope : Scope} {pos py : Pos} {y : Str} {l : Nat} {env : Env} (hk : env.scope.kind = .function) (hy : env.scope.names.lookup y = some .local) (hl : (py.line == pos.line) = true)
    (ha : (scope.names.any fun (n, k) => n == y && (k == .local || k == .cell)) = false) : swapsWith (.ListComp elt gs scope pos) (some (.Name y py)) l env = pure true := by
  have ky : env.kindOf y = some .local := hy
  have hb : env.blockKind = .function := by unfold Env.blockKind; rw [hk]; rfl
  unfold swapsWith
  simp only [hb, ky, ha, Expr.pos, hl]
  rfl
end

/-! ### the forms one uses -/
/-- over a range: Pv by the turn and the heap (the new list at D within) -/
theorem lc_range {lo : Int} {n : Nat} {g : TG} {tt : TT} {te : TE} {vs : List Nat} {σ : St} {H1 : Hp} {D : Addr} {Qd : Hp → Prop} (Pv : Nat → Hp → Prop) (h0 : Pv 0 (upd H1 D (.lst [])))
    (hs : ∀ i H, i < n → Pv i H → g (.int (lo + i)) (wipe σ vs) H fun σ2 H2 => wipe σ2 vs = wipe σ vs ∧ tt σ2 H2 fun b H3 =>
      if b = true then te σ2 H3 fun y H4 => ∃ acc, H4 D = some (.lst acc) ∧ acc.length < sizeLine ∧ Pv (i + 1) (upd H4 D (.lst (acc ++ [y]))) else Pv (i + 1) H3) (hd : ∀ H, Pv n H → Qd H) :
    ∃ W : Nat → Nat → Hp → Prop, (∃ m, W 0 m (upd H1 D (.lst []))) ∧ ∀ i m H, W i m H →
      ((Itr lo n).stop i H ∧ Qd H) ∨ ((Itr lo n).go i H ∧ ∃ Nx : Hp → Prop, (∀ H', Nx H' → ∃ m', m' < m ∧ W (i + 1) m' H') ∧ ∀ x H', (Itr lo n).yld i H x H' → g x (wipe σ vs) H' fun σ2 H2 => wipe σ2 vs = wipe σ vs ∧ tt σ2 H2 fun b H3 =>
        if b = true then te σ2 H3 fun y H4 => ∃ acc, H4 D = some (.lst acc) ∧ acc.length < sizeLine ∧ Nx (upd H4 D (.lst (acc ++ [y]))) else Nx H3) := by
  refine ⟨fun i m H => m = n - i ∧ i ≤ n ∧ Pv i H, ⟨n, by simp, Nat.zero_le _, h0⟩, ?_⟩
  rintro i m H ⟨rfl, hi, p⟩
  by_cases hlt : i < n
  · refine .inr ⟨hlt, Pv (i + 1), fun H' p' => ⟨n - (i + 1), by omega, rfl, hlt, p'⟩, fun x H' y => ?_⟩
    obtain ⟨e, y⟩ := y
    subst e y
    exact hs i _ hlt p
  · have e : i = n := by omega
    subst e
    exact .inl ⟨Nat.le_refl _, hd H p⟩
/-- over a list that the block leaves as it is -/
theorem lc_list {K : PySem.W.Frag} {a : Addr} {xs : List V} {g : TG} {tt : TT} {te : TE} {vs : List Nat} {σ : St} {H1 : Hp} {D : Addr} {Qd : Hp → Prop} (Pv : Nat → Hp → Prop) (h0 : Pv 0 (upd H1 D (.lst []))) (hl : ∀ i H, i ≤ xs.length → Pv i H → SqL K H a xs)
    (hs : ∀ i x H, xs[i]? = some x → Pv i H → g x (wipe σ vs) H fun σ2 H2 => wipe σ2 vs = wipe σ vs ∧ tt σ2 H2 fun b H3 =>
      if b = true then te σ2 H3 fun y H4 => ∃ acc, H4 D = some (.lst acc) ∧ acc.length < sizeLine ∧ Pv (i + 1) (upd H4 D (.lst (acc ++ [y]))) else Pv (i + 1) H3) (hd : ∀ H, Pv xs.length H → Qd H) :
    ∃ W : Nat → Nat → Hp → Prop, (∃ m, W 0 m (upd H1 D (.lst []))) ∧ ∀ i m H, W i m H →
      ((Itl K a).stop i H ∧ Qd H) ∨ ((Itl K a).go i H ∧ ∃ Nx : Hp → Prop, (∀ H', Nx H' → ∃ m', m' < m ∧ W (i + 1) m' H') ∧ ∀ x H', (Itl K a).yld i H x H' → g x (wipe σ vs) H' fun σ2 H2 => wipe σ2 vs = wipe σ vs ∧ tt σ2 H2 fun b H3 =>
        if b = true then te σ2 H3 fun y H4 => ∃ acc, H4 D = some (.lst acc) ∧ acc.length < sizeLine ∧ Nx (upd H4 D (.lst (acc ++ [y]))) else Nx H3) := by
  refine ⟨fun i m H => m = xs.length - i ∧ i ≤ xs.length ∧ Pv i H, ⟨xs.length, by simp, Nat.zero_le _, h0⟩, ?_⟩
  rintro i m H ⟨rfl, hi, p⟩
  have q := hl i H hi p
  by_cases hlt : i < xs.length
  · refine .inr ⟨⟨xs, xs[i], q, by simp [hlt]⟩, Pv (i + 1), fun H' p' => ⟨xs.length - (i + 1), by omega, rfl, hlt, p'⟩, fun x H' y => ?_⟩
    obtain ⟨e, y⟩ := y
    subst e
    exact hs i x _ (y xs q) p
  · have e : i = xs.length := by omega
    subst e
    exact .inl ⟨⟨xs, q, Nat.le_refl _⟩, hd H p⟩
def blkC (N : List Str) (sc scope : Scope) (own : List (Str × Nat)) : Bool :=
  (match scope.kind with | .function => true | _ => false) && (scope.names.all fun y => decide (scope.names.lookup y.1 = some y.2)) && (own.all fun p => decide (N[p.2]? = some p.1)) &&
    (scope.names.all fun y => match y.2 with
      | .free => (match sc.names.lookup y.1 with | some .cell => true | some .free => true | _ => false)
      | .local => decide (y.1 ∈ own.map (·.1)) || decide (y.1 ∉ N)
      | .cell => decide (y.1 ∈ own.map (·.1)) || decide (y.1 ∉ N)
      | _ => true)
theorem blkOk_by {N : List Str} {sc scope : Scope} {own : List (Str × Nat)} (h : blkC N sc scope own = true) : BlkOk N sc scope own := by
  unfold blkC at h
  simp only [Bool.and_eq_true, List.all_eq_true, decide_eq_true_eq] at h
  obtain ⟨⟨⟨h1, h2⟩, h3⟩, h4⟩ := h
  refine ⟨?_, h2, h3, fun y hy e => ?_, fun y hy e => ?_⟩
  · split at h1
    · assumption
    · cases h1
  · have q := h4 y hy
    simp only [e] at q
    split at q <;> first | exact .inl (by assumption) | exact .inr (by assumption) | cases q
  · have q := h4 y hy
    rcases e with e | e <;> (simp only [e, Bool.or_eq_true, decide_eq_true_eq] at q; exact q)
end L2

namespace L2
open PySem PySem.Spec PyProof.Rows

section
variable {prog : Program} {w : World} {A : Around} {R : Result → Shared → Prop} {s : Shared} {elt t0 i0 t1 i1 : Expr} {ifs0 ifs1 : List Expr} {scope : Scope} {pos : Pos} {it acc : Value} {env : Env}
end

section
variable {X : Cx}
end
end L2

namespace L2
open PySem PySem.Spec PyProof.Rows

/-! ### lists of pairs as tables -/
section
variable {κ : Type} [DecidableEq κ]
def valV (kvs : List (κ × V)) (k : κ) : Option V := (kvs.find? fun kv => decide (kv.1 = k)).map (·.2)
/-- in its place, or at the end -/
def putK (kvs : List (κ × V)) (k : κ) (v : V) : List (κ × V) :=
  if (kvs.any fun kv => decide (kv.1 = k)) = true then kvs.map (fun kv => if kv.1 = k then (kv.1, v) else kv) else kvs ++ [(k, v)]

theorem valV_pos {p : κ × V} {r : List (κ × V)} {k : κ} (e : p.1 = k) : valV (p :: r) k = some p.2 := by simp [valV, List.find?_cons, e]
theorem valV_neg {p : κ × V} {r : List (κ × V)} {k : κ} (e : ¬ p.1 = k) : valV (p :: r) k = valV r k := by simp [valV, List.find?_cons, e]
theorem valV_any (k : κ) : ∀ kvs : List (κ × V), (kvs.any fun kv => decide (kv.1 = k)) = (valV kvs k).isSome
  | [] => rfl
  | p :: r => by
    rw [List.any_cons]
    by_cases e : p.1 = k
    · simp only [valV_pos e, decide_eq_true e, Bool.true_or, Option.isSome_some]
    · rw [valV_neg e, decide_eq_false e, Bool.false_or]; exact valV_any k r
theorem length_putK (kvs : List (κ × V)) (k : κ) (v : V) : (putK kvs k v).length ≤ kvs.length + 1 := by
  unfold putK
  split
  · rw [List.length_map]; omega
  · rw [List.length_append, List.length_cons, List.length_nil]; omega
theorem putK_new {kvs : List (κ × V)} {k : κ} (v : V) (h : valV kvs k = none) : putK kvs k v = kvs ++ [(k, v)] := by
  unfold putK
  rw [valV_any, h]
  exact if_neg (by decide)

theorem RelO.isSome_eq {o : Option V} {u : Option Value} (r : RelO o u) : o.isSome = u.isSome := by
  cases o with
  | none => cases u with
    | none => rfl
    | some _ => exact (show False from r).elim
  | some _ => cases u with
    | none => exact (show False from r).elim
    | some _ => rfl

/-- raw tables of the same keys -/
theorem KV.val {kvs : List (κ × V)} {vs : List (κ × Value)} (r : KV kvs vs) (k : κ) : RelO (valV kvs k) (valueAt vs k) := by
  unfold KV at r
  induction r with
  | nil => exact True.intro
  | @cons p q ps qs h t ih =>
    obtain ⟨h1, h2⟩ := h
    by_cases e : p.1 = k
    · have e' : q.1 = k := h1.symm.trans e
      have b : valueAt (q :: qs) k = some q.2 := by simp [valueAt, List.find?_cons, e']
      rw [valV_pos e, b]; exact h2
    · have e' : ¬ q.1 = k := fun z => e (h1.trans z)
      have b : valueAt (q :: qs) k = valueAt qs k := by simp [valueAt, List.find?_cons, e']
      rw [valV_neg e, b]; exact ih
end

/-! ### a tracked dict, its keys ints and texts or tuples of these -/
theorem kV_is {P : Program} {w : World} {k : Key} {u : Value} (r : RelV (kV k) u) : (mixKind P w).is k u = true := by
  cases k with
  | inl i => obtain ⟨t, e⟩ := (show ∃ t, u = Value.int i t from r); subst e; exact mixKind_int P w i t
  | inr x => obtain ⟨t, e⟩ := (show ∃ t, u = Value.str x t from r); subst e; exact mixKind_str P w x t
theorem items_are {P : Program} {w : World} : ∀ {ks : List Key} {us : List Value}, Vals (ks.map kV) us → ItemsAre (mixKind P w) ks us
  | [], _, r => by rw [List.map_nil] at r; cases r; exact .nil
  | k :: ks, _, r => by
    rw [List.map_cons] at r
    cases r with
    | cons h t => exact .cons (kV_is h) (items_are t)

/-- raw entries of a dict with tuple keys -/
abbrev KT (H : Hp) : List (List Key × V) → List (List Key × Addr × Value) → Prop := Paired fun p q => p.1 = q.1 ∧ H q.2.1 = some (.tup (p.1.map kV)) ∧ RelV p.2 q.2.2
theorem KT.val {H : Hp} {kvs : List (List Key × V)} {xs : List (List Key × Addr × Value)} (r : KT H kvs xs) (k : List Key) : RelO (valV kvs k) ((atKey xs k).map (·.2)) := by
  induction r with
  | nil => exact True.intro
  | @cons p q ps qs h t ih =>
    obtain ⟨h1, _, h2⟩ := h
    by_cases e : p.1 = k
    · have e' : q.1 = k := h1.symm.trans e
      have b : atKey (q :: qs) k = some q.2 := by simp [atKey, List.find?_cons, e']
      rw [valV_pos e, b]; exact h2
    · have e' : ¬ q.1 = k := fun z => e (h1.trans z)
      have b : atKey (q :: qs) k = atKey qs k := by simp [atKey, List.find?_cons, e']
      rw [valV_neg e, b]; exact ih
theorem KT.repl {H : Hp} {kvs : List (List Key × V)} {xs : List (List Key × Addr × Value)} (r : KT H kvs xs) (k : List Key) {y : V} {u : Value} (ry : RelV y u) :
    KT H (kvs.map fun kv => if kv.1 = k then (kv.1, y) else kv) (xs.map (putAt k u)) := by
  induction r with
  | nil => exact .nil
  | @cons p q ps qs h t ih =>
    rw [List.map_cons, List.map_cons]
    refine .cons ?_ ih
    obtain ⟨h1, h2, h3⟩ := h
    unfold putAt
    by_cases e : p.1 = k
    · rw [if_pos e, if_pos (h1.symm.trans e)]; exact ⟨h1, h2, ry⟩
    · rw [if_neg e, if_neg (fun z => e (h1.trans z))]; exact ⟨h1, h2, h3⟩
theorem KT.put {H : Hp} {kvs : List (List Key × V)} {xs : List (List Key × Addr × Value)} (r : KT H kvs xs) (k : List Key) {b : Addr} {y : V} {u : Value} (hb : H b = some (.tup (k.map kV))) (ry : RelV y u) :
    KT H (putK kvs k y) (storedH xs k b u) := by
  have e : (kvs.any fun kv => decide (kv.1 = k)) = (atKey xs k).isSome := by
    rw [valV_any, (r.val k).isSome_eq, Option.isSome_map]
  unfold putK storedH
  rw [e]
  by_cases q : (atKey xs k).isSome = true
  · rw [if_pos q, if_pos q]; exact r.repl k ry
  · rw [if_neg q, if_neg q]; exact Paired.snoc r ⟨rfl, hb, ry⟩
theorem KT.keeps {H H' : Hp} {kvs : List (List Key × V)} {xs : List (List Key × Addr × Value)} (r : KT H kvs xs) (ht : ∀ b ys, H b = some (.tup ys) → H' b = some (.tup ys)) : KT H' kvs xs :=
  Paired.mapP r fun _ _ z => ⟨z.1, ht _ _ z.2.1, z.2.2⟩

section
variable {P : Program} {w : World} {H : Hp} {h : Heap} {a : Addr}
theorem rd_of {u : HO} (ok : HOk P w H h) (e : Rd H a u) : ObjOk P w H h a u := e.ok ok
theorem dk_rd {kvs : List (Key × V)} (ok : HOk P w H h) (e : Rd H a (.dK kvs)) : kvs.length ≤ sizeLine ∧ (a == sysModules) = false ∧ ∃ vs, KV kvs vs ∧ h.DictOf (mixKind P w) a vs :=
  show ObjOk P w H h a (.dK kvs) from rd_of ok e
/-- a tracked tuple of ints and texts is a key -/
theorem key_of {ks : List Key} (ok : HOk P w H h) (e : H a = some (.tup (ks.map kV))) : (tupleKind (mixKind P w)).is h ks a := by
  obtain ⟨_, its, r, o, h1, h2, n, h3⟩ := (show ObjOk P w H h a (.tup (ks.map kV)) from ok a _ e)
  exact ⟨o, its.toArray, n, h1, h2, h3, by simpa using items_are r⟩
theorem dt_rd {kvs : List (List Key × V)} (ok : HOk P w H h) (e : Rd H a (.dT kvs)) : kvs.length ≤ sizeLine ∧ (a == sysModules) = false ∧
    ∃ xs, KT H kvs xs ∧ h.DictOfH (tupleKind (mixKind P w)) a xs := by
  obtain ⟨z, y, xs, r, o, es, ep, h1, h2, h3, h4, h5⟩ := (show ObjOk P w H h a (.dT kvs) from rd_of ok e)
  refine ⟨z, y, xs, r, o, es, ep, h1, h2, h3, h4, fun x hx => ?_, h5⟩
  have all : ∀ {l : List (List Key × V)} {m : List (List Key × Addr × Value)}, KT H l m → ∀ x ∈ m, (tupleKind (mixKind P w)).is h x.1 x.2.1 := by
    intro l m q
    induction q with
    | nil => intro x hx; exact nomatch hx
    | @cons p q ps qs hq t ih =>
      intro x hx
      rcases List.mem_cons.mp hx with e | hx
      · subst e
        exact key_of ok (by rw [← hq.1]; exact hq.2.1)
      · exact ih x hx
  exact all r x hx
end

/-- what the dict at a holds at the key y -/
def DGet (H : Hp) (a : Addr) (y : V) (r : Option V) : Prop :=
  (∃ kvs k, Rd H a (.dK kvs) ∧ y = kV k ∧ r = valV kvs k) ∨ ∃ kvs k b, Rd H a (.dT kvs) ∧ y = .ref b ∧ H b = some (.tup (k.map kV)) ∧ r = valV kvs k
theorem DGet.t {H : Hp} {a b : Addr} {kvs : List (List Key × V)} {k : List Key} (e : H a = some (.dT kvs)) (eb : H b = some (.tup (k.map kV))) : DGet H a (.ref b) (valV kvs k) := .inr ⟨kvs, k, b, .inl e, rfl, eb, rfl⟩

section
variable {X : Cx} {pins : List (Addr × Obj)} {σ : St} {H : Hp} {s : Shared} {a : Addr} {y v : V} {u r : Value} {o : Option V} {A : Around} {E : Value → Shared → Prop}

theorem Inv.big (I : Inv X pins σ H s) : sysModules < s.heap.objs.size := by
  have h : mainGlobals < s.heap.objs.size := (I.mod.glob.keeps I.bk).lt
  exact Nat.lt_trans (by decide) h

/-- d[y], there -/
theorem d_getItem {Q : Value → Shared → Prop} (hu : A.units + 1 < cLine) (I : Inv X pins σ H s) (g : DGet H a y (some v)) (ry : RelV y u) (h : ∀ w' s', Inv X pins σ H s' → RelV v w' → Q w' s') :
    wpAny (model X.prog X.w) A (getItem (.ref a) u) Q E s := by
  rcases g with ⟨kvs, k, e, ey, l⟩ | ⟨kvs, k, b, e, ey, eb, l⟩
  · subst ey
    obtain ⟨z, hd, vs, rel, dd⟩ := dk_rd I.hok e
    obtain ⟨w', hw, rw'⟩ := RelO.some_of (v := v) (o := valueAt vs k) (by rw [l]; exact rel.val k)
    exact wpAny_getItem_of (kV_is ry) dd.mapOf hw (h w' _ (I.tok _) rw')
  · subst ey
    cases (show u = Value.ref b from ry)
    obtain ⟨z, hd, xs, rel, dd⟩ := dt_rd I.hok e
    obtain ⟨w', hw, rw'⟩ := RelO.some_of (v := v) (o := (atKey xs k).map (·.2)) (by rw [l]; exact rel.val k)
    obtain ⟨p, hp, hp2⟩ := Option.map_eq_some_iff.mp hw
    refine wpAny_getItem_heap (tupleKind_room_in1 hu) (key_of I.hok eb) dd hp ?_
    rw [hp2]
    exact h w' _ (I.tok _) rw'
/-- a dict's object is replaced -/
theorem d_write {h' : Heap} {t' : Nat} {ob : HO} (I : Inv X pins σ H s) (mu : Mut (H a)) (hs : Heap.SameBut a s.heap h') (he : ∃ q, h'.get? a = some q) (new : ObjOk X.prog X.w (upd H a ob) h' a ob) :
    Inv X pins σ (upd H a ob) { s with heap := h', toks := t' } :=
  I.write (x := a) (e := a) mu (.inl rfl) (fun b q hb z => (hs.2 b hb).trans z) he new
end

section
variable {X : Cx} {pins : List (Addr × Obj)} {σ : St} {H : Hp} {s : Shared} {a : Addr} {kvs : List (Key × V)} {k : Key} {u : Value} {A : Around} {E : Value → Shared → Prop}
end

/-! ### readings and rules -/
/-- the element of a subscription, not a slice -/
def NoSl (i : Expr) : Prop := ∀ ov iv, subscripted i false ov iv = operate [ov, iv] (getItem ov iv)
theorem subD_of {prog : Program} {w : World} {A : Around} {E : Value → Shared → Prop} {s : Shared} {env : Env} {value slice : Expr} {pos : Pos} {T id : String} {Q : Value → Shared → Prop}
    (hl : typeLookup (.type T) "__getitem__" = pure (some (.builtin id))) (hs : NoSl slice)
    (h : wpAny (model prog w) A (eval value env) (fun o s₁ => wpAny (model prog w) A (eval slice env) (fun i s₂ => s₂.TypeIs o T ∧ wpAny (model prog w) A (getItem o i) Q E s₂) E s₁) E s) :
    wpAny (model prog w) A (eval (.Subscript value slice pos) env) Q E s := by
  refine Subscript_ (wpAny_mono h (fun o s₁ h₁ => wpAny_mono h₁ (fun i s₂ h₂ => ?_) fun _ _ x => x) fun _ _ x => x)
  obtain ⟨hT, h₂⟩ := h₂
  unfold subscriptTail
  refine wpAny_bind ?_
  rw [getitemInPython_of_ne hT.not_modules]
  refine wpAny_bind (wpAny_specialOf hT hl ?_)
  have fin : wpAny (model prog w) A (subscripted slice false o i) (fun r s₃ => wpAny (model prog w) A (letTemporaryGo value o r >>= fun _ => pure r) Q E s₃) E s₂ := by
    rw [hs o i]
    exact wpAny_operating (wpAny_mono h₂ (fun r s₃ h₃ => wpAny_bind (wpAny_letTemporaryGo (wpAny_pure h₃))) fun _ _ x => x)
  first
    | exact wpAny_pure (wpAny_bind fin)
    | exact wpAny_bind (wpAny_pure (wpAny_bind fin))
    | exact wpAny_bind fin

theorem dict_typeIs {X : Cx} {pins : List (Addr × Obj)} {σ : St} {H : Hp} {s : Shared} {a : Addr} {y : V} {o : Option V} (I : Inv X pins σ H s) (g : DGet H a y o) : s.TypeIs (.ref a) "dict" := by
  rcases g with ⟨kvs, k, e, _, _⟩ | ⟨kvs, k, b, e, _, _, _⟩
  · obtain ⟨_, _, vs, _, dd⟩ := dk_rd I.hok e
    exact dd.typeIs
  · obtain ⟨_, _, xs, _, dd⟩ := dt_rd I.hok e
    exact dd.typeIs

/-- d[y] -/
def tDGet (td ty : TE) : TE := fun σ H Q => td σ H fun x H1 => ty σ H1 fun y H2 => ∃ a v, x = .ref a ∧ DGet H2 a y (some v) ∧ Q v H2

section
variable {X : Cx} {o i e value : Expr} {pos pos' tpos : Pos} {td ty tv : TE}
theorem pe_dget (hu : X.A.units + 1 < cLine) (ho : PE X o td) (hi : PE X i ty) (hs : NoSl i) : PE X (.Subscript o i pos) (tDGet td ty) := by
  intro pins s σ H Q I h
  refine subD_of PySem.F.slot_dict_getitem.lookup hs (thn (ho pins s σ H _ I h) fun u s1 ⟨x, H1, I1, rx, q1⟩ => thn (hi pins s1 σ H1 _ I1 q1) fun iv s2 ⟨y, H2, I2, ry, a, v, ex, g, q2⟩ => ?_)
  subst ex
  obtain rfl : u = Value.ref a := rx
  exact ⟨dict_typeIs I2 g, d_getItem hu I2 g ry fun w' s3 I3 rw' => ⟨v, H2, I3, rw', q2⟩⟩
end

/-! ### displays -/
theorem dt_empty {P : Program} {w : World} {H : Hp} (h : Heap) (hb : sysModules < h.objs.size) : ObjOk P w H (h.push { cls := .type "dict", data := .dict #[] }) h.objs.size (.dT []) :=
  ⟨Nat.zero_le _, beq_eq_false_iff_ne.mpr (Ne.symm (Nat.ne_of_lt hb)), [], .nil, _, #[], 0, Heap.get?_push_size _ rfl, ⟨rfl, rfl, rfl⟩, rfl, rfl, List.nodup_nil⟩
def tDNewT : TE := fun _ H Q => ∀ p, H p = none → Q (.ref p) (upd H p (.dT []))
section
variable {X : Cx} {pos : Pos}
theorem pe_dnewT : PE X (.Dict [] [] pos) tDNewT := fun pins s σ H Q I h =>
  wpAny_Dict_empty ⟨.ref s.heap.objs.size, _, I.laid (a := s.heap.objs.size) (o := .dT []) (t' := s.toks) (fun _ _ q => Heap.get?_push_of_some _ q) (Nat.le_refl _) (dt_empty s.heap I.big), rfl, h _ (I.hok.fresh (Nat.le_refl _))⟩
end

/-! ### methods -/

section
variable {X : Cx} {pins : List (Addr × Obj)} {σ : St} {H : Hp} {s : Shared} {a : Addr} {y d : V} {u r : Value} {o : Option V} {A : Around} {E : Value → Shared → Prop}
end

section
variable {X : Cx} {o e f : Expr} {apos cpos : Pos} {td ty tx : TE}
end

/-! ### dict(d): a copy -/
section
variable {X : Cx} {pins : List (Addr × Obj)} {σ : St} {H : Hp} {s : Shared} {a : Addr} {kvs : List (Key × V)} {A : Around} {E : Value → Shared → Prop}
end

section
variable {X : Cx} {pins : List (Addr × Obj)} {σ : St} {H : Hp} {s : Shared} {a : Addr} {y : V} {u : Value} {A : Around} {E : Value → Shared → Prop}
end
end L2

namespace L2
open PySem PySem.Spec PyProof.Rows

section
variable {prog : Program} {w : World} {A : Around} {E : Value → Shared → Prop}

end

section
variable {X : Cx}
end
end L2

namespace L2
open PySem PySem.Spec PyProof.Rows

section
variable {X : Cx} {pins : List (Addr × Obj)} {σ : St} {H : Hp} {s : Shared} {h' : Heap}

/-! ### locking a thing while a statement runs -/
theorem Inv.lock {d : Addr} {u : HO} (I : Inv X pins σ H s) (h : H d = some u) (mu : Mut (some u)) : ∃ od, Inv X pins σ (upd H d (.frz od u)) s := by
  have x := I.hok d u h
  have ex : ∃ od, s.heap.get? d = some od := by
    cases u with
    | lst xs => obtain ⟨_, _, _, _, e⟩ := x; exact ⟨_, e⟩
    | dK kvs => obtain ⟨_, _, _, _, o, _, _, e, _⟩ := x; exact ⟨o, e⟩
    | dT kvs => obtain ⟨_, _, _, _, o, _, _, e, _⟩ := x; exact ⟨o, e⟩
    | set S n => obtain ⟨o, _, _, _, e, _⟩ := x; exact ⟨o, e⟩
    | ins C dx fs => obtain ⟨_, _, _, e, _⟩ := x; exact ⟨_, e⟩
    | ext φ => obtain ⟨_, ⟨_, e⟩, _⟩ := x; exact ⟨_, e⟩
    | _ => exact False.elim mu
  obtain ⟨od, e⟩ := ex
  have new : ObjOk X.prog X.w (upd H d (.frz od u)) s.heap d (.frz od u) := by
    refine ⟨e, x.stay (fun b v _ q => q) (fun b q => ?_) fun b xs q => ?_⟩
    · rw [upd_ne (fun z => by rw [z, h] at q; cases q; exact mu)]; exact q
    · rw [upd_ne (fun z => by rw [z, h] at q; cases q; exact mu)]; exact q
  exact ⟨od, I.write (x := d) (e := d) (t' := s.toks) (h' := s.heap) (by rw [h]; exact mu) (.inl rfl) (fun b v _ q => q) ⟨od, e⟩ new⟩
theorem Inv.nofrz {d : Addr} {u : HO} (I : Inv X pins σ H s) (h : H d = some u) (mu : Mut (some u)) : ∀ o' u', X.H_0 d ≠ some (.frz o' u') := fun o' u' e => by
  have q := I.base.frzs d o' u' e
  rw [h] at q
  cases q
  exact mu
theorem Inv.unlock {d : Addr} {od : Obj} {u : HO} (I : Inv X pins σ H s) (h : H d = some (.frz od u)) (hn : ∀ o' u', X.H_0 d ≠ some (.frz o' u')) : Inv X pins σ (upd H d u) s := by
  have neH : ∀ b o, H b = some o → (∀ o' u', o ≠ .frz o' u') → b ≠ d := fun b o e hne z => by
    rw [z, h] at e
    cases e
    exact hne _ _ rfl
  have neN : ∀ b, H b = none → b ≠ d := fun b e z => by rw [z, h] at e; cases e
  refine ⟨I.ok, I.os, I.bare, ⟨I.base.keep, I.base.slot, fun b o e n hx => ?_, I.base.there, fun b xs e => ?_, fun b o x e => ?_, fun b ps e => ?_⟩, I.loc, I.cell, ?_, fun x c e => ?_, fun p hp => ?_, fun b o e => ?_, I.len⟩
  · rw [upd_ne (neN b (I.base.free b o e n hx))]; exact I.base.free b o e n hx
  · have q := I.base.tups b xs e
    rw [upd_ne (neH b _ q (fun _ _ z => nomatch z))]; exact q
  · have q := I.base.frzs b o x e
    rw [upd_ne (fun z => by rw [z] at e; exact hn _ _ e)]; exact q
  · obtain ⟨m, q⟩ := I.base.tbls b ps e
    exact ⟨m, by rw [upd_ne (neH b _ q (fun _ _ z => nomatch z))]; exact q⟩
  · rw [upd_ne (neN _ I.free)]; exact I.free
  · rw [upd_ne (neN c (I.freeC x c e))]; exact I.freeC x c e
  · obtain ⟨e, n, r⟩ := I.pin p hp
    exact ⟨e, by rw [upd_ne (neN _ n)]; exact n, r⟩
  · by_cases hb : b = d
    · rw [hb, upd_same] at e
      cases e
      rw [hb]
      obtain ⟨_, x⟩ := I.hok d _ h
      exact x.stay (fun c v _ q => q) (fun c q => by rw [upd_ne (neH c _ q (fun _ _ z => nomatch z))]; exact q) fun c xs q => by rw [upd_ne (neH c _ q (fun _ _ z => nomatch z))]; exact q
    · rw [upd_ne hb] at e
      exact (I.hok b o e).stay (fun c v _ q => q) (fun c q => by rw [upd_ne (neH c _ q (fun _ _ z => nomatch z))]; exact q) fun c xs q => by rw [upd_ne (neH c _ q (fun _ _ z => nomatch z))]; exact q
end
/-- the statement runs while the thing at d is locked (read, not written); d and what stands there are the reading's choice -/
def tLock (t : TS) : TS := fun D σ H => ∃ d u, H d = some u ∧ Mut (some u) ∧ ∀ od, t ⟨fun σ' H' => H' d = some (.frz od u) ∧ D.nx σ' (upd H' d u), fun v H' => H' d = some (.frz od u) ∧ D.rt v (upd H' d u), fun σ' H' => H' d = some (.frz od u) ∧ D.bk σ' (upd H' d u), fun σ' H' => H' d = some (.frz od u) ∧ D.ct σ' (upd H' d u)⟩ σ (upd H d (.frz od u))
section
variable {X : Cx}
theorem ps_lock {st : Stmt} {t : TS} (h : PS X st t) : PS X st (tLock t) := by
  intro pins s σ H D I hw
  obtain ⟨d, u, hd, mu, hw⟩ := hw
  obtain ⟨od, I1⟩ := I.lock hd mu
  refine thn (h pins s σ _ _ I1 (hw od)) fun f s1 q => ?_
  cases f with
  | next => obtain ⟨σ', H', I2, e, q⟩ := q; exact ⟨σ', _, I2.unlock e (I.nofrz hd mu), q⟩
  | brk => obtain ⟨σ', H', I2, e, q⟩ := q; exact ⟨σ', _, I2.unlock e (I.nofrz hd mu), q⟩
  | cont => obtain ⟨σ', H', I2, e, q⟩ := q; exact ⟨σ', _, I2.unlock e (I.nofrz hd mu), q⟩
  | ret v => obtain ⟨x, σ', H', I2, r, e, q⟩ := q; exact ⟨x, σ', _, I2.unlock e (I.nofrz hd mu), r, q⟩

/-! ### one iterator just laid -/
theorem pi_one {tg : Expr} {pins : List (Addr × Obj)} {σ : St} {H : Hp} {s : Shared} {R : It → Hp → Prop} {J : It} {tn : Nat → Heap → Prop} {tk : Nat} (I : Inv X pins σ H s) (o : Obj)
    (T : Turn X.prog X.w X.K tg J [s.heap.objs.size] s.heap.objs.size tn) (st : tn 0 (s.heap.push o)) (q : R J H) : PIE X pins σ tg R (.ref s.heap.objs.size) { s with heap := s.heap.push o, toks := tk } := by
  refine ⟨s.heap.objs.size, [s.heap.objs.size], tn, J, H, rfl, I.kept fun b ob e => Heap.get?_push_of_some _ e, T, st, fun b hb => ?_, q⟩
  have e : b = s.heap.objs.size := by simpa using hb
  subst e
  exact I.fpOk (Nat.le_refl _) (I.hok.fresh (Nat.le_refl _))
end

/-! ### range with a step -/
section
variable {X : Cx} {tg : Expr}
end

/-! ### reversed(list) -/
section
variable {X : Cx} {tg : Expr}
end

/-! ### a str -/

/-! ### a dict's keys: any dict's entries -/
section
variable {prog : Program} {w : World} {A : Around} {E : Value → Shared → Prop} {s : Shared}
theorem iter_keys {d : Addr} {o : Obj} {es : Array DictEntry} {ep : Nat} {Q : Value → Shared → Prop} (hd : (d == sysModules) = false) (ho : s.heap.get? d = some o) (hc : o.ExactDict) (hdat : o.data = .dict es ep)
    (hQ : Q (.ref s.heap.objs.size) { s with heap := s.heap.push { cls := .type "dict_keyiterator", data := .fields #[.ref d, .int 0 0, .int es.size 0, .int ep 0] } }) :
    wpAny (model prog w) A (pyIter (.ref d)) Q E s := by
  have hT : s.TypeIs (.ref d) "dict" := ⟨o, ho, hc.1⟩
  refine wpAny_pyIter_slot hT F.slot_dict_iter (wpAny_call_entry F.slot_dict_iter hT F.entry_dict_iter ?_ (F.args_dict_iter_1 _))
  unfold Builtin.«dict.__iter__»
  refine wpAny_bind ?_
  unfold Builtin.Dict.dictSlotNone
  refine wpAny_bind (wpAny_notOrdered_dict hT ?_)
  show wpAny _ _ (pure (Value.ref d)) _ _ s
  refine wpAny_pure ?_
  show wpAny _ _ (Builtin.Dict.showsAll d >>= _) _ _ s
  unfold Builtin.Dict.showsAll
  rw [if_neg (by rw [hd]; exact Bool.false_ne_true)]
  refine wpAny_bind (wpAny_pure ?_)
  refine wpAny_bind (wpAny_dictEntries ho hdat ?_)
  refine wpAny_bind (wpAny_dictEpoch ho hdat ?_)
  refine wpAny_bind (wpAny_newObj_type (wpAny_pure ⟨_, rfl, "dict_keyiterator", _, ⟨_, Heap.get?_push_size _ rfl, rfl⟩, F.slot_dict_keyiterator_next.lookup, ?_⟩))
  simpa [rawInt] using hQ
theorem next_key_item {it d : Addr} {i n ep : Nat} {od : Obj} {es : Array DictEntry} {en : DictEntry} {Q : Option Value → Shared → Prop} (hit : s.heap.IsKeyIter it d i n ep) (hod : s.heap.get? d = some od) (hdd : od.data = .dict es ep)
    (hsz : es.size = n) (hx : es[i]? = some en) (hQ : ∀ h', h'.IsKeyIter it d (i + 1) n ep → Heap.SameBut it s.heap h' → Q (some en.key) { s with heap := h' }) : wpAny (model prog w) A (pyNext (.ref it)) Q E s := by
  obtain ⟨o, ho, hc, hd⟩ := id hit
  unfold pyNext
  refine wpAny_bind (wpAny_attempt (wpAny_callSpecial?_slot (name := Str.ofString "__next__") hit.typeIs F.slot_dict_keyiterator_next
    (wpAny_call_entry F.slot_dict_keyiterator_next hit.typeIs F.entry_dict_keyiterator_next ?_ (F.args_dict_keyiterator_next_1 _))))
  refine wpAny_bind (wpAny_pure ?_)
  refine wpAny_bind ?_
  refine wpAny_bind ?_
  first | refine wpAny_bind (wpAny_typeNameOfWhole_keyiter hit.typeIs (wpAny_pure ?_)) | refine wpAny_bind (wpAny_typeNameOf_keyiter hit.typeIs (wpAny_pure ?_))
  refine wpAny_bind (wpAny_fieldsOf ho hd ?_)
  have hown : Builtin.Dict_items.ownsTuple "dict_keyiterator" = false := by decide
  simp only [hown, Bool.false_eq_true, if_false]
  show wpAny _ _ (if (Value.ref d == Value.none) = true then _ else _) _ _ s
  rw [if_neg (show ¬ ((Value.ref d == Value.none) = true) from Bool.false_ne_true)]
  refine wpAny_bind (wpAny_pure ?_)
  refine wpAny_bind (wpAny_dictEntries hod hdd ?_)
  rw [if_neg (by rw [hsz]; simp)]
  refine wpAny_bind (wpAny_pure ?_)
  refine wpAny_bind (wpAny_dictEpoch hod hdd ?_)
  rw [if_neg (by simp)]
  refine wpAny_pure ?_
  obtain ⟨hlt', hen⟩ := Array.getElem?_eq_some_iff.mp hx
  simp only [show ¬ ((i : Int) < 0) from by omega, if_false, Int.toNat_natCast, Array.getElem?_eq_getElem hlt']
  refine wpAny_bind ?_
  first | refine wpAny_bind (wpAny_typeNameOfWhole_keyiter hit.typeIs (wpAny_pure ?_)) | refine wpAny_bind (wpAny_typeNameOf_keyiter hit.typeIs (wpAny_pure ?_))
  refine wpAny_bind (wpAny_isOneOf_keyiter hit.typeIs ?_)
  show wpAny _ _ (setField (.ref it) 1 (rawInt ((i : Int) + 1)) >>= _) _ _ s
  refine wpAny_bind (wpAny_setField ho hd (by simp) ?_)
  have hit' : (s.heap.update it (Obj.mapFields (·.setIfInBounds 1 (rawInt ((i : Int) + 1))))).IsKeyIter it d (i + 1) n ep :=
    ⟨_, Heap.get?_update_self _ ho (Obj.isFreed_of_fields (Obj.data_mapFields hd _)), (Obj.cls_mapFields ..).trans hc, by rw [Obj.data_mapFields hd]; simp [rawInt]⟩
  refine wpAny_bind (wpAny_holding ?_)
  refine wpAny_bind (wpAny_isOneOf_keyiter (s := { s with heap := s.heap.update it (Obj.mapFields (·.setIfInBounds 1 (rawInt ((i : Int) + 1)))) }) hit'.typeIs ?_)
  show wpAny _ _ (pure es[i].key) _ _ _
  rw [hen]
  exact wpAny_pure (wpAny_pure ⟨_, rfl, wpAny_pure (hQ _ hit' (Heap.SameBut.update ..))⟩)
theorem next_key_end {it d : Addr} {i n ep : Nat} {od : Obj} {es : Array DictEntry} {Q : Option Value → Shared → Prop} (hh : A.handled = none) (hit : s.heap.IsKeyIter it d i n ep) (hod : s.heap.get? d = some od) (hdd : od.data = .dict es ep)
    (hsz : es.size = n) (hge : n ≤ i) (hQ : ∀ h', Heap.ExtBut it s.heap h' → Q none { s with heap := h' }) : wpAny (model prog w) A (pyNext (.ref it)) Q E s := by
  obtain ⟨o, ho, hc, hd⟩ := id hit
  unfold pyNext
  refine wpAny_bind (wpAny_attempt (wpAny_callSpecial?_slot (name := Str.ofString "__next__") hit.typeIs F.slot_dict_keyiterator_next
    (wpAny_call_entry F.slot_dict_keyiterator_next hit.typeIs F.entry_dict_keyiterator_next ?_ (F.args_dict_keyiterator_next_1 _))))
  refine wpAny_bind (wpAny_pure ?_)
  refine wpAny_bind ?_
  refine wpAny_bind ?_
  first | refine wpAny_bind (wpAny_typeNameOfWhole_keyiter hit.typeIs (wpAny_pure ?_)) | refine wpAny_bind (wpAny_typeNameOf_keyiter hit.typeIs (wpAny_pure ?_))
  refine wpAny_bind (wpAny_fieldsOf ho hd ?_)
  have hown : Builtin.Dict_items.ownsTuple "dict_keyiterator" = false := by decide
  simp only [hown, Bool.false_eq_true, if_false]
  show wpAny _ _ (if (Value.ref d == Value.none) = true then _ else _) _ _ s
  rw [if_neg (show ¬ ((Value.ref d == Value.none) = true) from Bool.false_ne_true)]
  refine wpAny_bind (wpAny_pure ?_)
  refine wpAny_bind (wpAny_dictEntries hod hdd ?_)
  rw [if_neg (by rw [hsz]; simp)]
  refine wpAny_bind (wpAny_pure ?_)
  refine wpAny_bind (wpAny_dictEpoch hod hdd ?_)
  rw [if_neg (by simp)]
  refine wpAny_pure ?_
  have hge' : es.size ≤ i := by rw [hsz]; exact hge
  simp only [show ¬ ((i : Int) < 0) from by omega, if_false, Int.toNat_natCast, Array.getElem?_eq_none hge']
  refine wpAny_bind ?_
  first | refine wpAny_bind (wpAny_typeNameOfWhole_keyiter hit.typeIs (wpAny_pure ?_)) | refine wpAny_bind (wpAny_typeNameOf_keyiter hit.typeIs (wpAny_pure ?_))
  show wpAny _ _ (setField (.ref it) 0 .none >>= _) _ _ s
  refine wpAny_bind (wpAny_setField ho hd (by simp) ?_)
  show wpAny _ _ (newExc (.type "StopIteration") [] >>= _) _ _ _
  refine wpAny_bind ?_
  simp only [newExc, newTuple]
  refine wpAny_bind (wpAny_newObj_type ?_ (by size_fits))
  refine wpAny_bind (m := firstArgMember _ _) (wpAny_of_eq (a := Value.none) (by first | rfl | (simp only [firstArgMember]; rfl)) ?_)
  refine wpAny_newObj_type ?_ (by size_fits)
  simp only [raiseNew]
  refine wpAny_bind (wpAny_handled ?_)
  rw [show A.in1.handled = none from hh]
  refine wpAny_bind (wpAny_pure (wpAny_throw ?_))
  refine wpAny_bind (wpAny_isInstance (T := "StopIteration") (b := true) ⟨_, Heap.get?_push_size _ rfl, rfl⟩ isSubtype_stop ?_)
  exact wpAny_pure (hQ _ (((Heap.SameBut.update ..).extBut.push _).push _))
end

/-! ### a locked dict -/
theorem kv_get {κ : Type} {kvs : List (κ × V)} {vs : List (κ × Value)} (h : KV kvs vs) : ∀ {i : Nat} {k : κ} {v : V}, kvs[i]? = some (k, v) → ∃ u, vs[i]? = some (k, u) ∧ RelV v u := by
  unfold KV at h
  induction h with
  | nil => intro i k v e; simp at e
  | @cons a b l₁ l₂ r t ih =>
    intro i k v e
    cases i with
    | zero =>
      simp only [List.getElem?_cons_zero, Option.some.injEq] at e
      subst e
      refine ⟨b.2, ?_, r.2⟩
      simp only [List.getElem?_cons_zero]
      exact congrArg some (Prod.ext r.1.symm rfl)
    | succ j =>
      simp only [List.getElem?_cons_succ] at e ⊢
      exact ih e
theorem paired_get {α β : Type} {G : α → β → Prop} {l₁ : List α} {l₂ : List β} (h : Paired G l₁ l₂) : ∀ {i : Nat} {a : α}, l₁[i]? = some a → ∃ b, l₂[i]? = some b ∧ G a b := by
  induction h with
  | nil => intro i a e; simp at e
  | @cons a b l₁ l₂ r t ih =>
    intro i a' e
    cases i with
    | zero =>
      simp only [List.getElem?_cons_zero, Option.some.injEq] at e
      subst e
      exact ⟨b, rfl, r⟩
    | succ j =>
      simp only [List.getElem?_cons_succ] at e ⊢
      exact ih e
theorem relV_key {k : Key} {u : Value} (h : keyIs k u = true) : RelV (kV k) u := by
  rcases keyIs_shape h with ⟨i, t, rfl, rfl⟩ | ⟨x, t, rfl, rfl⟩
  · exact ⟨t, rfl⟩
  · exact ⟨t, rfl⟩
section
variable {X : Cx} {pins : List (Addr × Obj)} {σ : St} {H : Hp} {s : Shared} {d : Addr} {o : Obj}
theorem Inv.frzK {kvs : List (Key × V)} (I : Inv X pins σ H s) (h : H d = some (.frz o (.dK kvs))) :
    (d == sysModules) = false ∧ s.heap.get? d = some o ∧ o.ExactDict ∧ ∃ (es : Array DictEntry) (ep : Nat) (vs : List (Key × Value)), o.data = .dict es ep ∧ es.size = kvs.length ∧ KV kvs vs ∧ s.heap.DictAt (mixKind X.prog X.w) d vs ep := by
  obtain ⟨hd, z, hs, vs, kv, o', es, ep, ho, hx, hdt, r⟩ := I.hok d _ h
  rw [hd] at ho
  cases ho
  refine ⟨hs, hd, hx, es, ep, vs, hdt, ?_, kv, o, es, hd, hx, hdt, r⟩
  have l1 := r.2.1.length
  have l2 : kvs.length = vs.length := Paired.length kv
  rw [Array.length_toList] at l1
  omega
/-- the same for tuple keys -/
theorem Inv.frzT {kvs : List (List Key × V)} (I : Inv X pins σ H s) (h : H d = some (.frz o (.dT kvs))) :
    (d == sysModules) = false ∧ s.heap.get? d = some o ∧ o.ExactDict ∧ ∃ (es : Array DictEntry) (ep : Nat), o.data = .dict es ep ∧ es.size = kvs.length ∧
      ∀ (i : Nat) (k : List Key) (v : V), kvs[i]? = some (k, v) → ∃ (en : DictEntry) (q : Addr), es[i]? = some en ∧ en.key = .ref q ∧ H q = some (.tup (k.map kV)) := by
  obtain ⟨hd, z, hs, xs, pr, o', es, ep, ho, hx, hdt, he, _⟩ := I.hok d _ h
  rw [hd] at ho
  cases ho
  refine ⟨hs, hd, hx, es, ep, hdt, ?_, fun i k v e => ?_⟩
  · have l1 : es.size = xs.length := size_of_entries he
    have l2 : kvs.length = xs.length := Paired.length pr
    omega
  · obtain ⟨b, hb, e1, e2, _⟩ := paired_get pr e
    have q := entry_at he i
    rw [hb] at q
    exact ⟨_, b.2.1, q, rfl, e2⟩
end

/-- the keys of the locked dict at d, in their order -/
def Itk (d : Addr) (o : Obj) (kvs : List (Key × V)) : It :=
  ⟨fun i H => H d = some (.frz o (.dK kvs)) ∧ i < kvs.length, fun i H x H' => H' = H ∧ ∃ k v, kvs[i]? = some (k, v) ∧ x = kV k, fun i H => H d = some (.frz o (.dK kvs)) ∧ kvs.length ≤ i⟩
/-- .. of tuple keys: the key's own tuple -/
def Itkt (d : Addr) (o : Obj) (kvs : List (List Key × V)) : It :=
  ⟨fun i H => H d = some (.frz o (.dT kvs)) ∧ i < kvs.length, fun i H x H' => H' = H ∧ ∃ (k : List Key) (v : V) (q : Addr), kvs[i]? = some (k, v) ∧ x = .ref q ∧ H q = some (.tup (k.map kV)), fun i H => H d = some (.frz o (.dT kvs)) ∧ kvs.length ≤ i⟩
theorem dict_ep {o : Obj} {es es' : Array DictEntry} {ep ep' : Nat} (h : o.data = .dict es ep) (h' : o.data = .dict es' ep') : es' = es ∧ ep' = ep := by
  rw [h] at h'
  cases h'
  exact ⟨rfl, rfl⟩
section
variable {P : Program} {w : World} {K : PySem.W.Frag} {tg : Expr} {d : Addr} {o : Obj} {es : Array DictEntry} {ep : Nat}
theorem turn_keys {kvs : List (Key × V)} (it : Addr) (hod : o.data = .dict es ep) : Turn P w K tg (Itk d o kvs) [it] it (fun i h => h.IsKeyIter it d i kvs.length ep) where
  mem := by simp
  obj := fun i h st b hb => by
    have e : b = it := by simpa using hb
    subst e
    obtain ⟨oi, e, c, dd⟩ := st
    exact ⟨oi, e, fun v z => by rw [dd] at z; cases z⟩
  keep := fun i h h' st k => st.at fun oi e => k it (by simp) oi e
  item := by
    intro X hP hw hK hc i pins s σ H E I hf st hg
    subst hP hw hK
    obtain ⟨hd, hi⟩ := hg
    obtain ⟨f0, f1, f2, f3, f4, f5⟩ := hf it (by simp)
    obtain ⟨hs, hgd, hx, es', ep', vs, hdt, hsz, kv, hm⟩ := I.frzK hd
    obtain ⟨rfl, rfl⟩ := dict_ep hod hdt
    obtain ⟨⟨k, v⟩, hkv⟩ : ∃ p, kvs[i]? = some p := ⟨kvs[i], List.getElem?_eq_getElem hi⟩
    obtain ⟨u, hu, ru⟩ := kv_get kv hkv
    have hl : kvs.length = vs.length := Paired.length kv
    rw [hl] at st
    refine wpAny_pyNext_dict_item st hm hu fun key h' hkey st' sb => ?_
    have I1 : Inv X pins σ H { s with heap := h' } := I.turned (t' := s.toks) (fun b ob hb e => (sb.2 b hb).trans e) f0 f1 f3 f4 f5
    obtain ⟨oi, e, c, dd⟩ := id st'
    refine ⟨key, rfl, go_of (s := { s with heap := h' }) e c dd (by decide) ⟨kV k, H, I1, relV_key (show keyIs k key = true from hkey), ⟨rfl, k, v, hkv, rfl⟩, ?_, fun b hb => (hf b hb).1⟩⟩
    show h'.IsKeyIter it d (i + 1) kvs.length _
    rw [hl]
    exact st'
  done := by
    intro X hP hw hK hc i pins s σ H E I hf st hg
    subst hP hw hK
    obtain ⟨hd, hi⟩ := hg
    obtain ⟨f0, f1, f2, f3, f4, f5⟩ := hf it (by simp)
    obtain ⟨hs, hgd, hx, es', ep', vs, hdt, hsz, kv, hm⟩ := I.frzK hd
    obtain ⟨rfl, rfl⟩ := dict_ep hod hdt
    exact next_key_end (I.ok.hd hc) st hgd hdt hsz hi fun h' eb => ⟨rfl, I.turned (t' := s.toks) (fun b ob hb e => eb b ob hb e) f0 f1 f3 f4 f5⟩
  self := fun A i s Q E st h => wpAny_pyIter_keyiter st h
theorem turn_keysT {kvs : List (List Key × V)} (it : Addr) (hod : o.data = .dict es ep) : Turn P w K tg (Itkt d o kvs) [it] it (fun i h => h.IsKeyIter it d i kvs.length ep) where
  mem := by simp
  obj := fun i h st b hb => by
    have e : b = it := by simpa using hb
    subst e
    obtain ⟨oi, e, c, dd⟩ := st
    exact ⟨oi, e, fun v z => by rw [dd] at z; cases z⟩
  keep := fun i h h' st k => st.at fun oi e => k it (by simp) oi e
  item := by
    intro X hP hw hK hc i pins s σ H E I hf st hg
    subst hP hw hK
    obtain ⟨hd, hi⟩ := hg
    obtain ⟨f0, f1, f2, f3, f4, f5⟩ := hf it (by simp)
    obtain ⟨hs, hgd, hx, es', ep', hdt, hsz, ent⟩ := I.frzT hd
    obtain ⟨rfl, rfl⟩ := dict_ep hod hdt
    obtain ⟨⟨k, v⟩, hkv⟩ : ∃ p, kvs[i]? = some p := ⟨kvs[i], List.getElem?_eq_getElem hi⟩
    obtain ⟨en, q, hen, hkey, hq⟩ := ent i k v hkv
    refine next_key_item st hgd hdt hsz hen fun h' st' sb => ?_
    have I1 : Inv X pins σ H { s with heap := h' } := I.turned (t' := s.toks) (fun b ob hb e => (sb.2 b hb).trans e) f0 f1 f3 f4 f5
    obtain ⟨oi, e, c, dd⟩ := id st'
    exact ⟨en.key, rfl, go_of (s := { s with heap := h' }) e c dd (by decide) ⟨.ref q, H, I1, hkey, ⟨rfl, k, v, q, hkv, rfl, hq⟩, st', fun b hb => (hf b hb).1⟩⟩
  done := by
    intro X hP hw hK hc i pins s σ H E I hf st hg
    subst hP hw hK
    obtain ⟨hd, hi⟩ := hg
    obtain ⟨f0, f1, f2, f3, f4, f5⟩ := hf it (by simp)
    obtain ⟨hs, hgd, hx, es', ep', hdt, hsz, ent⟩ := I.frzT hd
    obtain ⟨rfl, rfl⟩ := dict_ep hod hdt
    exact next_key_end (I.ok.hd hc) st hgd hdt hsz hi fun h' eb => ⟨rfl, I.turned (t' := s.toks) (fun b ob hb e => eb b ob hb e) f0 f1 f3 f4 f5⟩
  self := fun A i s Q E st h => by
    refine wpAny_pyIter_slot st.typeIs F.slot_dict_keyiterator_iter (wpAny_call_entry F.slot_dict_keyiterator_iter st.typeIs F.entry_dict_keyiterator_iter ?_ (F.args_dict_keyiterator_iter_1 _))
    show wpAny _ _ (ret (.ref it)) _ _ s
    exact wpAny_pure ⟨_, rfl, "dict_keyiterator", _, st.typeIs, F.slot_dict_keyiterator_next.lookup, h⟩
end

/-! ### for k in d, d.keys(), d.values(), d.items() -/
/-- the dict is locked (tLock, or by the caller) -/
def iKeys (td : TE) : TI := fun σ H R => td σ H fun x H1 => ∃ d o, x = .ref d ∧ ((∃ kvs, H1 d = some (.frz o (.dK kvs)) ∧ R (Itk d o kvs) H1) ∨ ∃ kvs, H1 d = some (.frz o (.dT kvs)) ∧ R (Itkt d o kvs) H1)
section
variable {X : Cx} {tg e : Expr} {td : TE} {apos cpos : Pos}
theorem pi_keys (he : PE X e td) : PI X tg e (iKeys td) := by
  intro pins s σ H R I h
  refine thn (he pins s σ H _ I h) fun u s1 ⟨x, H1, I1, rx, d, o, ex, q⟩ => ?_
  subst ex
  obtain rfl : u = Value.ref d := rx
  rcases q with ⟨kvs, hd, q⟩ | ⟨kvs, hd, q⟩
  · obtain ⟨hs, hgd, hx, es, ep, vs, hdt, hsz, kv, hm⟩ := I1.frzK hd
    refine iter_keys hs hgd hx hdt (pi_one (tk := s1.toks) I1 _ (turn_keys _ hdt) ⟨_, Heap.get?_push_size _ rfl, rfl, ?_⟩ q)
    rw [hsz] <;> rfl
  · obtain ⟨hs, hgd, hx, es, ep, hdt, hsz, ent⟩ := I1.frzT hd
    refine iter_keys hs hgd hx hdt (pi_one (tk := s1.toks) I1 _ (turn_keysT _ hdt) ⟨_, Heap.get?_push_size _ rfl, rfl, ?_⟩ q)
    rw [hsz] <;> rfl
end

/-! ### enumerate(list) -/
/-! ### zip(list, list) -/
end L2

section 
namespace Bits
open PySem PyProof.Rows

end Bits
end 

section 
namespace TL
open PySem PySem.Builtin PySem.Builtin.Str PySem.StrLaws

/-! ### the list functions -/

/-! ### the model's split and partition are these -/

/-! ### computing spl and par -/

/-! ### digits -/

/-! ### words: x.split() -/
end TL
end 

namespace L2
open PySem PySem.Spec PyProof.Rows

section
variable {X : Cx} {pins : List (Addr × Obj)} {σ : St} {H : Hp} {s : Shared} {Q : VK}
end

section
variable {X : Cx}

/-! ### of a text alone -/

/-! ### of a text and a text -/

end

section
variable {X : Cx} {o e : Expr} {to te : TE}

end
end L2

namespace L2
open PySem PySem.Spec PyProof.Rows

section
variable {X : Cx}
end

/-! ### slices of a text -/

end L2

namespace Att
open PySem PySem.W PySem.Calls PyProof.Rows

/-! ### the script -/
theorem ints_of_wellAll {P : Params} {h : Heap} : ∀ (ns : List Int) (vs : List Value), WellAll P h vs (ns.map WData.int) → IntsAre vs ns := by
  intro ns
  induction ns with
  | nil =>
    intro vs w
    rw [List.map_nil] at w
    cases w
    exact .nil
  | cons n ns ih =>
    intro vs w
    rw [List.map_cons] at w
    cases w with
    | cons a b =>
      cases a
      exact .cons _ _ (ih _ b)

/-! ### the attachment: holds_open's last premise (the goal 'hc' behind k_head) from a wpAny of the law's body -/

/-! ### rules over ANY heap (no ledger) from facts about the written part K: the library's own take a ledger (News) for what they write -/
section
variable {prog : Program} {w : World} {A : Around} {E : Value → Shared → Prop} {s : Shared} {K : Frag}

/-! the whole heap as the ledger: makes every rule that writes through a ledger a rule over any heap -/

end
end Att

namespace L2
open PySem PySem.Spec PyProof.Rows

theorem vals_ints : ∀ {vs : List Value} {ns : List Int}, IntsAre vs ns → Vals (ns.map V.int) vs
  | _, _, .nil => .nil
  | _, _, .cons n t h => .cons ⟨t, rfl⟩ (vals_ints h)

end L2

namespace L2
open PySem PySem.Spec PyProof.Rows

end L2

/- THE LAST THEOREM (shape; LID, My.* are yours):
   My.Adr: a structure of the addresses that your layer names (classes, functions); My.Txt K t: a structure (Prop) of the equations over K;
   My.txt_mk : {K} {implicit addresses ..} (e1 : nsIn K mainGlobals "law" = some (some (.ref f))) (e2 : K.lookup f = some ⟨oc, od, .func (fnOf "law" "law" params body scope dV kV doc pm an cdv ct), sl⟩) (e3 : codeIn K cdv "law" = true) .. : ∃ t, My.Txt K t

set_option maxRecDepth 100000 in
set_option maxHeartbeats 0 in
theorem PySem.Challenge.cw_LID_holds : PySem.Challenge.rw_LID.Holds := by
  w_on; o_law; k_head; (case hw => w_witness2)
  k_fill
  refine L2.walk_of (l := PySem.Challenge.rw_LID) (n := 63) (k := 40) (x := "script") (CX := fun w => ..) (sp := fun _ => My.sp_law) rfl (by decide) rfl ⟨rfl, by decide, by decide⟩ (fun w h Y => PySem.W.kIn_of Y) ?F ?S ?C
  case F =>
    intro w mg fa h KX G hmg
    have T : ∃ t, My.Txt (L2.KOf KX) t := by
      dsimp only [L2.KOf]                          -- K must stand as «<heap const> w.params» for k_is
      refine' My.txt_mk ?e1 ?e2 ?e3 ..
      (case e1 => PySem.W.k_is)                    -- in the order: a name -> its address -> its object -> its parts
      (case e2 => PySem.W.k_is)
      ..
    obtain ⟨t, T⟩ := T
    have e0 := hmg.symm.trans (PySem.W.mg_of KX G T.law)
    cases e0                                       -- fa is the law's own address
    exact ⟨_, fun s u => .of_eq rfl, fun base kb nb => My.law_fn T kb nb⟩     -- if «.of_eq rfl» comes too early: refine' ⟨_, ?b, fun base kb nb => My.law_fn T kb nb⟩; exact fun s u => .of_eq rfl
  case S => exact fun w H a ns hl hO hS => ..
  case C => exact ..
(the tactic k_is has no namespace: write k_is) -/

/-! SHORT WORDS over the layer: a def of the text, its body, what a loop and a test want. -/
namespace L2
open PySem PySem.Spec PyProof.Rows

/-! ### the text by places -/
def defArgs (s : Stmt) : Arguments := match s with
  | .FunctionDef _ a _ _ _ _ _ _ _ _ => a
  | _ => { posonlyargs := [], args := [], vararg := none, kwonlyargs := [], kw_defaults := [], kwarg := none, defaults := [] }
def defBody (s : Stmt) : List Stmt := match s with
  | .FunctionDef _ _ b _ _ _ _ _ _ _ => b
  | _ => []
def defScope (s : Stmt) : Scope := match s with
  | .FunctionDef _ _ _ _ _ _ sc _ _ _ => sc
  | _ => { kind := .function, names := [], isGenerator := false, isCoroutine := false }

/-! ### no exception leaves a def -/
abbrev CX0 : CXT := fun _ _ _ _ _ _ => False
abbrev E0 : XK := fun _ _ _ => False
theorem pass0 {X : Cx} : Passes CX0 X E0 := fun _ _ _ _ _ _ _ h => h.elim

/-! ### a def (or method) of the text as it stands behind the top -/
structure Fun (K : PySem.W.Frag) (x qual : Str) (st : Stmt) (f : Addr) (fd : FuncData) : Prop where
  ex : ∃ (oc : Value) (od : Option Addr) (kV doc pm : Value) (an : Option Addr) (cdv ct : Value) (osl : Array (Option Value)),
    fd = PySem.W.fnOf x qual (defArgs st) (defBody st) (defScope st) .none kV doc pm an cdv ct ∧ K.lookup f = some ⟨oc, od, .func fd, osl⟩ ∧ PySem.W.codeIn K cdv qual = true
  kp : PySem.W.keepIn K (.ref f) = true
section
variable {P : Program} {w : World} {K : PySem.W.Frag} {mg : Str → Option Value} {base : Heap}
/-- THE RULE for a def: its body as a term of rules, and the reading of that term -/
theorem Fun.ok {x qual : Str} {st : Stmt} {f : Addr} {fd : FuncData} {N ps : List Str} {k : Nat} {sp : Sp} (F : Fun K x qual st f fd) (S : FnScope N ps (defScope st)) (len : ∀ vs H Q E, sp vs H Q E → vs.length = ps.length)
    (hbody : ∀ (cdv : Value) (A : Around) (outer : List Env) (s : Shared) (H : Hp) (vs : List V) (Q : VK) (E : XK), Room k (A.deeper (envOfC qual (defScope st) s.heap.objs.size f cdv)) → sp vs H Q E →
      ∃ t, PSs (cxOf CX0 P w K mg base N qual (defScope st) f cdv A outer s H E).nox (defBody st) t ∧ t { nx := fun _ H' => Q .non H', rt := Q } (start N vs) H) : FnOk P w K mg base CX0 (k + 1) f fd ps sp := by
  obtain ⟨oc, od, kV, doc, pm, an, cdv, ct, osl, rfl, lk, hcd⟩ := F.ex
  refine fn_of lk hcd S len fun A outer s H vs Q E hr hsp => ?_
  obtain ⟨t, h, q⟩ := hbody cdv A outer s H vs Q E hr hsp
  exact ⟨t, h.nox, q⟩
/-- how its arguments bind (no defaults): h is «fun _ _ _ _ _ _ us hl => match us, hl with | [_, _], _ => rfl», one _ a parameter -/
theorem Fun.binds {x qual : Str} {st : Stmt} {f : Addr} {fd : FuncData} {ps : List Str} (F : Fun K x qual st f fd)
    (h : ∀ (kV doc pm : Value) (an : Option Addr) (cdv ct : Value) (us : List Value), us.length = ps.length → bindArgs (PySem.W.fnOf x qual (defArgs st) (defBody st) (defScope st) .none kV doc pm an cdv ct) ⟨us, []⟩ = pure (ps.zip us)) : Binds K fd ps [] := by
  obtain ⟨oc, od, kV, doc, pm, an, cdv, ct, osl, rfl, lk, hcd⟩ := F.ex
  exact .all (h kV doc pm an cdv ct)
theorem fun_mk {x qual : Str} {st : Stmt} {f : Addr} {oc : Value} {od an : Option Addr} {osl : Array (Option Value)} {kV doc pm cdv ct : Value} (l : K.lookup f = some ⟨oc, od, .func (PySem.W.fnOf x qual (defArgs st) (defBody st) (defScope st) .none kV doc pm an cdv ct), osl⟩)
    (c : PySem.W.codeIn K cdv qual = true) (k : PySem.W.keepIn K (.ref f) = true) : Fun K x qual st f (PySem.W.fnOf x qual (defArgs st) (defBody st) (defScope st) .none kV doc pm an cdv ct) := ⟨⟨oc, od, kV, doc, pm, an, cdv, ct, osl, rfl, l, c⟩, k⟩
end
theorem hu_of {A : Around} {k : Nat} (hr : Room k A) : A.units + 1 < cLine := Nat.lt_of_le_of_lt (Nat.add_le_add_left (by decide : 1 ≤ 64) _) hr.units
theorem small1000 {n : Nat} (h : n ≤ 1000) : n < sizeLine := Nat.lt_of_le_of_lt h (by decide)

/-! ### expressions in short: the name that stands in the i-th slot -/
section
variable {X : Cx}
theorem pv (i : Nat) {x : Str} {pos : Pos} (hN : X.N[i]? = some x := by rfl) (hv : Vis X.env.scope x := by first | exact Or.inl rfl | exact Or.inr (Or.inl rfl) | exact Or.inr (Or.inr rfl)) (hd : (x == ("__debug__" : Str)) = false := by decide)
    (hcd : (x == ("__classdict__" : Str)) = false := by decide) : PE X (.Name x pos) (tVar i) := pe_var hN hv hd hcd
end

/-! ### tests -/
theorem iteT {A B : Prop} (h : A) : if true = true then A else B := by
  rw [if_pos rfl]
  exact h
theorem ite2 {c A B : Prop} [Decidable c] (h1 : c → A) (h2 : ¬ c → B) : if c then A else B := by
  by_cases h : c
  · rw [if_pos h]
    exact h1 h
  · rw [if_neg h]
    exact h2 h

/-! ### heaps -/
/-- all that was tracked is as it was -/
def Same (H H' : Hp) : Prop := ∀ b o, H b = some o → H' b = some o
theorem Same.refl (H : Hp) : Same H H := fun _ _ h => h
theorem Same.trans {H H1 H2 : Hp} (a : Same H H1) (b : Same H1 H2) : Same H H2 := fun c o h => b c o (a c o h)
theorem Same.free {H H' : Hp} (e : Same H H') {l : Addr} (h : H' l = Option.none) : H l = Option.none := by
  cases q : H l with
  | none => rfl
  | some o =>
    rw [e l o q] at h
    cases h
theorem Same.seq {K : PySem.W.Frag} {H H' : Hp} {a : Addr} {xs : List V} (e : Same H H') (h : SqL K H a xs) : SqL K H' a xs := by
  rcases h with (h | ⟨o, h⟩) | h
  · exact .inl (.inl (e _ _ h))
  · exact .inl (.inr ⟨o, e _ _ h⟩)
  · exact .inr h

/-! ### a dict's pairs: keys that differ -/
section
variable {κ : Type} [DecidableEq κ]
theorem nd_snoc : ∀ {l : List κ} {k : κ}, l.Nodup → ¬ k ∈ l → (l ++ [k]).Nodup
  | [], k, _, _ => by simp
  | a :: r, k, h, hk => by
    obtain ⟨h1, h2⟩ := List.nodup_cons.mp h
    show (a :: (r ++ [k])).Nodup
    refine List.nodup_cons.mpr ⟨fun m => ?_, nd_snoc h2 fun m => hk (List.mem_cons.mpr (Or.inr m))⟩
    rcases List.mem_append.mp m with q | q
    · exact h1 q
    · exact hk (List.mem_cons.mpr (Or.inl (List.mem_singleton.mp q).symm))
end
/-! ### lists -/
theorem at_of {xs : List V} {z : Int} {j : Nat} {v : V} (e : z = (j : Int)) (h : xs[j]? = some v) : atI xs z = some v := by
  rw [e]
  exact atI_nat h
theorem nd_ix {α : Type} {l : List α} (hN : l.Nodup) {i j : Nat} {x : α} (a : l[i]? = some x) (b : l[j]? = some x) : i = j := by
  obtain ⟨h1, e1⟩ := List.getElem?_eq_some_iff.mp a
  obtain ⟨h2, e2⟩ := List.getElem?_eq_some_iff.mp b
  exact (List.getElem_inj hN).mp (e1.trans e2.symm)
end L2
end
section
set_option autoImplicit false
namespace Tp

/-! ### sums -/
def sm : Nat → (Nat → Int) → Int
  | 0, _ => 0
  | n + 1, f => sm n f + f n

theorem sm_congr {f g : Nat → Int} : ∀ {n : Nat}, (∀ i, i < n → f i = g i) → sm n f = sm n g
  | 0, _ => rfl
  | n + 1, h => by
    unfold sm
    rw [sm_congr (fun i hi => h i (by omega)), h n (by omega)]

theorem sm_add (f g : Nat → Int) : ∀ n, sm n (fun i => f i + g i) = sm n f + sm n g
  | 0 => rfl
  | n + 1 => by unfold sm; rw [sm_add f g n]; show _ + (f n + g n) = _; omega

theorem sm_mul (c : Int) (f : Nat → Int) : ∀ n, sm n (fun i => c * f i) = c * sm n f
  | 0 => by simp [sm]
  | n + 1 => by unfold sm; rw [sm_mul c f n, Int.mul_add]

theorem sm_zero {f : Nat → Int} : ∀ {n : Nat}, (∀ i, i < n → f i = 0) → sm n f = 0
  | 0, _ => rfl
  | n + 1, h => by
    unfold sm
    rw [sm_zero (fun i hi => h i (by omega)), h n (by omega)]; rfl

theorem sm_front (f : Nat → Int) : ∀ n, sm (n + 1) f = f 0 + sm n (fun i => f (i + 1))
  | 0 => by simp [sm]
  | n + 1 => by
    rw [sm, sm_front f n, sm]; omega

theorem sm_swap (f : Nat → Nat → Int) (m : Nat) : ∀ n, sm n (fun i => sm m (fun j => f i j)) = sm m (fun j => sm n (fun i => f i j))
  | 0 => (sm_zero (n := m) (fun j _ => rfl)).symm
  | n + 1 => by
    have e : (fun j => sm (n + 1) (fun i => f i j)) = fun j => sm n (fun i => f i j) + f n j := rfl
    rw [e, sm_add, ← sm_swap f m n]; rfl

theorem sm_one {f : Nat → Int} {k : Nat} : ∀ {n : Nat}, k < n → (∀ i, i < n → i ≠ k → f i = 0) → sm n f = f k
  | 0, hk, _ => absurd hk (by omega)
  | n + 1, hk, h => by
    unfold sm
    by_cases e : k = n
    · subst e
      rw [sm_zero (fun i hi => h i (by omega) (by omega))]; omega
    · rw [sm_one (by omega) (fun i hi hne => h i (by omega) hne), h n (by omega) (by omega)]; omega

theorem sm_two {f : Nat → Int} {k : Nat} : ∀ {n : Nat}, k + 1 < n → (∀ i, i < n → i ≠ k → i ≠ k + 1 → f i = 0) → sm n f = f k + f (k + 1)
  | 0, hk, _ => absurd hk (by omega)
  | n + 1, hk, h => by
    unfold sm
    by_cases e : k + 1 = n
    · subst e
      rw [sm_one (k := k) (by omega) (fun i hi hne => h i (by omega) hne (by omega))]
    · rw [sm_two (by omega) (fun i hi h1 h2 => h i (by omega) h1 h2), h n (by omega) (by omega) (by omega)]; omega

theorem sm_nonneg {f : Nat → Int} : ∀ {n : Nat}, (∀ i, i < n → 0 ≤ f i) → 0 ≤ sm n f
  | 0, _ => Int.le_refl 0
  | n + 1, h => by
    have := sm_nonneg (n := n) (fun i hi => h i (by omega))
    have := h n (by omega)
    unfold sm; omega

/-! ### determinants -/
abbrev Mat := Nat → Nat → Int
def sg : Nat → Int
  | 0 => 1
  | n + 1 => - sg n
def skip (i x : Nat) : Nat := if x < i then x else x + 1
def mn (M : Mat) (i j : Nat) : Mat := fun x y => M (skip i x) (skip j y)
def tr (M : Mat) : Mat := fun x y => M y x
def setrow (M : Mat) (r : Nat) (v : Nat → Int) : Mat := fun x y => if x = r then v y else M x y

def det : Nat → Mat → Int
  | 0, _ => 1
  | n + 1, M => sm (n + 1) (fun j => sg j * (M 0 j * det n (mn M 0 j)))

theorem skip_lt {i x n : Nat} (h : x < n) : skip i x < n + 1 := by
  unfold skip; split <;> omega
theorem skip_zero (x : Nat) : skip 0 x = x + 1 := by unfold skip; simp
theorem skip_succ_succ (i x : Nat) : skip (i + 1) (x + 1) = skip i x + 1 := by
  unfold skip; by_cases h : x < i
  · rw [if_pos h, if_pos (by omega)]
  · rw [if_neg h, if_neg (by omega)]
theorem skip_succ_zero (i : Nat) : skip (i + 1) 0 = 0 := by unfold skip; simp

theorem det_congr : ∀ {n : Nat} {M N : Mat}, (∀ x y, x < n → y < n → M x y = N x y) → det n M = det n N
  | 0, _, _, _ => rfl
  | n + 1, M, N, h => by
    unfold det
    refine sm_congr fun j hj => ?_
    rw [h 0 j (by omega) hj]
    rw [det_congr (n := n) (M := mn M 0 j) (N := mn N 0 j)]
    intro x y hx hy
    exact h _ _ (skip_lt hx) (skip_lt hy)

theorem tr_mn (M : Mat) (i j : Nat) : tr (mn M i j) = mn (tr M) j i := rfl
theorem tr_tr (M : Mat) : tr (tr M) = M := rfl

theorem det_tr : ∀ (n : Nat) (M : Mat), det n (tr M) = det n M
  | 0, _ => rfl
  | 1, M => by simp [det, sm, tr]
  | n + 2, M => by
    have key : ∀ N : Mat, det (n + 2) N = N 0 0 * det (n + 1) (mn N 0 0) + sm (n + 1) (fun j => sm (n + 1) (fun i =>
        sg (j + 1) * sg i * (N 0 (j + 1) * N (i + 1) 0) * det n (fun x y => N (skip i x + 1) (skip j y + 1)))) := by
      intro N
      rw [det, sm_front]
      congr 1
      · simp [sg]
      · refine sm_congr fun j hj => ?_
        rw [← det_tr (n + 1) (mn N 0 (j + 1)), det]
        rw [← sm_mul, ← sm_mul]
        refine sm_congr fun i hi => ?_
        have e1 : tr (mn N 0 (j + 1)) 0 i = N (i + 1) 0 := by
          show N (skip 0 i) (skip (j + 1) 0) = _
          rw [skip_zero, skip_succ_zero]
        have e2 : det n (mn (tr (mn N 0 (j + 1))) 0 i) = det n (fun x y => N (skip i x + 1) (skip j y + 1)) := by
          rw [← det_tr n (fun x y => N (skip i x + 1) (skip j y + 1))]
          refine det_congr fun x y _ _ => ?_
          show N (skip 0 (skip i y)) (skip (j + 1) (skip 0 x)) = N (skip i y + 1) (skip j x + 1)
          rw [skip_zero, skip_zero, skip_succ_succ]
        rw [e1, e2]
        grind
    rw [key M, key (tr M), sm_swap]
    congr 1
    · rw [← det_tr (n + 1) (mn M 0 0)]; rfl
    · refine sm_congr fun j hj => sm_congr fun i hi => ?_
      rw [← det_tr n]
      show sg (i + 1) * sg j * (M (i + 1) 0 * M 0 (j + 1)) * det n (fun x y => M (skip i x + 1) (skip j y + 1)) = _
      simp only [sg]
      grind

theorem mn_setrow_zero (M : Mat) (v : Nat → Int) (j : Nat) : mn (setrow M 0 v) 0 j = mn M 0 j := by
  funext x y
  simp [mn, setrow, skip_zero]
theorem mn_setrow_succ (M : Mat) (v : Nat → Int) (r j : Nat) : mn (setrow M (r + 1) v) 0 j = setrow (mn M 0 j) r (fun y => v (skip j y)) := by
  funext x y
  simp [mn, setrow, skip_zero]

/-- linear in each row -/
theorem det_lin (a b : Int) : ∀ (n : Nat) (M : Mat) (r : Nat) (v w : Nat → Int), r < n →
    det n (setrow M r (fun y => a * v y + b * w y)) = a * det n (setrow M r v) + b * det n (setrow M r w)
  | 0, _, _, _, _, h => absurd h (by omega)
  | n + 1, M, 0, v, w, _ => by
    simp only [det, mn_setrow_zero]
    rw [← sm_mul, ← sm_mul, ← sm_add]
    refine sm_congr fun j _ => ?_
    simp only [setrow, if_true]
    grind
  | n + 1, M, r + 1, v, w, h => by
    simp only [det, mn_setrow_succ]
    rw [← sm_mul, ← sm_mul, ← sm_add]
    refine sm_congr fun j _ => ?_
    rw [det_lin a b n (mn M 0 j) r (fun y => v (skip j y)) (fun y => w (skip j y)) (by omega)]
    simp only [setrow]
    grind

/-- two neighbouring columns alike -/
theorem det_cols : ∀ (n : Nat) (M : Mat) (c : Nat), c + 1 < n → (∀ x, x < n → M x c = M x (c + 1)) → det n M = 0
  | 0, _, _, h, _ => absurd h (by omega)
  | n + 1, M, c, h, e => by
    rw [det, sm_two h]
    · have e1 : det n (mn M 0 (c + 1)) = det n (mn M 0 c) := by
        refine det_congr fun x y hx hy => ?_
        show M (skip 0 x) (skip (c + 1) y) = M (skip 0 x) (skip c y)
        rw [skip_zero]
        by_cases hy1 : y = c
        · subst hy1
          have a1 : skip (y + 1) y = y := by unfold skip; simp
          have a2 : skip y y = y + 1 := by unfold skip; simp
          rw [a1, a2, e (x + 1) (by omega)]
        · have : skip (c + 1) y = skip c y := by unfold skip; split <;> split <;> omega
          rw [this]
      rw [e1, e 0 (by omega)]
      simp only [sg]
      grind
    · intro j hj h1 h2
      have : det n (mn M 0 j) = 0 := by
        by_cases hc : j < c
        · refine det_cols n _ (c - 1) (by omega) fun x hx => ?_
          have a1 : skip j (c - 1) = c := by unfold skip; split <;> omega
          have a2 : skip j (c - 1 + 1) = c + 1 := by unfold skip; split <;> omega
          show M (skip 0 x) (skip j (c - 1)) = M (skip 0 x) (skip j (c - 1 + 1))
          rw [a1, a2]
          exact e _ (skip_lt hx)
        · refine det_cols n _ c (by omega) fun x hx => ?_
          have a1 : skip j c = c := by unfold skip; split <;> omega
          have a2 : skip j (c + 1) = c + 1 := by unfold skip; split <;> omega
          show M (skip 0 x) (skip j c) = M (skip 0 x) (skip j (c + 1))
          rw [a1, a2]
          exact e _ (skip_lt hx)
      rw [this]; simp

theorem det_rows_next (n : Nat) (M : Mat) (r : Nat) (h : r + 1 < n) (e : ∀ y, y < n → M r y = M (r + 1) y) : det n M = 0 := by
  rw [← det_tr]; exact det_cols n (tr M) r h e

theorem setrow_self (M : Mat) (r : Nat) : setrow M r (M r) = M := by
  funext x y; unfold setrow; split
  · rename_i h; rw [h]
  · rfl
theorem setrow_comm (M : Mat) {r s : Nat} (v w : Nat → Int) (h : r ≠ s) : setrow (setrow M r v) s w = setrow (setrow M s w) r v := by
  funext x y; unfold setrow; split <;> split <;> first | rfl | omega
theorem setrow_twice (M : Mat) (r : Nat) (v w : Nat → Int) : setrow (setrow M r v) r w = setrow M r w := by
  funext x y; unfold setrow; split <;> rfl

/-- if alike rows give 0, a swap gives the opposite -/
theorem det_swap_of (n : Nat) (M : Mat) (r s : Nat) (hr : r < n) (hs : s < n) (hne : r ≠ s)
    (hz : ∀ v, det n (setrow (setrow M r v) s v) = 0) (v w : Nat → Int) :
    det n (setrow (setrow M r v) s w) = - det n (setrow (setrow M r w) s v) := by
  have h := hz (fun y => 1 * v y + 1 * w y)
  rw [det_lin 1 1 n _ s v w hs] at h
  rw [setrow_comm M _ v hne, setrow_comm M _ w hne] at h
  rw [det_lin 1 1 n _ r v w hr, det_lin 1 1 n _ r v w hr] at h
  rw [setrow_comm M v w hne, setrow_comm M w v hne]
  have h1 := hz v
  have h2 := hz w
  rw [setrow_comm M _ _ hne] at h1 h2
  rw [h1, h2] at h
  omega

theorem det_swap_next (n : Nat) (M : Mat) (r : Nat) (h : r + 1 < n) (v w : Nat → Int) :
    det n (setrow (setrow M r v) (r + 1) w) = - det n (setrow (setrow M r w) (r + 1) v) := by
  refine det_swap_of n M r (r + 1) (by omega) h (by omega) (fun u => ?_) v w
  refine det_rows_next n _ r h fun y _ => ?_
  simp [setrow]

/-- two rows alike -/
theorem det_rows_far (n : Nat) : ∀ (d : Nat) (M : Mat) (r : Nat), r + d + 1 < n → (∀ y, y < n → M r y = M (r + d + 1) y) → det n M = 0
  | 0, M, r, h, e => det_rows_next n M r h e
  | d + 1, M, r, h, e => by
    have e1 : M = setrow (setrow M (r + d + 1) (M (r + d + 1))) (r + d + 1 + 1) (M (r + d + 1 + 1)) := by
      rw [setrow_self, setrow_self]
    rw [e1, det_swap_next n M (r + d + 1) (by omega)]
    rw [det_rows_far n d _ r (by omega)]
    · rfl
    · intro y hy
      have := e y hy
      simp only [setrow]
      rw [if_neg (by omega), if_neg (by omega), if_neg (by omega), if_pos trivial]
      exact this

theorem det_rows {n : Nat} {M : Mat} {r s : Nat} (hr : r < n) (hs : s < n) (hne : r ≠ s) (e : ∀ y, y < n → M r y = M s y) : det n M = 0 := by
  by_cases h : r < s
  · have := det_rows_far n (s - r - 1) M r (by omega)
    rw [show r + (s - r - 1) + 1 = s by omega] at this
    exact this e
  · have := det_rows_far n (r - s - 1) M s (by omega)
    rw [show s + (r - s - 1) + 1 = r by omega] at this
    exact this fun y hy => (e y hy).symm

theorem det_swap {n : Nat} (M : Mat) {r s : Nat} (hr : r < n) (hs : s < n) (hne : r ≠ s) (v w : Nat → Int) :
    det n (setrow (setrow M r v) s w) = - det n (setrow (setrow M r w) s v) := by
  refine det_swap_of n M r s hr hs hne (fun u => ?_) v w
  refine det_rows hr hs hne fun y _ => ?_
  simp [setrow, hne]

theorem det_row_sum {n : Nat} (M : Mat) {r : Nat} (hr : r < n) (c : Nat → Int) (V : Mat) : ∀ k,
    det n (setrow M r (fun y => sm k (fun x => c x * V x y))) = sm k (fun x => c x * det n (setrow M r (V x)))
  | 0 => by
    have := det_lin 0 0 n M r (fun _ => 0) (fun _ => 0) hr
    simp only [Int.zero_mul, Int.add_zero] at this
    exact this
  | k + 1 => by
    have := det_lin 1 (c k) n M r (fun y => sm k (fun x => c x * V x y)) (V k) hr
    rw [det_row_sum M hr c V k] at this
    simp only [Int.one_mul] at this
    exact this

/-- a row plus others: the row's own factor -/
theorem det_row_comb {n : Nat} (M : Mat) {r : Nat} (hr : r < n) (c : Nat → Int) :
    det n (setrow M r (fun y => sm n (fun x => c x * M x y))) = c r * det n M := by
  rw [det_row_sum M hr c M n, sm_one hr]
  · rw [setrow_self]
  · intro i hi hne
    rw [det_rows hr hi (Ne.symm hne), Int.mul_zero]
    intro y _
    simp [setrow, hne]

theorem det_rows_dep {n : Nat} {M : Mat} {r : Nat} (hr : r < n) (c : Nat → Int) (hc : c r ≠ 0)
    (h : ∀ y, y < n → sm n (fun x => c x * M x y) = 0) : det n M = 0 := by
  have e := det_row_comb M hr c
  have z : det n (setrow M r (fun y => sm n (fun x => c x * M x y))) = 0 := by
    have := det_row_sum M hr (fun _ => 0) M 0
    refine Eq.trans (det_congr ?_) this
    intro x y _ hy
    unfold setrow
    split
    · exact h y hy
    · rfl
  rw [z] at e
  rcases Int.mul_eq_zero.mp e.symm with e | e
  · exact absurd e hc
  · exact e

theorem det_cols_dep {n : Nat} {M : Mat} {r : Nat} (hr : r < n) (c : Nat → Int) (hc : c r ≠ 0)
    (h : ∀ x, x < n → sm n (fun y => c y * M x y) = 0) : det n M = 0 := by
  rw [← det_tr]
  exact det_rows_dep hr c hc h

/-- a first row that is (1, 0, ..) -/
theorem det_corner (n : Nat) (M : Mat) (h : ∀ y, y < n → M 0 (y + 1) = 0) : det (n + 1) M = M 0 0 * det n (fun x y => M (x + 1) (y + 1)) := by
  rw [det, sm_one (k := 0) (by omega)]
  · have e : mn M 0 0 = fun x y => M (x + 1) (y + 1) := by funext x y; simp [mn, skip_zero]
    rw [e]; simp [sg]
  · intro i hi hne
    obtain ⟨k, rfl⟩ : ∃ k, i = k + 1 := ⟨i - 1, by omega⟩
    rw [h k (by omega)]; simp

/-! ### one step of elimination -/
def cond (M : Mat) : Mat := fun x y => M 0 0 * M (x + 1) (y + 1) - M (x + 1) 0 * M 0 (y + 1)
def part (M : Mat) (i : Nat) : Mat := fun x y => if 1 ≤ x ∧ x ≤ i then M 0 0 * M x y - M x 0 * M 0 y else M x y

theorem det_part (n : Nat) (M : Mat) : ∀ i, i ≤ n → det (n + 1) (part M i) = M 0 0 ^ i * det (n + 1) M
  | 0, _ => by
    have : part M 0 = M := by
      funext x y; unfold part; rw [if_neg (by omega)]
    rw [this]; simp
  | i + 1, h => by
    have e : part M (i + 1) = setrow (part M i) (i + 1) (fun y => M 0 0 * M (i + 1) y + (- M (i + 1) 0) * M 0 y) := by
      funext x y
      unfold setrow
      split
      · rename_i hx; subst hx
        unfold part; rw [if_pos (by omega)]; grind
      · unfold part
        by_cases hx : 1 ≤ x ∧ x ≤ i
        · rw [if_pos hx, if_pos (by omega)]
        · rw [if_neg hx, if_neg (by omega)]
    rw [e, det_lin _ _ (n + 1) _ (i + 1) _ _ (by omega)]
    have e1 : setrow (part M i) (i + 1) (M (i + 1)) = part M i := by
      have : part M i (i + 1) = M (i + 1) := by funext y; unfold part; rw [if_neg (by omega)]
      rw [← this, setrow_self]
    rw [e1]
    rw [show det (n + 1) (setrow (part M i) (i + 1) (M 0)) = 0 from
      det_rows (r := 0) (s := i + 1) (by omega) (by omega) (by omega) (by
        intro y _
        simp [setrow, part])]
    rw [det_part n M i (by omega)]
    grind

theorem det_cond (n : Nat) (M : Mat) : M 0 0 ^ n * det (n + 1) M = M 0 0 * det n (cond M) := by
  rw [← det_part n M n (Nat.le_refl n), ← det_tr, det_corner]
  · rw [← det_tr n]
    have : tr (part M n) 0 0 = M 0 0 := by simp [tr, part]
    rw [this]
    congr 1
    refine det_congr fun x y hx hy => ?_
    simp only [tr, part, cond]
    rw [if_pos (by omega)]
  · intro y hy
    simp only [tr, part]
    rw [if_pos (by omega)]; grind

theorem det_cond_succ (n : Nat) (M : Mat) (hp : M 0 0 ≠ 0) : M 0 0 ^ n * det (n + 2) M = det (n + 1) (cond M) := by
  have h := det_cond (n + 1) M
  have : M 0 0 * (M 0 0 ^ n * det (n + 2) M) = M 0 0 * det (n + 1) (cond M) := by
    rw [← h]; grind
  exact Int.eq_of_mul_eq_mul_left hp this

end Tp
end
section
set_option autoImplicit false
namespace Tp

theorem det_scale (q : Int) : ∀ (n : Nat) (M : Mat), det n (fun x y => q * M x y) = q ^ n * det n M
  | 0, _ => by simp [det]
  | n + 1, M => by
    rw [det, det, ← sm_mul]
    refine sm_congr fun j _ => ?_
    have : mn (fun x y => q * M x y) 0 j = fun x y => q * mn M 0 j x y := rfl
    rw [this, det_scale q n (mn M 0 j)]
    grind

def red (R : Mat) (q : Int) : Mat := fun x y => (cond R x y).fdiv q
def bare : Nat → Mat → Int → Int
  | 0, _, q => q
  | s + 1, R, q => if R 0 0 = 0 then 0 else bare s (red R q) (R 0 0)

def Dv (R : Mat) (q : Int) : Prop := ∀ (k : Nat) (f g : Nat → Nat), q ^ k ∣ det (k + 1) (fun x y => R (f x) (g y))
structure Zm (s : Nat) (R : Mat) : Prop where
  off : ∀ x y, x < s → y < s → x ≠ y → R x y ≤ 0
  rows : ∀ x, x < s → 0 ≤ sm s (R x)

theorem Dv.one (R : Mat) : Dv R 1 := by
  intro k f g
  rw [Int.one_pow]
  exact Int.one_dvd _

theorem det_two (M : Mat) : det 2 M = M 0 0 * M 1 1 - M 0 1 * M 1 0 := by
  simp [det, sm, sg, mn, skip]
  omega

theorem Dv.exact {R : Mat} {q : Int} (h : Dv R q) (hq : q ≠ 0) (x y : Nat) : q * red R q x y = cond R x y := by
  have := h 1 (fun i => if i = 0 then 0 else x + 1) (fun i => if i = 0 then 0 else y + 1)
  rw [det_two] at this
  simp only [if_true, Int.pow_succ, Int.pow_zero, Int.one_mul, Nat.one_ne_zero, if_false] at this
  have e : cond R x y = R 0 0 * R (x + 1) (y + 1) - R 0 (y + 1) * R (x + 1) 0 := by
    unfold cond; grind
  rw [← e] at this
  unfold red
  obtain ⟨c, hc⟩ := this
  rw [hc, Int.mul_fdiv_cancel_left _ hq]

def up (f : Nat → Nat) : Nat → Nat
  | 0 => 0
  | x + 1 => f x + 1

theorem Dv.step {R : Mat} {q : Int} (h : Dv R q) (hq : q ≠ 0) (hp : R 0 0 ≠ 0) : Dv (red R q) (R 0 0) := by
  intro k f g
  have h1 := det_cond_succ k (fun x y => R (up f x) (up g y)) hp
  have h2 : det (k + 1) (cond (fun x y => R (up f x) (up g y))) = q ^ (k + 1) * det (k + 1) (fun x y => red R q (f x) (g y)) := by
    rw [← det_scale]
    refine det_congr fun x y _ _ => ?_
    rw [h.exact hq]
    rfl
  obtain ⟨e, he⟩ := h (k + 1) (up f) (up g)
  rw [h2, he] at h1
  have h3 : q ^ (k + 1) * (R 0 0 ^ k * e) = q ^ (k + 1) * det (k + 1) (fun x y => red R q (f x) (g y)) := by
    rw [← h1]
    show _ = R 0 0 ^ k * (q ^ (k + 1) * e)
    grind
  have := Int.eq_of_mul_eq_mul_left (Int.pow_ne_zero hq) h3
  exact ⟨e, this.symm⟩

theorem sm_ge_head {s : Nat} {f : Nat → Int} (h : ∀ i, i < s → f i ≤ 0) : sm s f ≤ 0 := by
  induction s with
  | zero => exact Int.le_refl 0
  | succ s ih =>
    have := ih fun i hi => h i (by omega)
    have := h s (by omega)
    unfold sm; omega

theorem Zm.head {s : Nat} {R : Mat} (h : Zm (s + 1) R) : 0 ≤ R 0 0 := by
  have h1 := h.rows 0 (by omega)
  rw [sm_front] at h1
  have := sm_ge_head (s := s) (f := fun i => R 0 (i + 1)) (fun i hi => h.off 0 (i + 1) (by omega) (by omega) (by omega))
  omega

theorem sm_all_zero {s : Nat} {f : Nat → Int} (h : ∀ i, i < s → f i ≤ 0) (h0 : 0 ≤ sm s f) : ∀ i, i < s → f i = 0 := by
  induction s with
  | zero => intro i hi; omega
  | succ s ih =>
    unfold sm at h0
    have h1 := sm_ge_head (s := s) (f := f) fun i hi => h i (by omega)
    have h2 := h s (by omega)
    intro i hi
    by_cases e : i = s
    · subst e; omega
    · exact ih (fun i hi => h i (by omega)) (by omega) i (by omega)

theorem Zm.zero {s : Nat} {R : Mat} (h : Zm (s + 1) R) (h0 : R 0 0 = 0) : det (s + 1) R = 0 := by
  have h1 := h.rows 0 (by omega)
  have : ∀ y, y < s + 1 → R 0 y = 0 := sm_all_zero (by
    intro i hi
    by_cases e : i = 0
    · subst e; omega
    · exact h.off 0 i (by omega) hi (by omega)) h1
  refine det_rows_dep (r := 0) (by omega) (fun x => if x = 0 then 1 else 0) (by simp) fun y hy => ?_
  refine sm_zero fun i hi => ?_
  by_cases e : i = 0
  · subst e; rw [this y hy]; simp
  · simp [e]

theorem nonpos_of_mul {q a : Int} (hq : 0 < q) (h : q * a ≤ 0) : a ≤ 0 := by
  by_cases ha : a ≤ 0
  · exact ha
  · have : 0 < q * a := Int.mul_pos hq (by omega)
    omega
theorem nonneg_of_mul {q a : Int} (hq : 0 < q) (h : 0 ≤ q * a) : 0 ≤ a := by
  by_cases ha : 0 ≤ a
  · exact ha
  · have : 0 < q * (-a) := Int.mul_pos hq (by omega)
    rw [Int.mul_neg] at this
    omega

theorem Zm.step {s : Nat} {R : Mat} {q : Int} (h : Zm (s + 1) R) (hd : Dv R q) (hq : 0 < q) : Zm s (red R q) := by
  have hp := h.head
  constructor
  · intro x y hx hy hne
    apply nonpos_of_mul hq
    rw [hd.exact (by omega)]
    unfold cond
    have a1 := h.off (x + 1) (y + 1) (by omega) (by omega) (by omega)
    have a2 := h.off (x + 1) 0 (by omega) (by omega) (by omega)
    have a3 := h.off 0 (y + 1) (by omega) (by omega) (by omega)
    have b1 : R 0 0 * R (x + 1) (y + 1) ≤ 0 := Int.mul_nonpos_of_nonneg_of_nonpos hp a1
    have b2 : 0 ≤ R (x + 1) 0 * R 0 (y + 1) := Int.mul_nonneg_of_nonpos_of_nonpos a2 a3
    omega
  · intro x hx
    apply nonneg_of_mul hq
    rw [← sm_mul]
    have e : sm s (fun i => q * red R q x i) = R 0 0 * sm (s + 1) (R (x + 1)) - R (x + 1) 0 * sm (s + 1) (R 0) := by
      rw [sm_front, sm_front]
      have : sm s (fun i => q * red R q x i) = R 0 0 * sm s (fun i => R (x + 1) (i + 1)) + (- R (x + 1) 0) * sm s (fun i => R 0 (i + 1)) := by
        rw [← sm_mul, ← sm_mul, ← sm_add]
        refine sm_congr fun i _ => ?_
        rw [hd.exact (by omega)]
        unfold cond; grind
      rw [this]; grind
    rw [e]
    have a1 := h.rows (x + 1) (by omega)
    have a2 := h.off (x + 1) 0 (by omega) (by omega) (by omega)
    have a3 := h.rows 0 (by omega)
    have b1 : 0 ≤ R 0 0 * sm (s + 1) (R (x + 1)) := Int.mul_nonneg hp a1
    have b2 : R (x + 1) 0 * sm (s + 1) (R 0) ≤ 0 := Int.mul_nonpos_of_nonpos_of_nonneg a2 a3
    omega

theorem bare_det : ∀ (s : Nat) (R : Mat) (q : Int), 0 < q → Dv R q → Zm (s + 1) R → q ^ s * bare (s + 1) R q = det (s + 1) R
  | 0, R, q, _, _, _ => by
    simp only [bare, det, sm, sg]
    split <;> simp_all
  | s + 1, R, q, hq, hd, hz => by
    rw [bare]
    split
    · rename_i h0
      rw [hz.zero h0]; simp
    · rename_i h0
      have hp := hz.head
      have ih := bare_det s (red R q) (R 0 0) (by omega) (hd.step (by omega) h0) (hz.step hd hq)
      have h1 := det_cond_succ s R h0
      have h2 : det (s + 1) (cond R) = q ^ (s + 1) * det (s + 1) (red R q) := by
        rw [← det_scale]
        refine det_congr fun x y _ _ => ?_
        rw [hd.exact (by omega)]
      rw [h2, ← ih] at h1
      have h3 : R 0 0 ^ s * (q ^ (s + 1) * bare (s + 1) (red R q) (R 0 0)) = R 0 0 ^ s * det (s + 2) R := by
        rw [h1]; grind
      exact Int.eq_of_mul_eq_mul_left (Int.pow_ne_zero h0) h3

theorem bare_one (s : Nat) (R : Mat) (hz : Zm s R) : bare s R 1 = det s R := by
  cases s with
  | zero => rfl
  | succ s =>
    have := bare_det s R 1 (by omega) (Dv.one R) hz
    rw [Int.one_pow, Int.one_mul] at this
    exact this

end Tp
end
section
set_option autoImplicit false
namespace Tp

/-! ### natural sums, products -/
def sn : Nat → (Nat → Nat) → Nat
  | 0, _ => 0
  | n + 1, f => sn n f + f n
def pr : Nat → (Nat → Nat) → Nat
  | 0, _ => 1
  | n + 1, f => pr n f * f n
def fac : Nat → Nat
  | 0 => 1
  | n + 1 => (n + 1) * fac n

theorem sn_cast (f : Nat → Nat) : ∀ n, ((sn n f : Nat) : Int) = sm n (fun i => (f i : Int))
  | 0 => rfl
  | n + 1 => by unfold sn sm; rw [Int.natCast_add, sn_cast f n]
theorem sn_congr {f g : Nat → Nat} : ∀ {n : Nat}, (∀ i, i < n → f i = g i) → sn n f = sn n g
  | 0, _ => rfl
  | n + 1, h => by unfold sn; rw [sn_congr (fun i hi => h i (by omega)), h n (by omega)]
theorem sn_add (f g : Nat → Nat) : ∀ n, sn n (fun i => f i + g i) = sn n f + sn n g
  | 0 => rfl
  | n + 1 => by unfold sn; rw [sn_add f g n]; show _ + (f n + g n) = _; omega
theorem sn_mul (c : Nat) (f : Nat → Nat) : ∀ n, sn n (fun i => c * f i) = c * sn n f
  | 0 => by simp [sn]
  | n + 1 => by unfold sn; rw [sn_mul c f n, Nat.mul_add]
theorem sn_zero {f : Nat → Nat} : ∀ {n : Nat}, (∀ i, i < n → f i = 0) → sn n f = 0
  | 0, _ => rfl
  | n + 1, h => by unfold sn; rw [sn_zero (fun i hi => h i (by omega)), h n (by omega)]
theorem sn_eq_zero {f : Nat → Nat} : ∀ {n : Nat}, sn n f = 0 → ∀ i, i < n → f i = 0
  | 0, _, i, hi => absurd hi (by omega)
  | n + 1, h, i, hi => by
    unfold sn at h
    by_cases e : i = n
    · subst e; omega
    · exact sn_eq_zero (n := n) (by omega) i (by omega)
theorem sn_le {f : Nat → Nat} : ∀ {n : Nat} (i : Nat), i < n → f i ≤ sn n f
  | 0, i, hi => absurd hi (by omega)
  | n + 1, i, hi => by
    unfold sn
    by_cases e : i = n
    · subst e; omega
    · have := sn_le (f := f) (n := n) i (by omega)
      omega
theorem sn_one {f : Nat → Nat} {k : Nat} : ∀ {n : Nat}, k < n → (∀ i, i < n → i ≠ k → f i = 0) → sn n f = f k
  | 0, hk, _ => absurd hk (by omega)
  | n + 1, hk, h => by
    unfold sn
    by_cases e : k = n
    · subst e
      rw [sn_zero (fun i hi => h i (by omega) (by omega))]; omega
    · rw [sn_one (by omega) (fun i hi hne => h i (by omega) hne), h n (by omega) (by omega)]; omega
theorem sn_swap (f : Nat → Nat → Nat) (m : Nat) : ∀ n, sn n (fun i => sn m (fun j => f i j)) = sn m (fun j => sn n (fun i => f i j))
  | 0 => (sn_zero (n := m) (fun j _ => rfl)).symm
  | n + 1 => by
    have e : (fun j => sn (n + 1) (fun i => f i j)) = fun j => sn n (fun i => f i j) + f n j := rfl
    rw [e, sn_add, ← sn_swap f m n]; rfl
/-- one place changed by one -/
theorem sn_upd {f g : Nat → Nat} {k : Nat} {n : Nat} (hk : k < n) (h : ∀ i, i < n → i ≠ k → f i = g i) (c : Nat) (e : f k = g k + c) : sn n f = sn n g + c := by
  have h1 : sn n f = sn n (fun i => g i + if i = k then c else 0) := sn_congr fun i hi => by
    by_cases e1 : i = k
    · subst e1; simp [e]
    · simp [e1, h i hi e1]
  rw [h1, sn_add, sn_one (f := fun i => if i = k then c else 0) hk (fun i _ hne => by simp [hne])]
  simp

theorem pr_congr {f g : Nat → Nat} : ∀ {n : Nat}, (∀ i, i < n → f i = g i) → pr n f = pr n g
  | 0, _ => rfl
  | n + 1, h => by unfold pr; rw [pr_congr (fun i hi => h i (by omega)), h n (by omega)]
theorem pr_ones {f : Nat → Nat} : ∀ {n : Nat}, (∀ i, i < n → f i = 1) → pr n f = 1
  | 0, _ => rfl
  | n + 1, h => by unfold pr; rw [pr_ones (fun i hi => h i (by omega)), h n (by omega)]
theorem pr_pos {f : Nat → Nat} : ∀ {n : Nat}, (∀ i, i < n → 0 < f i) → 0 < pr n f
  | 0, _ => Nat.one_pos
  | n + 1, h => by unfold pr; exact Nat.mul_pos (pr_pos fun i hi => h i (by omega)) (h n (by omega))
theorem pr_upd {f g : Nat → Nat} {k : Nat} : ∀ {n : Nat}, k < n → (∀ i, i < n → i ≠ k → f i = g i) → ∀ c : Nat, f k = c * g k → pr n f = c * pr n g
  | 0, hk, _, _, _ => absurd hk (by omega)
  | n + 1, hk, h, c, e => by
    unfold pr
    by_cases e1 : k = n
    · subst e1
      rw [pr_congr (f := f) (g := g) (fun i hi => h i (by omega) (by omega)), e]
      grind
    · rw [pr_upd (by omega) (fun i hi hne => h i (by omega) hne) c e, h n (by omega) (by omega)]
      grind
theorem fac_pos : ∀ n, 0 < fac n
  | 0 => Nat.one_pos
  | n + 1 => Nat.mul_pos (by omega) (fac_pos n)
theorem fac_step {n : Nat} (h : 0 < n) : fac n = n * fac (n - 1) := by
  obtain ⟨k, rfl⟩ : ∃ k, n = k + 1 := ⟨n - 1, by omega⟩
  rfl

/-! ### ways that use each street once -/
abbrev Tab := Nat → Nat → Nat
def dec (A : Tab) (v y : Nat) : Tab := fun a b => if a = v ∧ b = y then A a b - 1 else A a b
def out (m : Nat) (A : Tab) (x : Nat) : Nat := sn m (fun y => A x y)
def inn (m : Nat) (A : Tab) (y : Nat) : Nat := sn m (fun x => A x y)
def tot (m : Nat) (A : Tab) : Nat := sn m (out m A)
def swp (m : Nat) (A : Tab) : Nat := pr m (fun x => pr m (fun y => fac (A x y)))
def wy (m : Nat) : Nat → Tab → Nat → Nat
  | 0, _, _ => 1
  | f + 1, A, v => sn m (fun y => if 0 < A v y then wy m f (dec A v y) y else 0)
def bal (m : Nat) (A : Tab) (v u : Nat) : Prop := ∀ x, x < m → out m A x + (if x = u then 1 else 0) = inn m A x + (if x = v then 1 else 0)

theorem dec_at {A : Tab} {v y : Nat} : dec A v y v y = A v y - 1 := by simp [dec]
theorem dec_off {A : Tab} {v y a b : Nat} (h : ¬ (a = v ∧ b = y)) : dec A v y a b = A a b := by simp only [dec, if_neg h]

theorem out_dec_at {m : Nat} {A : Tab} {v y : Nat} (hy : y < m) (h : 0 < A v y) : out m A v = out m (dec A v y) v + 1 := by
  refine sn_upd hy (fun i _ hne => ?_) 1 ?_
  · rw [dec_off (by omega)]
  · rw [dec_at]; omega
theorem out_dec_off {m : Nat} {A : Tab} {v y x : Nat} (h : x ≠ v) : out m (dec A v y) x = out m A x := by
  refine sn_congr fun i _ => ?_
  rw [dec_off (by omega)]
theorem inn_dec_at {m : Nat} {A : Tab} {v y : Nat} (hv : v < m) (h : 0 < A v y) : inn m A y = inn m (dec A v y) y + 1 := by
  refine sn_upd hv (fun i _ hne => ?_) 1 ?_
  · rw [dec_off (by omega)]
  · rw [dec_at]; omega
theorem inn_dec_off {m : Nat} {A : Tab} {v y x : Nat} (h : x ≠ y) : inn m (dec A v y) x = inn m A x := by
  refine sn_congr fun i _ => ?_
  rw [dec_off (by omega)]
theorem tot_dec {m : Nat} {A : Tab} {v y : Nat} (hv : v < m) (hy : y < m) (h : 0 < A v y) : tot m A = tot m (dec A v y) + 1 := by
  refine sn_upd hv (fun i _ hne => ?_) 1 (out_dec_at hy h)
  exact (out_dec_off hne).symm
theorem swp_dec {m : Nat} {A : Tab} {v y : Nat} (hv : v < m) (hy : y < m) (h : 0 < A v y) : swp m A = A v y * swp m (dec A v y) := by
  refine pr_upd hv (fun i _ hne => ?_) _ ?_
  · refine pr_congr fun j _ => ?_
    rw [dec_off (by omega)]
  · refine pr_upd hy (fun j _ hne => ?_) _ ?_
    · rw [dec_off (by omega)]
    · rw [dec_at]; exact fac_step h
theorem bal_dec {m : Nat} {A : Tab} {v y u : Nat} (hv : v < m) (hy : y < m) (h : 0 < A v y) :
    bal m (dec A v y) y u ↔ bal m A v u := by
  constructor
  · intro hb x hx
    have := hb x hx
    by_cases e1 : x = v
    · subst e1
      have o := out_dec_at hy h
      by_cases e2 : x = y
      · subst e2
        have i := inn_dec_at hv h
        simp only [if_true] at *
        omega
      · have i := inn_dec_off (m := m) (A := A) (v := x) e2
        simp only [if_true, if_neg e2] at *
        omega
    · have o := out_dec_off (m := m) (A := A) (y := y) e1
      by_cases e2 : x = y
      · subst e2
        have i := inn_dec_at hv h
        simp only [if_true, if_neg e1] at *
        omega
      · have i := inn_dec_off (m := m) (A := A) (v := v) e2
        simp only [if_neg e1, if_neg e2] at *
        omega
  · intro hb x hx
    have := hb x hx
    by_cases e1 : x = v
    · subst e1
      have o := out_dec_at hy h
      by_cases e2 : x = y
      · subst e2
        have i := inn_dec_at hv h
        simp only [if_true] at *
        omega
      · have i := inn_dec_off (m := m) (A := A) (v := x) e2
        simp only [if_true, if_neg e2] at *
        omega
    · have o := out_dec_off (m := m) (A := A) (y := y) e1
      by_cases e2 : x = y
      · subst e2
        have i := inn_dec_at hv h
        simp only [if_true, if_neg e1] at *
        omega
      · have i := inn_dec_off (m := m) (A := A) (v := v) e2
        simp only [if_neg e1, if_neg e2] at *
        omega

/-- where a way is, its points are even -/
theorem wy_bal (m : Nat) : ∀ (f : Nat) (A : Tab) (v : Nat), v < m → tot m A = f → wy m f A v ≠ 0 → ∃ u, u < m ∧ bal m A v u
  | 0, A, v, hv, ht, _ => by
    refine ⟨v, hv, fun x hx => ?_⟩
    have z : ∀ a, a < m → ∀ b, b < m → A a b = 0 := fun a ha => sn_eq_zero (sn_eq_zero ht a ha)
    have e1 : out m A x = 0 := sn_zero fun y hy => z x hx y hy
    have e2 : inn m A x = 0 := sn_zero fun y hy => z y hy x hx
    rw [e1, e2]
  | f + 1, A, v, hv, ht, hw => by
    rw [wy] at hw
    have : ∃ y, y < m ∧ 0 < A v y ∧ wy m f (dec A v y) y ≠ 0 := by
      apply Classical.byContradiction
      intro hn
      apply hw
      refine sn_zero fun y hy => ?_
      split
      · rename_i h0
        apply Classical.byContradiction
        intro h1
        exact hn ⟨y, hy, h0, h1⟩
      · rfl
    obtain ⟨y, hy, h0, h1⟩ := this
    obtain ⟨u, hu, hb⟩ := wy_bal m f (dec A v y) y hy (by have := tot_dec hv hy h0; omega) h1
    exact ⟨u, hu, (bal_dec hv hy h0).mp hb⟩

/-- the table whose determinant counts the trees towards u -/
def dl (x y : Nat) : Int := if x = y then 1 else 0
def mu (m : Nat) (A : Tab) (u : Nat) : Mat := fun x y => if x = u ∨ out m A x = 0 then dl x y else (out m A x : Int) * dl x y - (A x y : Int)
def fa (m : Nat) (A : Tab) (u : Nat) : Nat := pr m (fun x => if x = u then fac (out m A x) else fac (out m A x - 1))

theorem det_id : ∀ n, det n dl = 1
  | 0 => rfl
  | n + 1 => by
    rw [det_corner n dl (fun y _ => by simp [dl])]
    have : (fun x y => dl (x + 1) (y + 1)) = dl := by funext x y; simp [dl]
    rw [this, det_id n]; simp [dl]

theorem sm_dl (f : Nat → Int) {n k : Nat} (h : k < n) : sm n (fun i => f i * dl i k) = f k := by
  rw [sm_one h]
  · simp [dl]
  · intro i _ hne; simp [dl, hne]

/-- a row's ways, step by step -/
theorem wy_step (m f : Nat) (A : Tab) (v : Nat) (hv : v < m) :
    ((wy m (f + 1) A v * swp m A : Nat) : Int) = sm m (fun y => (A v y : Int) * ((wy m f (dec A v y) y * swp m (dec A v y) : Nat) : Int)) := by
  rw [wy, Nat.mul_comm, ← sn_mul, sn_cast]
  refine sm_congr fun y hy => ?_
  by_cases h : 0 < A v y
  · rw [if_pos h, swp_dec hv hy h, ← Int.natCast_mul]
    congr 1
    grind
  · rw [if_neg h]
    have : A v y = 0 := by omega
    rw [this]; simp

theorem best (m : Nat) : ∀ (f : Nat) (A : Tab) (v u : Nat), v < m → u < m → bal m A v u → tot m A = f →
    ((wy m f A v * swp m A : Nat) : Int) = det m (mu m A u) * (fa m A u : Int)
  | 0, A, v, u, hv, hu, hb, ht => by
    have o : ∀ x, x < m → out m A x = 0 := sn_eq_zero ht
    have z : ∀ a, a < m → ∀ b, b < m → A a b = 0 := fun a ha => sn_eq_zero (o a ha)
    have e1 : swp m A = 1 := pr_ones fun x hx => pr_ones fun y hy => by rw [z x hx y hy]; rfl
    have e2 : fa m A u = 1 := pr_ones fun x hx => by rw [o x hx]; split <;> rfl
    have e3 : det m (mu m A u) = 1 := by
      rw [← det_id m]
      refine det_congr fun x y hx _ => ?_
      unfold mu; rw [if_pos (Or.inr (o x hx))]
    rw [e1, e2, e3]; simp [wy]
  | f + 1, A, v, u, hv, hu, hb, ht => by
    rw [wy_step m f A v hv]
    have ih : sm m (fun y => (A v y : Int) * ((wy m f (dec A v y) y * swp m (dec A v y) : Nat) : Int)) =
        sm m (fun y => (A v y : Int) * (det m (mu m (dec A v y) u) * (fa m (dec A v y) u : Int))) := by
      refine sm_congr fun y hy => ?_
      by_cases h : 0 < A v y
      · rw [best m f (dec A v y) y u hy hu ((bal_dec hv hy h).mpr hb) (by have := tot_dec hv hy h; omega)]
      · have : A v y = 0 := by omega
        rw [this]; simp
    rw [ih]
    have so : sm m (fun y => (A v y : Int)) = (out m A v : Int) := (sn_cast _ m).symm
    by_cases hvu : v = u
    · subst hvu
      have emu : ∀ y, mu m (dec A v y) v = mu m A v := by
        intro y; funext a b
        unfold mu
        by_cases ha : a = v
        · rw [if_pos (Or.inl ha), if_pos (Or.inl ha)]
        · rw [out_dec_off ha, dec_off (by omega)]
      by_cases h0 : out m A v = 0
      · have z : ∀ y, y < m → A v y = 0 := sn_eq_zero h0
        rw [sm_zero (fun y hy => by rw [z y hy]; simp)]
        have hd : det m (mu m A v) = 0 := by
          have : ∃ r, r < m ∧ out m A r ≠ 0 := by
            apply Classical.byContradiction
            intro hn
            have : tot m A = 0 := sn_zero fun i hi => by
              apply Classical.byContradiction
              intro h1; exact hn ⟨i, hi, h1⟩
            omega
          obtain ⟨r, hr, hor⟩ := this
          refine det_rows_dep hr (fun x => if out m A x = 0 then 0 else 1) (by simp [hor]) fun y hy => ?_
          have e : sm m (fun x => (if out m A x = 0 then 0 else 1) * mu m A v x y) =
              sm m (fun x => (out m A x : Int) * dl x y + (-1) * (A x y : Int)) := by
            refine sm_congr fun x hx => ?_
            by_cases hx0 : out m A x = 0
            · have : A x y = 0 := sn_eq_zero hx0 y hy
              rw [if_pos hx0, hx0, this]; simp
            · have hne : x ≠ v := by intro e; subst e; exact hx0 h0
              unfold mu
              rw [if_neg hx0, if_neg (by simp [hne, hx0])]
              omega
          rw [e, sm_add, sm_mul, sm_dl _ hy]
          have : sm m (fun x => (A x y : Int)) = (inn m A y : Int) := (sn_cast _ m).symm
          rw [this]
          have := hb y hy
          have : out m A y = inn m A y := by
            by_cases e : y = v
            · simp only [e, if_true] at this ⊢; omega
            · simp only [if_neg e] at this; omega
          omega
        rw [hd]; simp
      · have efa : ∀ y, y < m → 0 < A v y → fa m A v = out m A v * fa m (dec A v y) v := by
          intro y hy h
          have o := out_dec_at hy h
          refine pr_upd hv (fun i _ hne => ?_) _ ?_
          · rw [if_neg hne, if_neg hne, out_dec_off hne]
          · rw [if_pos rfl, if_pos rfl, fac_step (by omega)]
            congr 2; omega
        have e : sm m (fun y => (A v y : Int) * (det m (mu m (dec A v y) v) * (fa m (dec A v y) v : Int))) * (out m A v : Int) =
            (det m (mu m A v) * (fa m A v : Int)) * (out m A v : Int) := by
          rw [Int.mul_comm, ← sm_mul, show (det m (mu m A v) * (fa m A v : Int)) * (out m A v : Int) = sm m (fun y => (det m (mu m A v) * (fa m A v : Int)) * (A v y : Int)) by rw [sm_mul, so]]
          refine sm_congr fun y hy => ?_
          by_cases h : 0 < A v y
          · rw [emu, efa y hy h]
            rw [Int.natCast_mul]
            grind
          · have : A v y = 0 := by omega
            rw [this]; simp
        exact Int.eq_of_mul_eq_mul_right (by omega) e
    · have hbv := hb v hv
      rw [if_neg hvu, if_pos rfl] at hbv
      have row : ∀ y, mu m (dec A v y) u = setrow (mu m A u) v (mu m (dec A v y) u v) := by
        intro y; funext a b
        unfold setrow
        split
        · rename_i h; rw [h]
        · rename_i h
          unfold mu
          rw [out_dec_off h, dec_off (by omega)]
      have muv : ∀ z, mu m A u v z = (out m A v : Int) * dl v z - (A v z : Int) := by
        intro z; unfold mu; rw [if_neg (by omega)]
      by_cases h2 : 2 ≤ out m A v
      · have efa : ∀ y, y < m → 0 < A v y → fa m A u = (out m A v - 1) * fa m (dec A v y) u := by
          intro y hy h
          have o := out_dec_at hy h
          refine pr_upd hv (fun i _ hne => ?_) _ ?_
          · rw [out_dec_off hne]
          · rw [if_neg hvu, if_neg hvu, fac_step (by omega)]
            congr 2; omega
        have edet : ∀ y, y < m → 0 < A v y → det m (mu m (dec A v y) u) = det m (mu m A u) - det m (setrow (mu m A u) v (fun z => dl v z - dl y z)) := by
          intro y hy h
          have o := out_dec_at hy h
          have e : mu m (dec A v y) u v = fun z => 1 * mu m A u v z + (-1) * (dl v z - dl y z) := by
            funext z
            rw [muv]
            unfold mu
            rw [if_neg (by omega)]
            have ho : (out m (dec A v y) v : Int) = (out m A v : Int) - 1 := by omega
            rw [ho]
            by_cases hz : z = y
            · subst hz
              rw [dec_at]
              have : ((A v z - 1 : Nat) : Int) = (A v z : Int) - 1 := by omega
              rw [this]
              have : dl z z = 1 := by simp [dl]
              rw [this]; grind
            · rw [dec_off (by omega)]
              have : dl y z = 0 := by simp [dl, Ne.symm hz]
              rw [this]; grind
          rw [row y, e, det_lin 1 (-1) m _ v _ _ hv, setrow_self]
          omega
        have e : sm m (fun y => (A v y : Int) * (det m (mu m (dec A v y) u) * (fa m (dec A v y) u : Int))) * ((out m A v - 1 : Nat) : Int) =
            (det m (mu m A u) * (fa m A u : Int)) * ((out m A v - 1 : Nat) : Int) := by
          have e1 : sm m (fun y => (A v y : Int) * (det m (mu m (dec A v y) u) * (fa m (dec A v y) u : Int))) * ((out m A v - 1 : Nat) : Int) =
              (fa m A u : Int) * sm m (fun y => det m (mu m A u) * (A v y : Int) + (-1) * ((A v y : Int) * det m (setrow (mu m A u) v (fun z => dl v z - dl y z)))) := by
            rw [Int.mul_comm, ← sm_mul, ← sm_mul]
            refine sm_congr fun y hy => ?_
            by_cases h : 0 < A v y
            · rw [edet y hy h, efa y hy h, Int.natCast_mul]
              grind
            · have : A v y = 0 := by omega
              rw [this]; simp
          have e2 : sm m (fun y => (A v y : Int) * det m (setrow (mu m A u) v (fun z => dl v z - dl y z))) = det m (mu m A u) := by
            rw [← det_row_sum (mu m A u) hv (fun y => (A v y : Int)) (fun y z => dl v z - dl y z) m]
            refine Eq.trans (det_congr ?_) (congrArg (det m) (setrow_self (mu m A u) v))
            intro a b _ hb'
            unfold setrow
            split
            · rw [muv]
              show sm m (fun x => (A v x : Int) * (dl v b - dl x b)) = _
              have : sm m (fun x => (A v x : Int) * (dl v b - dl x b)) = sm m (fun x => dl v b * (A v x : Int) + (-1) * ((A v x : Int) * dl x b)) :=
                sm_congr fun x _ => by grind
              rw [this, sm_add, sm_mul, sm_mul, sm_dl _ hb', so]
              grind
            · rfl
          rw [e1, sm_add, sm_mul, sm_mul, e2, so]
          have : ((out m A v - 1 : Nat) : Int) = (out m A v : Int) - 1 := by omega
          rw [this]; grind
        exact Int.eq_of_mul_eq_mul_right (by omega) e
      · have o1 : out m A v = 1 := by omega
        have i0 : inn m A v = 0 := by omega
        have zc : ∀ x, x < m → A x v = 0 := sn_eq_zero i0
        have efa : ∀ y, y < m → 0 < A v y → fa m (dec A v y) u = fa m A u := by
          intro y hy h
          have o := out_dec_at hy h
          refine pr_congr fun i _ => ?_
          by_cases e : i = v
          · subst e
            rw [if_neg hvu, if_neg hvu, o1]
            have : out m (dec A i y) i = 0 := by omega
            rw [this]
          · rw [out_dec_off e]
        have edet : ∀ y, y < m → 0 < A v y → det m (mu m (dec A v y) u) = det m (setrow (mu m A u) v (fun z => dl v z)) := by
          intro y hy h
          have o := out_dec_at hy h
          rw [row y]
          congr 2
          funext z
          unfold mu
          rw [if_pos (by omega)]
        have e0 : det m (setrow (mu m A u) v (fun z => (A v z : Int))) = 0 := by
          refine det_cols_dep hv (fun y => if y = v then 1 else 0) (by simp) fun x hx => ?_
          rw [sm_one hv]
          · rw [if_pos rfl, Int.one_mul]
            unfold setrow
            split
            · show (A v v : Int) = 0
              rw [zc v hv]; rfl
            · rename_i hne
              unfold mu
              split
              · simp [dl, hne]
              · rw [zc x hx]; simp [dl, hne]
          · intro i _ hne; simp [hne]
        have e1 : det m (mu m A u) = det m (setrow (mu m A u) v (fun z => dl v z)) := by
          have : mu m A u = setrow (mu m A u) v (fun z => 1 * dl v z + (-1) * (A v z : Int)) := by
            have e : mu m A u v = fun z => 1 * dl v z + (-1) * (A v z : Int) := by
              funext z; rw [muv, o1]; grind
            rw [← e, setrow_self]
          have e2 := det_lin 1 (-1) m (mu m A u) v (fun z => dl v z) (fun z => (A v z : Int)) hv
          rw [← this, e0] at e2
          omega
        rw [e1]
        have : sm m (fun y => (A v y : Int) * (det m (mu m (dec A v y) u) * (fa m (dec A v y) u : Int))) =
            sm m (fun y => (det m (setrow (mu m A u) v (fun z => dl v z)) * (fa m A u : Int)) * (A v y : Int)) := by
          refine sm_congr fun y hy => ?_
          by_cases h : 0 < A v y
          · rw [edet y hy h, efa y hy h]; grind
          · have : A v y = 0 := by omega
            rw [this]; simp
        rw [this, sm_mul, so, o1]
        simp

end Tp
end
section
set_option autoImplicit false
namespace Tp

def lap (m : Nat) (A : Tab) : Mat := fun x y => (out m A x : Int) * dl x y - (A x y : Int)
def sub (m : Nat) (A : Tab) : Mat := fun x y => lap m A (x + 1) (y + 1)

theorem mu_eq {m : Nat} {A : Tab} {u : Nat} (hp : ∀ x, x < m → 0 < out m A x) : det m (mu m A u) = det m (setrow (lap m A) u (dl u)) := by
  refine det_congr fun x y hx _ => ?_
  unfold mu setrow lap
  have := hp x hx
  by_cases e : x = u
  · subst e; simp
  · rw [if_neg (by omega), if_neg e]

theorem lap_row (m : Nat) (A : Tab) (x : Nat) (hx : x < m) : sm m (lap m A x) = 0 := by
  have : sm m (lap m A x) = sm m (fun y => (out m A x : Int) * dl y x + (-1) * (A x y : Int)) := by
    refine sm_congr fun y _ => ?_
    unfold lap dl
    by_cases e : x = y
    · subst e; simp; omega
    · have : ¬ y = x := fun h => e h.symm
      simp [e, this]
  rw [this, sm_add, sm_mul (-1), sm_dl (fun _ => (out m A x : Int)) hx, ← sn_cast]
  show _ + (-1) * ((out m A x : Nat) : Int) = 0
  omega

theorem lap_col (m : Nat) (A : Tab) (y : Nat) (hy : y < m) (e : out m A y = inn m A y) : sm m (fun x => lap m A x y) = 0 := by
  have : sm m (fun x => lap m A x y) = sm m (fun x => (out m A x : Int) * dl x y + (-1) * (A x y : Int)) := by
    refine sm_congr fun x _ => ?_
    unfold lap; omega
  rw [this, sm_add, sm_mul, sm_dl _ hy, ← sn_cast]
  show _ + (-1) * ((inn m A y : Nat) : Int) = 0
  omega

/-- the trees towards any point are as many as those towards point 0 -/
theorem root {m : Nat} {B : Tab} {u : Nat} (hu : u < m) (he : ∀ x, x < m → out m B x = inn m B x) :
    det m (setrow (lap m B) u (dl u)) = det m (setrow (lap m B) 0 (dl 0)) := by
  by_cases h0 : u = 0
  · subst h0; rfl
  have s1 : det m (setrow (lap m B) u (dl u)) = det m (setrow (lap m B) u (dl 0)) := by
    have z : det m (setrow (lap m B) u (fun y => 1 * dl u y + (-1) * dl 0 y)) = 0 := by
      refine det_cols_dep (r := 0) (by omega) (fun _ => 1) (by decide) fun x hx => ?_
      by_cases e : x = u
      · have : sm m (fun y => 1 * setrow (lap m B) u (fun y => 1 * dl u y + (-1) * dl 0 y) x y) =
            sm m (fun y => 1 * dl y u + (-1) * (1 * dl y 0)) := by
          refine sm_congr fun y _ => ?_
          unfold setrow
          rw [if_pos e]
          have : dl u y = dl y u := by unfold dl; split <;> split <;> first | rfl | omega
          have : dl 0 y = dl y 0 := by unfold dl; split <;> split <;> first | rfl | omega
          simp only [*]; omega
        rw [this, sm_add, sm_mul (-1), sm_dl (fun _ => 1) hu, sm_dl (fun _ => 1) (by omega)]
        rfl
      · have : sm m (fun y => 1 * setrow (lap m B) u (fun y => 1 * dl u y + (-1) * dl 0 y) x y) = sm m (lap m B x) := by
          refine sm_congr fun y _ => ?_
          unfold setrow; rw [if_neg e, Int.one_mul]
        rw [this, lap_row m B x hx]
    rw [det_lin 1 (-1) m _ u _ _ hu] at z
    omega
  rw [s1]
  have hc := det_row_comb (n := m) (setrow (setrow (lap m B) u (dl 0)) 0 (lap m B u)) (r := 0) (by omega) (fun x => if x = u then 0 else -1)
  have e1 : det m (setrow (setrow (setrow (lap m B) u (dl 0)) 0 (lap m B u)) 0 (fun y => sm m (fun x => (if x = u then 0 else -1) * setrow (setrow (lap m B) u (dl 0)) 0 (lap m B u) x y))) =
      det m (setrow (lap m B) u (dl 0)) := by
    refine det_congr fun a b ha hb => ?_
    rw [setrow_twice]
    by_cases ea : a = 0
    · subst ea
      have e2 : sm m (fun x => (if x = u then 0 else -1) * setrow (setrow (lap m B) u (dl 0)) 0 (lap m B u) x b) + sm m (fun x => lap m B x b) = lap m B 0 b := by
        rw [← sm_add]
        have : sm m (fun x => (if x = u then 0 else -1) * setrow (setrow (lap m B) u (dl 0)) 0 (lap m B u) x b + lap m B x b) =
            sm m (fun x => (lap m B 0 b - lap m B u b) * dl x 0 + lap m B u b * dl x u) := by
          refine sm_congr fun x _ => ?_
          unfold setrow
          by_cases x0 : x = 0
          · subst x0
            have : ¬ 0 = u := fun h => h0 h.symm
            simp [this, dl]; omega
          · by_cases xu : x = u
            · subst xu; simp [dl, x0]
            · simp [x0, xu, dl]; omega
        rw [this, sm_add, sm_dl (fun _ => lap m B 0 b - lap m B u b) (by omega), sm_dl (fun _ => lap m B u b) hu]
        omega
      rw [lap_col m B b hb (he b hb)] at e2
      show (if 0 = 0 then _ else _) = (if 0 = u then _ else _)
      rw [if_pos rfl, if_neg (fun h => h0 h.symm), ← e2]
      exact (Int.add_zero _).symm
    · unfold setrow
      rw [if_neg ea]
  rw [e1, if_neg (fun h => h0 h.symm)] at hc
  rw [hc, det_swap (lap m B) hu (by omega) h0, setrow_self]
  omega

theorem root_sub {m : Nat} {B : Tab} {u : Nat} (hu : u < m) (hp : ∀ x, x < m → 0 < out m B x) (he : ∀ x, x < m → out m B x = inn m B x) :
    det m (mu m B u) = det (m - 1) (sub m B) := by
  rw [mu_eq hp, root hu he]
  obtain ⟨n, rfl⟩ : ∃ n, m = n + 1 := ⟨m - 1, by omega⟩
  rw [det_corner]
  · have : (fun x y => setrow (lap (n + 1) B) 0 (dl 0) (x + 1) (y + 1)) = sub (n + 1) B := by
      funext x y; simp [setrow, sub]
    rw [this]
    simp [setrow, dl]
  · intro y _
    simp [setrow, dl]

theorem sub_zm (m : Nat) (A : Tab) : Zm (m - 1) (sub m A) := by
  constructor
  · intro x y hx hy hne
    unfold sub lap dl
    rw [if_neg (by omega)]
    omega
  · intro x hx
    obtain ⟨n, rfl⟩ : ∃ n, m = n + 1 := ⟨m - 1, by omega⟩
    have h := lap_row (n + 1) A (x + 1) (by omega)
    rw [sm_front] at h
    have : lap (n + 1) A (x + 1) 0 ≤ 0 := by
      unfold lap dl; rw [if_neg (by omega)]; omega
    show 0 ≤ sm n (fun y => lap (n + 1) A (x + 1) (y + 1))
    omega

def rounds (m : Nat) (A : Tab) : Int := bare (m - 1) (sub m A) 1 * (pr m (fun x => fac (out m A x - 1)) : Int)
def inc (A : Tab) (a b : Nat) : Tab := fun x y => if x = a ∧ y = b then A x y + 1 else A x y

theorem swp_pos (m : Nat) (A : Tab) : 0 < swp m A := pr_pos fun _ _ => pr_pos fun _ _ => fac_pos _

theorem fdiv_of_mul {a b : Int} {s : Nat} (hs : 0 < s) (h : a * (s : Int) = b) : b.fdiv (s : Int) = a := by
  rw [← h, Int.mul_fdiv_cancel _ (by omega)]

/-- ways that end where they began: from one point -/
theorem ways_even_at {m : Nat} {A : Tab} {v : Nat} (hv : v < m) (hp : ∀ x, x < m → 0 < out m A x) (he : ∀ x, x < m → out m A x = inn m A x) :
    ((wy m (tot m A) A v * swp m A : Nat) : Int) = (out m A v : Int) * rounds m A := by
  have hb : bal m A v v := fun x hx => by rw [he x hx]
  have h := best m (tot m A) A v v hv hv hb rfl
  rw [h, root_sub hv hp he, ← bare_one (m - 1) (sub m A) (sub_zm m A)]
  have : fa m A v = out m A v * pr m (fun x => fac (out m A x - 1)) := by
    refine pr_upd hv (fun i _ hne => by rw [if_neg hne]) _ ?_
    rw [if_pos rfl]
    exact fac_step (hp v hv)
  rw [this, Int.natCast_mul]
  unfold rounds
  grind

theorem ways_even {m : Nat} {A : Tab} (hp : ∀ x, x < m → 0 < out m A x) (he : ∀ x, x < m → out m A x = inn m A x) :
    ((tot m A : Int) * rounds m A).fdiv (swp m A : Int) = ((sn m (fun v => wy m (tot m A) A v) : Nat) : Int) := by
  apply fdiv_of_mul (swp_pos m A)
  rw [Int.mul_comm, sn_cast, ← sm_mul]
  have : sm m (fun v => (swp m A : Int) * (wy m (tot m A) A v : Int)) = sm m (fun v => rounds m A * (out m A v : Int)) := by
    refine sm_congr fun v hv => ?_
    have := ways_even_at hv hp he
    rw [Int.natCast_mul] at this
    rw [Int.mul_comm, this, Int.mul_comm]
  rw [this, sm_mul, ← sn_cast]
  show rounds m A * ((tot m A : Nat) : Int) = _
  exact Int.mul_comm _ _

theorem out_inc_at {m : Nat} {A : Tab} {a b : Nat} (hb : b < m) : out m (inc A a b) a = out m A a + 1 :=
  sn_upd hb (fun i _ hne => by simp [inc, hne]) 1 (by simp [inc])
theorem out_inc_off {m : Nat} {A : Tab} {a b x : Nat} (h : x ≠ a) : out m (inc A a b) x = out m A x :=
  sn_congr fun i _ => by simp [inc, h]
theorem inn_inc_at {m : Nat} {A : Tab} {a b : Nat} (ha : a < m) : inn m (inc A a b) b = inn m A b + 1 :=
  sn_upd ha (fun i _ hne => by simp [inc, hne]) 1 (by simp [inc])
theorem inn_inc_off {m : Nat} {A : Tab} {a b x : Nat} (h : x ≠ b) : inn m (inc A a b) x = inn m A x :=
  sn_congr fun i _ => by simp [inc, h]

/-- ways from one point to another -/
theorem ways_one_at {m : Nat} {A : Tab} {v u : Nat} (hv : v < m) (hu : u < m) (hne : v ≠ u) (hb : bal m A v u)
    (hp : ∀ x, x < m → 0 < out m A x + inn m A x) :
    ((wy m (tot m A) A v * swp m A : Nat) : Int) = rounds m (inc A u v) := by
  rw [best m (tot m A) A v u hv hu hb rfl]
  have hp' : ∀ x, x < m → 0 < out m (inc A u v) x := by
    intro x hx
    have h1 := hb x hx
    have h2 := hp x hx
    by_cases e : x = u
    · subst e; rw [out_inc_at hv]; omega
    · rw [out_inc_off e]
      rw [if_neg e] at h1
      omega
  have he' : ∀ x, x < m → out m (inc A u v) x = inn m (inc A u v) x := by
    intro x hx
    have h1 := hb x hx
    by_cases e : x = u
    · subst e
      rw [out_inc_at hv, inn_inc_off (Ne.symm hne)]
      rw [if_pos rfl, if_neg (Ne.symm hne)] at h1
      omega
    · rw [out_inc_off e]
      rw [if_neg e] at h1
      by_cases e2 : x = v
      · subst e2; rw [inn_inc_at hu]; rw [if_pos rfl] at h1; omega
      · rw [inn_inc_off e2]; rw [if_neg e2] at h1; omega
  have emu : mu m A u = mu m (inc A u v) u := by
    funext x y
    unfold mu
    by_cases e : x = u
    · rw [if_pos (Or.inl e), if_pos (Or.inl e)]
    · rw [out_inc_off e]
      simp [inc, e]
  have efa : fa m A u = pr m (fun x => fac (out m (inc A u v) x - 1)) := by
    refine pr_congr fun x _ => ?_
    by_cases e : x = u
    · subst e; rw [if_pos rfl, out_inc_at hv]; rfl
    · rw [if_neg e, out_inc_off e]
  rw [emu, efa, root_sub hu hp' he', ← bare_one (m - 1) _ (sub_zm m _)]
  rfl

theorem ways_one {m : Nat} {A : Tab} {v u : Nat} (hv : v < m) (hu : u < m) (hne : v ≠ u) (hb : bal m A v u)
    (hp : ∀ x, x < m → 0 < out m A x + inn m A x) :
    (rounds m (inc A u v)).fdiv (swp m A : Int) = ((sn m (fun v => wy m (tot m A) A v) : Nat) : Int) := by
  apply fdiv_of_mul (swp_pos m A)
  rw [← ways_one_at hv hu hne hb hp, Int.natCast_mul]
  congr 2
  refine sn_one hv fun i hi hni => ?_
  apply Classical.byContradiction
  intro h0
  obtain ⟨w, hw, hbw⟩ := wy_bal m (tot m A) A i hi rfl h0
  have a1 := hb i hi
  have a2 := hbw i hi
  have a3 := hb v hv
  have a4 := hbw v hv
  rw [if_neg hni] at a1
  rw [if_pos rfl] at a2
  rw [if_pos rfl, if_neg hne] at a3
  rw [if_neg (show ¬ v = i from fun h => hni h.symm)] at a4
  split at a1 <;> split at a2 <;> split at a4 <;> omega

/-- how uneven a point is -/
def srp (m : Nat) (A : Tab) (x : Nat) : Int := (inn m A x : Int) - (out m A x : Int)
def ab (z : Int) : Int := if z < 0 then -z else z
theorem srp_sum (m : Nat) (A : Tab) : sm m (srp m A) = 0 := by
  have : sm m (srp m A) = sm m (fun x => (inn m A x : Int) + (-1) * (out m A x : Int)) := by
    refine sm_congr fun x _ => ?_
    unfold srp; omega
  rw [this, sm_add, sm_mul, ← sn_cast, ← sn_cast]
  have : sn m (inn m A) = sn m (out m A) := by
    unfold inn out
    exact sn_swap (fun i j => A j i) m m
  show ((sn m (inn m A) : Nat) : Int) + (-1) * ((sn m (out m A) : Nat) : Int) = 0
  omega

theorem sn_is_one {f : Nat → Nat} : ∀ {n : Nat}, sn n f = 1 → ∃ k, k < n ∧ f k = 1 ∧ ∀ i, i < n → i ≠ k → f i = 0
  | 0, h => absurd h (by simp [sn])
  | n + 1, h => by
    unfold sn at h
    by_cases e : f n = 0
    · obtain ⟨k, hk, h1, h2⟩ := sn_is_one (f := f) (n := n) (by omega)
      refine ⟨k, by omega, h1, fun i hi hne => ?_⟩
      by_cases e2 : i = n
      · subst e2; exact e
      · exact h2 i (by omega) hne
    · refine ⟨n, by omega, by omega, fun i hi hne => ?_⟩
      exact sn_eq_zero (n := n) (by omega) i (by omega)

/-- numbers whose sum is 0 and whose sizes sum to 2 -/
theorem two_uneven {m : Nat} {s : Nat → Int} (h0 : sm m s = 0) (h2 : sm m (fun x => ab (s x)) = 2) :
    ∃ u v, u < m ∧ v < m ∧ s u = 1 ∧ s v = -1 ∧ ∀ x, x < m → x ≠ u → x ≠ v → s x = 0 := by
  have hp : sn m (fun x => (s x).toNat) = 1 ∧ sn m (fun x => (- s x).toNat) = 1 := by
    have a1 : sm m s = sm m (fun x => (((s x).toNat : Nat) : Int) + (-1) * (((- s x).toNat : Nat) : Int)) := sm_congr fun x _ => by omega
    have a2 : sm m (fun x => ab (s x)) = sm m (fun x => (((s x).toNat : Nat) : Int) + (((- s x).toNat : Nat) : Int)) := sm_congr fun x _ => by
      unfold ab; split <;> omega
    rw [sm_add, sm_mul, ← sn_cast, ← sn_cast] at a1
    rw [sm_add, ← sn_cast, ← sn_cast] at a2
    omega
  obtain ⟨u, hu, u1, u2⟩ := sn_is_one hp.1
  obtain ⟨v, hv, v1, v2⟩ := sn_is_one hp.2
  refine ⟨u, v, hu, hv, by omega, by omega, fun x hx h1 h2 => ?_⟩
  have := u2 x hx h1
  have := v2 x hx h2
  omega

theorem ab_sum_zero {m : Nat} {s : Nat → Int} (h : sm m (fun x => ab (s x)) = 0) : ∀ x, x < m → s x = 0 := by
  have a2 : sm m (fun x => ab (s x)) = sm m (fun x => (((s x).natAbs : Nat) : Int)) := sm_congr fun x _ => by
    unfold ab; split <;> omega
  rw [a2, ← sn_cast] at h
  intro x hx
  have := sn_eq_zero (f := fun x => (s x).natAbs) (n := m) (by omega) x hx
  omega

theorem bal_of_srp {m : Nat} {A : Tab} {u v : Nat} (h1 : srp m A u = 1) (h2 : srp m A v = -1)
    (h3 : ∀ x, x < m → x ≠ u → x ≠ v → srp m A x = 0) : bal m A v u := by
  intro x hx
  unfold srp at *
  have := h3 x hx
  by_cases e1 : x = u
  · subst e1
    by_cases e2 : x = v
    · subst e2; omega
    · rw [if_pos rfl, if_neg e2]; omega
  · by_cases e2 : x = v
    · subst e2; rw [if_neg e1, if_pos rfl]; omega
    · rw [if_neg e1, if_neg e2]
      have := this e1 e2
      omega

theorem no_ways {m : Nat} {A : Tab} (h0 : sm m (fun x => ab (srp m A x)) ≠ 0) (h2 : sm m (fun x => ab (srp m A x)) ≠ 2) :
    sn m (fun v => wy m (tot m A) A v) = 0 := by
  refine sn_zero fun v hv => ?_
  apply Classical.byContradiction
  intro hn
  obtain ⟨u, hu, hb⟩ := wy_bal m (tot m A) A v hv rfl hn
  by_cases e : v = u
  · subst e
    apply h0
    refine sm_zero fun x hx => ?_
    have := hb x hx
    have : srp m A x = 0 := by unfold srp; omega
    rw [this]; rfl
  · apply h2
    have : sm m (fun x => ab (srp m A x)) = sm m (fun x => 1 * dl x u + 1 * dl x v) := by
      refine sm_congr fun x hx => ?_
      have := hb x hx
      unfold ab srp dl
      by_cases e1 : x = u
      · subst e1
        rw [if_pos rfl, if_neg (Ne.symm e)] at this
        simp [Ne.symm e]; omega
      · by_cases e2 : x = v
        · subst e2
          rw [if_neg e1, if_pos rfl] at this
          simp [e1]; omega
        · rw [if_neg e1, if_neg e2] at this
          simp [e1, e2]; omega
    rw [this, sm_add, sm_dl (fun _ => 1) hu, sm_dl (fun _ => 1) hv]
    rfl

end Tp
end
section
set_option autoImplicit false
namespace Tp
open Kv168 (Text ways from_ many begins before sorted)

/-! ### the specification's sums and order -/
theorem foldl_sum (l : List Nat) : ∀ a, l.foldl (· + ·) a = a + l.foldl (· + ·) 0 := by
  induction l with
  | nil => intro a; simp
  | cons x l ih =>
    intro a
    rw [List.foldl_cons, List.foldl_cons, ih (a + x), ih (0 + x)]
    omega
theorem sum_cons (x : Nat) (l : List Nat) : Kv168.sum (x :: l) = x + Kv168.sum l := by
  unfold Kv168.sum
  rw [List.foldl_cons, foldl_sum]
  omega
theorem sum_nil : Kv168.sum [] = 0 := rfl
theorem sum_append (l r : List Nat) : Kv168.sum (l ++ r) = Kv168.sum l + Kv168.sum r := by
  induction l with
  | nil => simp [sum_nil]
  | cons x l ih => rw [List.cons_append, sum_cons, sum_cons, ih]; omega
theorem sum_range (g : Nat → Nat) : ∀ n, Kv168.sum ((List.range n).map g) = sn n g
  | 0 => rfl
  | n + 1 => by
    rw [List.range_succ, List.map_append, sum_append, sum_range g n, List.map_singleton, sum_cons, sum_nil]
    rfl

theorem before_irrefl : ∀ (t : Text), before t t = false
  | [] => rfl
  | a :: l => by simp [before, before_irrefl l]
theorem before_trans : ∀ (s t u : Text), before s t = true → before t u = true → before s u = true
  | [], _, _, h, _ => by simp [before] at h
  | a :: l, [], _, h, _ => by simp [before] at h
  | a :: l, b :: r, [], _, h => by simp [before] at h
  | a :: l, b :: r, c :: q, h1, h2 => by
    simp only [before, Bool.or_eq_true, decide_eq_true_eq, Bool.and_eq_true, beq_iff_eq] at *
    rcases h1 with h1 | ⟨e1, h1⟩ <;> rcases h2 with h2 | ⟨e2, h2⟩
    · left; omega
    · left; omega
    · left; omega
    · right; exact ⟨by omega, before_trans l r q h1 h2⟩
theorem before_total : ∀ (s t : Text), s.length = t.length → s ≠ t → before s t = true ∨ before t s = true
  | [], [], _, h => absurd rfl h
  | [], _ :: _, h, _ => by simp at h
  | _ :: _, [], h, _ => by simp at h
  | a :: l, b :: r, hl, hne => by
    simp only [before, Bool.or_eq_true, decide_eq_true_eq, Bool.and_eq_true, beq_iff_eq]
    by_cases e : a = b
    · subst e
      have : l ≠ r := fun h => hne (by rw [h])
      rcases before_total l r (by simpa using hl) this with h | h
      · left; right; exact ⟨rfl, h⟩
      · right; right; exact ⟨rfl, h⟩
    · rcases Nat.lt_or_gt_of_ne e with h | h
      · left; left; exact h
      · right; left; exact h

def Srt (l : List Text) : Prop := l.Pairwise (fun a b => before a b = true)

theorem ins_step (r : List Text) (x : Text) (n : Nat) (hs : Srt r) (hl : ∀ y ∈ r, y.length = n) (hx : x.length = n) :
    Srt (if r.contains x then r else (r.filter fun y => before y x) ++ [x] ++ r.filter fun y => before x y) ∧
    (∀ y, y ∈ (if r.contains x then r else (r.filter fun y => before y x) ++ [x] ++ r.filter fun y => before x y) ↔ y = x ∨ y ∈ r) := by
  split
  · rename_i h
    rw [List.contains_iff_mem] at h
    refine ⟨hs, fun y => ⟨Or.inr, ?_⟩⟩
    rintro (h1 | h1)
    · rw [h1]; exact h
    · exact h1
  · rename_i h
    rw [List.contains_iff_mem] at h
    constructor
    · unfold Srt at *
      rw [List.pairwise_append, List.pairwise_append]
      refine ⟨⟨hs.filter _, List.pairwise_singleton _ _, ?_⟩, hs.filter _, ?_⟩
      · intro a ha b hb
        rw [List.mem_singleton] at hb
        rw [hb]
        exact (List.mem_filter.mp ha).2
      · intro a ha b hb
        have hb2 := (List.mem_filter.mp hb).2
        rw [List.mem_append, List.mem_singleton] at ha
        rcases ha with ha | ha
        · exact before_trans _ _ _ (List.mem_filter.mp ha).2 hb2
        · rw [ha]; exact hb2
    · intro y
      simp only [List.mem_append, List.mem_singleton, List.mem_filter]
      constructor
      · rintro ((h1 | h1) | h1)
        · exact Or.inr h1.1
        · exact Or.inl h1
        · exact Or.inr h1.1
      · rintro (h1 | h1)
        · exact Or.inl (Or.inr h1)
        · by_cases e : y = x
          · exact Or.inl (Or.inr e)
          · rcases before_total y x (by rw [hl y h1, hx]) e with h2 | h2
            · exact Or.inl (Or.inl ⟨h1, h2⟩)
            · exact Or.inr ⟨h1, h2⟩

theorem sorted_go (n : Nat) : ∀ (l r : List Text), Srt r → (∀ y ∈ r, y.length = n) → (∀ y ∈ l, y.length = n) →
    Srt (l.foldl (fun r x => if r.contains x then r else (r.filter fun y => before y x) ++ [x] ++ r.filter fun y => before x y) r) ∧
    ∀ y, y ∈ l.foldl (fun r x => if r.contains x then r else (r.filter fun y => before y x) ++ [x] ++ r.filter fun y => before x y) r ↔ y ∈ l ∨ y ∈ r
  | [], r, hs, _, _ => ⟨hs, fun y => by simp⟩
  | x :: l, r, hs, hr, hl => by
    rw [List.foldl_cons]
    obtain ⟨h1, h2⟩ := ins_step r x n hs hr (hl x (by simp))
    obtain ⟨h3, h4⟩ := sorted_go n l _ h1 (by
      intro y hy
      rcases (h2 y).mp hy with e | e
      · rw [e]; exact hl x (by simp)
      · exact hr y e) (fun y hy => hl y (by simp [hy]))
    refine ⟨h3, fun y => ?_⟩
    rw [h4 y, h2 y, List.mem_cons]
    constructor
    · rintro (h | h | h)
      · exact Or.inl (Or.inr h)
      · exact Or.inl (Or.inl h)
      · exact Or.inr h
    · rintro ((h | h) | h)
      · exact Or.inr (Or.inl h)
      · exact Or.inl h
      · exact Or.inr (Or.inr h)

theorem sorted_spec {n : Nat} {l : List Text} (hl : ∀ y ∈ l, y.length = n) : Srt (sorted l) ∧ ∀ y, y ∈ sorted l ↔ y ∈ l := by
  have := sorted_go n l [] List.Pairwise.nil (by simp) hl
  refine ⟨this.1, fun y => ?_⟩
  have := this.2 y
  simp only [List.not_mem_nil, or_false] at this
  exact this

theorem Srt.nodup {l : List Text} (h : Srt l) : l.Nodup :=
  h.imp (fun {a b} hab e => by subst e; rw [before_irrefl] at hab; exact absurd hab (by decide))

/-! ### from texts to a table -/
def bg (p : Text) : Text := p.take (p.length - 1)
def fi (p : Text) : Text := p.drop 1
def tab (idx : Text → Nat) (ps : List Text) : Tab := fun x y => ps.countP (fun p => idx (bg p) == x && idx (fi p) == y)

/-- pieces of one length over four letters whose points are numbered below m, no two alike -/
structure Numd (idx : Text → Nat) (m k : Nat) (S : Text → Prop) : Prop where
  two : 2 ≤ k
  len : ∀ t, S t → t.length = k - 1
  lt : ∀ t, S t → idx t < m
  inj : ∀ s t, S s → S t → idx s = idx t → s = t
structure Pcs (k : Nat) (S : Text → Prop) (ps : List Text) : Prop where
  len : ∀ p ∈ ps, p.length = k
  letters : ∀ p ∈ ps, ∀ a ∈ p, a < 4
  bg : ∀ p ∈ ps, S (bg p)
  fi : ∀ p ∈ ps, S (fi p)

theorem Pcs.erase {k : Nat} {S : Text → Prop} {ps : List Text} (h : Pcs k S ps) (p : Text) : Pcs k S (ps.erase p) :=
  ⟨fun q hq => h.len q (List.mem_of_mem_erase hq), fun q hq => h.letters q (List.mem_of_mem_erase hq),
   fun q hq => h.bg q (List.mem_of_mem_erase hq), fun q hq => h.fi q (List.mem_of_mem_erase hq)⟩

theorem bg_snoc (v : Text) (a : Nat) : bg (v ++ [a]) = v := by simp [bg]
theorem piece_of {p : Text} (h : p ≠ []) : ∃ a, a ∈ p ∧ p = bg p ++ [a] := by
  refine ⟨p.getLast h, List.getLast_mem h, ?_⟩
  unfold bg
  rw [← List.dropLast_eq_take]
  exact (List.dropLast_concat_getLast h).symm
theorem fi_snoc {v : Text} (hv : 1 ≤ v.length) (a : Nat) : fi (v ++ [a]) = v.drop 1 ++ [a] := by
  unfold fi
  rw [List.drop_append_of_le_length hv]

theorem tab_pos {idx : Text → Nat} {ps : List Text} {x y : Nat} : 0 < tab idx ps x y ↔ ∃ p ∈ ps, idx (bg p) = x ∧ idx (fi p) = y := by
  unfold tab
  rw [List.countP_pos_iff]
  simp

theorem tab_erase {idx : Text → Nat} {ps : List Text} {p : Text} (hp : p ∈ ps) : dec (tab idx ps) (idx (bg p)) (idx (fi p)) = tab idx (ps.erase p) := by
  funext x y
  unfold dec tab
  rw [(List.perm_cons_erase hp).countP_eq, List.countP_cons]
  by_cases h : x = idx (bg p) ∧ y = idx (fi p)
  · rw [if_pos h, if_pos (by simp [h.1, h.2])]
    omega
  · rw [if_neg h, if_neg]
    · rfl
    · simp only [Bool.and_eq_true, beq_iff_eq]
      rintro ⟨h1, h2⟩
      exact h ⟨h1.symm, h2.symm⟩

theorem ways_eq {idx : Text → Nat} {m k : Nat} {S : Text → Prop} (hn : Numd idx m k S) : ∀ (f : Nat) (ps : List Text) (v : Text),
    Pcs k S ps → S v → ways f ps v = wy m f (tab idx ps) (idx v)
  | 0, _, _, _, _ => rfl
  | f + 1, ps, v, hp, hv => by
    have h2 := hn.two
    have hl := hn.len v hv
    rw [ways, wy, sum_range]
    show sn 4 _ = _
    let G := fun y => wy m f (dec (tab idx ps) (idx v) y) y
    let C := fun a y => ps.contains (v ++ [a]) = true ∧ idx (fi (v ++ [a])) = y
    have inC : ∀ a y, C a y → 0 < tab idx ps (idx v) y := by
      intro a y h
      rw [tab_pos]
      exact ⟨v ++ [a], List.contains_iff_mem.mp h.1, by rw [bg_snoc], h.2⟩
    have e1 : sn m (fun y => if 0 < tab idx ps (idx v) y then wy m f (dec (tab idx ps) (idx v) y) y else 0) =
        sn m (fun y => sn 4 (fun a => if C a y then G y else 0)) := by
      refine sn_congr fun y _ => ?_
      split
      · rename_i h0
        rw [tab_pos] at h0
        obtain ⟨p, hpm, h3, h4⟩ := h0
        have hb : bg p = v := hn.inj _ _ (hp.bg p hpm) hv h3
        have hlen := hp.len p hpm
        obtain ⟨a, ha, e⟩ := piece_of (p := p) (by intro h; rw [h] at hlen; simp at hlen; omega)
        rw [hb] at e
        rw [sn_one (k := a) (hp.letters p hpm a ha)]
        · rw [if_pos]
          refine ⟨?_, ?_⟩
          · rw [← e]; exact List.contains_iff_mem.mpr hpm
          · rw [← e]; exact h4
        · intro b _ hne
          rw [if_neg]
          rintro ⟨h5, h6⟩
          apply hne
          have h7 : fi (v ++ [b]) = fi p := hn.inj _ _ (hp.fi _ (List.contains_iff_mem.mp h5)) (hp.fi p hpm) (h6.trans h4.symm)
          rw [e, fi_snoc (by omega), fi_snoc (by omega)] at h7
          have := List.append_cancel_left h7
          simpa using this
      · rename_i h0
        symm
        refine sn_zero fun a _ => ?_
        rw [if_neg]
        intro h; exact h0 (inC a y h)
    rw [e1, sn_swap (fun y a => if C a y then G y else 0)]
    refine sn_congr fun a _ => ?_
    show (if ps.contains (v ++ [a]) then ways f (ps.erase (v ++ [a])) ((v ++ [a]).drop 1) else 0) = _
    by_cases hc : ps.contains (v ++ [a]) = true
    · have hm := List.contains_iff_mem.mp hc
      rw [if_pos hc, sn_one (k := idx (fi (v ++ [a]))) (hn.lt _ (hp.fi _ hm))]
      · rw [if_pos ⟨hc, rfl⟩]
        have ih := ways_eq hn f (ps.erase (v ++ [a])) (fi (v ++ [a])) (hp.erase _) (hp.fi _ hm)
        have ht := tab_erase (idx := idx) hm
        rw [bg_snoc] at ht
        show ways f _ (fi (v ++ [a])) = wy m f (dec (tab idx ps) (idx v) (idx (fi (v ++ [a])))) (idx (fi (v ++ [a])))
        rw [ih, ht]
      · intro y _ hne
        rw [if_neg]
        intro h; exact hne h.2.symm
    · rw [if_neg hc]
      symm
      refine sn_zero fun y _ => ?_
      rw [if_neg]
      intro h; exact hc h.1

/-- a sum over numbered texts, each once, of what is 0 elsewhere -/
theorem sum_idx {idx : Text → Nat} {m : Nat} (W : Nat → Nat) : ∀ (L : List Text), L.Nodup → (∀ t ∈ L, idx t < m) →
    (∀ s ∈ L, ∀ t ∈ L, idx s = idx t → s = t) → Kv168.sum (L.map (fun t => W (idx t))) = sn m (fun x => if ∃ t ∈ L, idx t = x then W x else 0)
  | [], _, _, _ => by
    rw [sn_zero]
    · rfl
    · intro i _; simp
  | t :: L, hd, hlt, hinj => by
    rw [List.map_cons, sum_cons, sum_idx W L (List.nodup_cons.mp hd).2 (fun s hs => hlt s (by simp [hs]))
      (fun s hs u hu => hinj s (by simp [hs]) u (by simp [hu])), Nat.add_comm]
    refine (sn_upd (hlt t (by simp)) (fun i _ hne => ?_) (W (idx t)) ?_).symm
    · have : (∃ s ∈ t :: L, idx s = i) ↔ ∃ s ∈ L, idx s = i := by
        constructor
        · rintro ⟨s, hs, e⟩
          rcases List.mem_cons.mp hs with h | h
          · subst h; exact absurd e.symm hne
          · exact ⟨s, h, e⟩
        · rintro ⟨s, hs, e⟩; exact ⟨s, by simp [hs], e⟩
      simp only [this]
    · rw [if_pos ⟨t, by simp, rfl⟩, if_neg]
      · omega
      · rintro ⟨s, hs, e⟩
        have := hinj s (by simp [hs]) t (by simp) e
        rw [this] at hs
        exact (List.nodup_cons.mp hd).1 hs

theorem out_tab {idx : Text → Nat} {m : Nat} {ps : List Text} (hlt : ∀ p ∈ ps, idx (fi p) < m) (x : Nat) : out m (tab idx ps) x = ps.countP (fun p => idx (bg p) == x) := by
  induction ps with
  | nil => exact sn_zero fun y _ => rfl
  | cons p ps ih =>
    have ih := ih fun q hq => hlt q (by simp [hq])
    rw [List.countP_cons, ← ih]
    by_cases h : idx (bg p) = x
    · rw [if_pos (by simp [h])]
      refine sn_upd (hlt p (by simp)) (fun i _ hne => ?_) 1 ?_
      · unfold tab
        rw [List.countP_cons, if_neg (by simp only [Bool.and_eq_true, beq_iff_eq]; rintro ⟨_, h2⟩; exact hne h2.symm), Nat.add_zero]
      · unfold tab
        rw [List.countP_cons, if_pos (by simp [h])]
    · rw [if_neg (by simp [h]), Nat.add_zero]
      refine sn_congr fun i _ => ?_
      unfold tab
      rw [List.countP_cons, if_neg (by simp [h]), Nat.add_zero]
theorem inn_tab {idx : Text → Nat} {m : Nat} {ps : List Text} (hlt : ∀ p ∈ ps, idx (bg p) < m) (x : Nat) : inn m (tab idx ps) x = ps.countP (fun p => idx (fi p) == x) := by
  induction ps with
  | nil => exact sn_zero fun y _ => rfl
  | cons p ps ih =>
    have ih := ih fun q hq => hlt q (by simp [hq])
    rw [List.countP_cons, ← ih]
    by_cases h : idx (fi p) = x
    · rw [if_pos (by simp [h])]
      refine sn_upd (hlt p (by simp)) (fun i _ hne => ?_) 1 ?_
      · unfold tab
        rw [List.countP_cons, if_neg (by simp only [Bool.and_eq_true, beq_iff_eq]; rintro ⟨h2, _⟩; exact hne h2.symm), Nat.add_zero]
      · unfold tab
        rw [List.countP_cons, if_pos (by simp [h])]
    · rw [if_neg (by simp [h]), Nat.add_zero]
      refine sn_congr fun i _ => ?_
      unfold tab
      rw [List.countP_cons, if_neg (by simp [h]), Nat.add_zero]

theorem tot_tab {idx : Text → Nat} {m : Nat} : ∀ {ps : List Text}, (∀ p ∈ ps, idx (fi p) < m) → (∀ p ∈ ps, idx (bg p) < m) → tot m (tab idx ps) = ps.length
  | [], _, _ => sn_zero fun x _ => sn_zero fun y _ => rfl
  | p :: ps, h1, h2 => by
    rw [List.length_cons, ← tot_tab (ps := ps) (fun q hq => h1 q (by simp [hq])) (fun q hq => h2 q (by simp [hq]))]
    refine sn_upd (h2 p (by simp)) (fun i _ hne => ?_) 1 ?_
    · rw [out_tab h1, out_tab (fun q hq => h1 q (by simp [hq])), List.countP_cons, if_neg (by simp; exact fun h => hne h.symm), Nat.add_zero]
    · rw [out_tab h1, out_tab (fun q hq => h1 q (by simp [hq])), List.countP_cons, if_pos (by simp)]

/-- how many texts there are: the ways from all points -/
theorem many_eq {idx : Text → Nat} {m k : Nat} {S : Text → Prop} (hn : Numd idx m k S) {ps : List Text} (hp : Pcs k S ps) (h0 : ps ≠ []) :
    many ps = sn m (fun v => wy m (tot m (tab idx ps)) (tab idx ps) v) := by
  have hlen : ∀ y ∈ ps.map from_, y.length = k - 1 := by
    intro y hy
    obtain ⟨p, hpm, e⟩ := List.mem_map.mp hy
    rw [← e]; exact hn.len _ (hp.bg p hpm)
  obtain ⟨hs, hmem⟩ := sorted_spec hlen
  have hS : ∀ t ∈ begins ps, S t := by
    intro t ht
    obtain ⟨p, hpm, e⟩ := List.mem_map.mp ((hmem t).mp ht)
    rw [← e]; exact hp.bg p hpm
  have ht := tot_tab (idx := idx) (m := m) (ps := ps) (fun p h => hn.lt _ (hp.fi p h)) (fun p h => hn.lt _ (hp.bg p h))
  rw [ht]
  unfold many
  have e1 : (begins ps).map (ways ps.length ps) = (begins ps).map (fun t => wy m ps.length (tab idx ps) (idx t)) := by
    refine List.map_congr_left fun t h => ?_
    exact ways_eq hn _ ps t hp (hS t h)
  rw [e1, sum_idx (fun x => wy m ps.length (tab idx ps) x) (begins ps) hs.nodup (fun t h => hn.lt _ (hS t h))
    (fun s h t h' => hn.inj s t (hS s h) (hS t h'))]
  refine sn_congr fun x hx => ?_
  split
  · rfl
  · rename_i hno
    symm
    obtain ⟨n, hnl⟩ : ∃ n, ps.length = n + 1 := ⟨ps.length - 1, by have := List.length_pos_iff.mpr h0; omega⟩
    rw [hnl, wy]
    refine sn_zero fun y _ => ?_
    rw [if_neg]
    rw [tab_pos]
    rintro ⟨p, hpm, h1, _⟩
    exact hno ⟨from_ p, (hmem _).mpr (List.mem_map.mpr ⟨p, hpm, rfl⟩), h1⟩

end Tp
end
section
set_option autoImplicit false
namespace Tp

/-! ### how great the numbers grow -/
theorem fac_le : ∀ {n : Nat}, n ≤ 128 → fac n ≤ 2 ^ (7 * n)
  | 0, _ => by simp [fac]
  | n + 1, h => by
    have ih := fac_le (n := n) (by omega)
    show (n + 1) * fac n ≤ _
    rw [show 7 * (n + 1) = 7 + 7 * n by omega, Nat.pow_add]
    exact Nat.mul_le_mul (by omega) ih
theorem pr_le {f g : Nat → Nat} : ∀ {n : Nat}, (∀ i, i < n → f i ≤ g i) → pr n f ≤ pr n g
  | 0, _ => Nat.le_refl _
  | n + 1, h => by
    unfold pr; exact Nat.mul_le_mul (pr_le fun i hi => h i (by omega)) (h n (by omega))
theorem pr_pow (c k : Nat) (f : Nat → Nat) : ∀ n, pr n (fun i => c ^ (k * f i)) = c ^ (k * sn n f)
  | 0 => by simp [pr, sn]
  | n + 1 => by unfold pr sn; rw [pr_pow c k f n, ← Nat.pow_add, ← Nat.mul_add]
theorem pr_mono {f : Nat → Nat} (hf : ∀ i, 0 < f i) : ∀ {n k : Nat}, k ≤ n → pr k f ≤ pr n f
  | 0, k, h => by have : k = 0 := by omega
                  subst this; exact Nat.le_refl _
  | n + 1, k, h => by
    by_cases e : k = n + 1
    · subst e; exact Nat.le_refl _
    · exact Nat.le_trans (pr_mono hf (n := n) (k := k) (by omega)) (by show pr n f ≤ pr n f * f n; exact Nat.le_mul_of_pos_right _ (hf n))
theorem sn_mono {f g : Nat → Nat} : ∀ {n : Nat}, (∀ i, i < n → f i ≤ g i) → sn n f ≤ sn n g
  | 0, _ => Nat.le_refl _
  | n + 1, h => by
    unfold sn; exact Nat.add_le_add (sn_mono fun i hi => h i (by omega)) (h n (by omega))
theorem sn_upto {f : Nat → Nat} : ∀ {n k : Nat}, k ≤ n → sn k f ≤ sn n f
  | 0, k, h => by have : k = 0 := by omega
                  subst this; exact Nat.le_refl _
  | n + 1, k, h => by
    by_cases e : k = n + 1
    · subst e; exact Nat.le_refl _
    · exact Nat.le_trans (sn_upto (n := n) (k := k) (by omega)) (by show sn n f ≤ sn n f + f n; exact Nat.le_add_right _ _)

theorem out_le_tot {m : Nat} {A : Tab} {x : Nat} (hx : x < m) : out m A x ≤ tot m A := sn_le (f := out m A) x hx
theorem tab_le_out {m : Nat} {A : Tab} {x y : Nat} (hy : y < m) : A x y ≤ out m A x := sn_le (f := fun y => A x y) y hy

theorem row_le {m : Nat} {A : Tab} {x j : Nat} (hx : x < m) (hj : j ≤ m) (ht : tot m A ≤ 128) : pr j (fun y => fac (A x y)) ≤ 2 ^ (7 * out m A x) := by
  have h1 : pr j (fun y => fac (A x y)) ≤ pr m (fun y => fac (A x y)) := pr_mono (fun _ => fac_pos _) hj
  refine Nat.le_trans h1 ?_
  have h2 : pr m (fun y => fac (A x y)) ≤ pr m (fun y => 2 ^ (7 * A x y)) := pr_le fun y hy => fac_le (Nat.le_trans (tab_le_out hy) (Nat.le_trans (out_le_tot hx) ht))
  rw [pr_pow] at h2
  exact h2
theorem swp_le {m : Nat} {A : Tab} {i : Nat} (hi : i ≤ m) (ht : tot m A ≤ 128) : pr i (fun x => pr m (fun y => fac (A x y))) ≤ 2 ^ (7 * tot m A) := by
  refine Nat.le_trans (pr_mono (fun _ => pr_pos fun _ _ => fac_pos _) hi) ?_
  have h2 : pr m (fun x => pr m (fun y => fac (A x y))) ≤ pr m (fun x => 2 ^ (7 * out m A x)) := pr_le fun x hx => row_le hx (Nat.le_refl _) ht
  rw [pr_pow] at h2
  exact h2
theorem outs_le {m : Nat} {A : Tab} {i : Nat} (hi : i ≤ m) (ht : tot m A ≤ 128) : pr i (fun x => fac (out m A x - 1)) ≤ 2 ^ (7 * tot m A) := by
  refine Nat.le_trans (pr_mono (fun _ => fac_pos _) hi) ?_
  have h2 : pr m (fun x => fac (out m A x - 1)) ≤ pr m (fun x => 2 ^ (7 * out m A x)) := pr_le fun x hx => by
    have h3 := out_le_tot (A := A) hx
    exact Nat.le_trans (fac_le (by omega)) (Nat.pow_le_pow_right (by decide) (by omega))
  rw [pr_pow] at h2
  exact h2

/-! ### the elimination's numbers -/
structure Elim (d : Int) (s : Nat) (R : Mat) (q : Int) : Prop where
  pos : 0 < q
  dv : Dv R q
  zm : Zm s R
  diag : ∀ x, x < s → R x x ≤ q * d

theorem Zm.abs {s : Nat} {R : Mat} (h : Zm s R) {x y : Nat} (hx : x < s) (hy : y < s) : - R x x ≤ R x y ∧ R x y ≤ R x x := by
  have hr := h.rows x hx
  have hd : sm s (R x) ≤ R x x := by
    have : sm s (R x) = sm s (fun i => (if i = x then R x x else 0) + (if i = x then 0 else R x i)) := sm_congr fun i _ => by
      by_cases e : i = x
      · subst e; simp
      · simp [e]
    rw [this, sm_add, sm_one (f := fun i => if i = x then R x x else 0) hx (fun i _ hne => by simp [hne])]
    have : sm s (fun i => if i = x then 0 else R x i) ≤ 0 := sm_ge_head fun i hi => by
      by_cases e : i = x
      · simp [e]
      · simp only [if_neg e]; exact h.off x i hx hi (fun z => e z.symm)
    simp; omega
  by_cases e : x = y
  · subst e; omega
  · have h1 := h.off x y hx hy e
    have hd2 : sm s (R x) ≤ R x x + R x y := by
      have : sm s (R x) = sm s (fun i => ((if i = x then R x x else 0) + (if i = y then R x y else 0)) + (if i = x then 0 else if i = y then 0 else R x i)) := sm_congr fun i _ => by
        by_cases e1 : i = x
        · subst e1; simp [e]
        · by_cases e2 : i = y
          · subst e2; simp [e1]
          · simp [e1, e2]
      rw [this, sm_add, sm_add, sm_one (f := fun i => if i = x then R x x else 0) hx (fun i _ hne => by simp [hne]),
        sm_one (f := fun i => if i = y then R x y else 0) hy (fun i _ hne => by simp [hne])]
      have : sm s (fun i => if i = x then 0 else if i = y then 0 else R x i) ≤ 0 := sm_ge_head fun i hi => by
        by_cases e1 : i = x
        · simp [e1]
        · by_cases e2 : i = y
          · simp [e2]
          · simp only [if_neg e1, if_neg e2]; exact h.off x i hx hi (fun z => e1 z.symm)
      simp; omega
    omega

theorem Elim.head {d : Int} {s : Nat} {R : Mat} {q : Int} (h : Elim d (s + 1) R q) : 0 ≤ R 0 0 ∧ R 0 0 ≤ q * d := ⟨h.zm.head, h.diag 0 (by omega)⟩

theorem Elim.step {d : Int} {s : Nat} {R : Mat} {q : Int} (h : Elim d (s + 1) R q) (h0 : R 0 0 ≠ 0) : Elim d s (red R q) (R 0 0) := by
  have hh := h.head
  have hq := h.pos
  refine ⟨by omega, h.dv.step (by omega) h0, h.zm.step h.dv hq, fun x hx => ?_⟩
  have e := h.dv.exact (by omega) x x
  have a1 := h.zm.off (x + 1) 0 (by omega) (by omega) (by omega)
  have a2 := h.zm.off 0 (x + 1) (by omega) (by omega) (by omega)
  have a3 := h.diag (x + 1) (by omega)
  have b1 : 0 ≤ R (x + 1) 0 * R 0 (x + 1) := Int.mul_nonneg_of_nonpos_of_nonpos a1 a2
  have b2 : R 0 0 * R (x + 1) (x + 1) ≤ R 0 0 * (q * d) := Int.mul_le_mul_of_nonneg_left a3 hh.1
  have b3 : q * red R q x x ≤ q * (R 0 0 * d) := by
    rw [e]; unfold cond
    have : q * (R 0 0 * d) = R 0 0 * (q * d) := by grind
    omega
  exact Int.le_of_mul_le_mul_left b3 hq

theorem Elim.entry {d : Int} {s : Nat} {R : Mat} {q : Int} (h : Elim d s R q) {x y : Nat} (hx : x < s) (hy : y < s) : (R x y).natAbs ≤ (q * d).natAbs := by
  have h1 := h.zm.abs hx hy
  have h2 := h.diag x hx
  omega

theorem bare_le {d : Int} (hd : 1 ≤ d) : ∀ (s : Nat) (R : Mat) (q : Int), Elim d s R q → 0 ≤ bare s R q ∧ bare s R q ≤ q * d ^ s
  | 0, R, q, h => by
    have := h.pos
    simp only [bare, Int.pow_zero, Int.mul_one]
    omega
  | s + 1, R, q, h => by
    rw [bare]
    have hq := h.pos
    have hp : 0 < d ^ (s + 1) := Int.pow_pos (by omega)
    split
    · have := Int.mul_pos hq hp
      omega
    · rename_i h0
      obtain ⟨i1, i2⟩ := bare_le hd s (red R q) (R 0 0) (h.step h0)
      refine ⟨i1, Int.le_trans i2 ?_⟩
      have h1 := h.head.2
      have h2 : R 0 0 * d ^ s ≤ (q * d) * d ^ s := Int.mul_le_mul_of_nonneg_right h1 (Int.le_of_lt (Int.pow_pos (by omega)))
      have : (q * d) * d ^ s = q * d ^ (s + 1) := by rw [Int.pow_succ]; grind
      omega

theorem sub_elim {m : Nat} {A : Tab} {d : Nat} (ht : ∀ x, x < m → out m A x ≤ d) : Elim (d : Int) (m - 1) (sub m A) 1 := by
  refine ⟨by omega, Dv.one _, sub_zm m A, fun x hx => ?_⟩
  have h1 := ht (x + 1) (by omega)
  unfold sub lap
  have : dl (x + 1) (x + 1) = 1 := by simp [dl]
  rw [this]
  omega

theorem pow_le_two {d s : Nat} (hd : d ≤ 128) (hs : s ≤ 130) : d ^ s ≤ 2 ^ 910 := by
  have h1 : d ^ s ≤ 128 ^ s := Nat.pow_le_pow_left hd s
  have h2 : (128 : Nat) ^ s ≤ 128 ^ 130 := Nat.pow_le_pow_right (by decide) hs
  have h3 : (128 : Nat) ^ 130 = 2 ^ 910 := by
    rw [show (128 : Nat) = 2 ^ 7 by decide, ← Nat.pow_mul]
  omega

theorem bare_bits {m : Nat} {A : Tab} (hm : m ≤ 129) (ht : ∀ x, x < m → out m A x ≤ 128) : (bare (m - 1) (sub m A) 1).natAbs ≤ 2 ^ 910 := by
  obtain ⟨h1, h2⟩ := bare_le (d := ((128 : Nat) : Int)) (by omega) (m - 1) (sub m A) 1 (sub_elim ht)
  have h3 : (128 : Nat) ^ (m - 1) ≤ 2 ^ 910 := pow_le_two (by omega) (by omega)
  have h4 : (((128 : Nat) : Int)) ^ (m - 1) = ((128 ^ (m - 1) : Nat) : Int) := by rw [Int.natCast_pow]
  rw [h4] at h2
  omega

end Tp
end
section
set_option autoImplicit false
namespace Tp
open Kv168

/-! ### the points in the order in which they come, each once -/
def addp (L : List Text) (t : Text) : List Text := if t ∈ L then L else L ++ [t]
def pts : List Text → List Text → List Text
  | L, [] => L
  | L, p :: ps => pts (addp (addp L (bg p)) (fi p)) ps

theorem mem_addp {L : List Text} {t x : Text} : x ∈ addp L t ↔ x ∈ L ∨ x = t := by
  unfold addp
  split
  · rename_i h
    constructor
    · exact fun q => .inl q
    · rintro (q | rfl)
      · exact q
      · exact h
  · simp
theorem nodup_addp {L : List Text} {t : Text} (h : L.Nodup) : (addp L t).Nodup := by
  unfold addp
  split
  · exact h
  · rename_i hn
    rw [List.nodup_append]
    refine ⟨h, by simp, fun a ha b hb e => ?_⟩
    simp at hb
    subst hb; subst e
    exact hn ha
theorem len_addp (L : List Text) (t : Text) : (addp L t).length ≤ L.length + 1 := by
  unfold addp
  split
  · omega
  · simp
theorem mem_pts {x : Text} : ∀ {ps L : List Text}, x ∈ pts L ps ↔ x ∈ L ∨ ∃ p ∈ ps, x = bg p ∨ x = fi p
  | [], L => by simp [pts]
  | p :: ps, L => by
    rw [pts, mem_pts, mem_addp, mem_addp]
    constructor
    · rintro (((h | h) | h) | ⟨q, hq, h⟩)
      · exact .inl h
      · exact .inr ⟨p, by simp, .inl h⟩
      · exact .inr ⟨p, by simp, .inr h⟩
      · exact .inr ⟨q, by simp [hq], h⟩
    · rintro (h | ⟨q, hq, h⟩)
      · exact .inl (.inl (.inl h))
      · rcases List.mem_cons.mp hq with rfl | hq
        · rcases h with h | h
          · exact .inl (.inl (.inr h))
          · exact .inl (.inr h)
        · exact .inr ⟨q, hq, h⟩
theorem nodup_pts : ∀ {ps L : List Text}, L.Nodup → (pts L ps).Nodup
  | [], _, h => h
  | p :: ps, L, h => by
    rw [pts]
    exact nodup_pts (nodup_addp (nodup_addp h))
theorem len_pts : ∀ (ps L : List Text), (pts L ps).length ≤ L.length + 2 * ps.length
  | [], L => by simp [pts]
  | p :: ps, L => by
    have h1 := len_pts ps (addp (addp L (bg p)) (fi p))
    have h2 := len_addp (addp L (bg p)) (fi p)
    have h3 := len_addp L (bg p)
    rw [pts, List.length_cons]
    omega
theorem pts_snoc (p : Text) : ∀ (ps L : List Text), pts L (ps ++ [p]) = addp (addp (pts L ps) (bg p)) (fi p)
  | [], _ => rfl
  | _ :: ps, _ => pts_snoc p ps _
theorem pts_take {ps L : List Text} {i : Nat} {p : Text} (h : ps[i]? = some p) : pts L (ps.take (i + 1)) = addp (addp (pts L (ps.take i)) (bg p)) (fi p) := by
  rw [List.take_add_one, h]
  exact pts_snoc p _ _

/-- a point's number -/
def ix (ps : List Text) (t : Text) : Nat := (pts [] ps).idxOf t
def np (ps : List Text) : Nat := (pts [] ps).length
theorem bg_in {ps : List Text} {p : Text} (h : p ∈ ps) : bg p ∈ pts [] ps := mem_pts.mpr (.inr ⟨p, h, .inl rfl⟩)
theorem fi_in {ps : List Text} {p : Text} (h : p ∈ ps) : fi p ∈ pts [] ps := mem_pts.mpr (.inr ⟨p, h, .inr rfl⟩)
theorem ix_lt {ps : List Text} {t : Text} (h : t ∈ pts [] ps) : ix ps t < np ps := List.idxOf_lt_length_of_mem h
theorem ix_inj {ps : List Text} {s t : Text} (hs : s ∈ pts [] ps) (ht : t ∈ pts [] ps) (h : ix ps s = ix ps t) : s = t := by
  have e1 := List.getElem_idxOf (ix_lt hs)
  have e2 := List.getElem_idxOf (ix_lt ht)
  unfold ix at h
  rw [← e1, ← e2]
  congr 1
theorem numd {ps : List Text} {k : Nat} (h2 : 2 ≤ k) (hl : ∀ p ∈ ps, p.length = k) : Numd (ix ps) (np ps) k (fun t => t ∈ pts [] ps) where
  two := h2
  len := fun t ht => by
    rcases mem_pts.mp ht with h | ⟨p, hp, h⟩
    · simp at h
    · have := hl p hp
      rcases h with rfl | rfl
      · simp [bg]; omega
      · simp [fi]; omega
  lt := fun t ht => ix_lt ht
  inj := fun s t hs ht h => ix_inj hs ht h
theorem pcs {ps : List Text} {k : Nat} (hl : ∀ p ∈ ps, p.length = k) (ha : ∀ p ∈ ps, ∀ a ∈ p, a < 4) : Pcs k (fun t => t ∈ pts [] ps) ps :=
  ⟨hl, ha, fun _ hp => bg_in hp, fun _ hp => fi_in hp⟩
theorem np_pos {ps : List Text} (h : ps ≠ []) : 1 ≤ np ps := by
  obtain ⟨p, hp⟩ := List.exists_mem_of_ne_nil ps h
  have := ix_lt (bg_in hp)
  omega
theorem np_le (ps : List Text) : np ps ≤ 2 * ps.length := by
  have := len_pts ps []
  unfold np
  simp at this
  exact this
theorem touched {ps : List Text} {x : Nat} (hx : x < np ps) : 0 < out (np ps) (tab (ix ps) ps) x + inn (np ps) (tab (ix ps) ps) x := by
  have hm : (pts [] ps)[x]'hx ∈ pts [] ps := List.getElem_mem hx
  have hi : ix ps ((pts [] ps)[x]'hx) = x := by
    unfold ix
    exact (nodup_pts List.nodup_nil).idxOf_getElem x hx
  rw [out_tab (fun p hp => ix_lt (fi_in hp)), inn_tab (fun p hp => ix_lt (bg_in hp))]
  rcases mem_pts.mp hm with h | ⟨p, hp, h⟩
  · simp at h
  · rcases h with h | h
    · have : 0 < ps.countP (fun p => ix ps (bg p) == x) := List.countP_pos_iff.mpr ⟨p, hp, by rw [← h, hi]; simp⟩
      omega
    · have : 0 < ps.countP (fun p => ix ps (fi p) == x) := List.countP_pos_iff.mpr ⟨p, hp, by rw [← h, hi]; simp⟩
      omega
theorem tot_ps (ps : List Text) : tot (np ps) (tab (ix ps) ps) = ps.length := tot_tab (fun _ hp => ix_lt (fi_in hp)) (fun _ hp => ix_lt (bg_in hp))
theorem tab_take {idx : Text → Nat} {ps : List Text} {i : Nat} {p : Text} (h : ps[i]? = some p) (x y : Nat) :
    tab idx (ps.take (i + 1)) x y = inc (tab idx (ps.take i)) (idx (bg p)) (idx (fi p)) x y := by
  rw [List.take_add_one, h]
  unfold tab inc
  simp only [Option.toList, List.countP_append, List.countP_cons, List.countP_nil]
  by_cases e : x = idx (bg p) ∧ y = idx (fi p)
  · obtain ⟨rfl, rfl⟩ := e
    simp
  · rw [if_neg e, if_neg]
    · rfl
    · simp only [Bool.and_eq_true, beq_iff_eq]
      rintro ⟨h1, h2⟩
      exact e ⟨h1.symm, h2.symm⟩
theorem tot_inc {m : Nat} {A : Tab} {a b : Nat} (ha : a < m) (hb : b < m) : tot m (inc A a b) = tot m A + 1 :=
  sn_upd ha (fun i _ hne => out_inc_off hne) 1 (out_inc_at hb)
/-- how many texts have the pieces -/
theorem many_ps {ps : List Text} {k : Nat} (h2 : 2 ≤ k) (h0 : ps ≠ []) (hl : ∀ p ∈ ps, p.length = k) (ha : ∀ p ∈ ps, ∀ a ∈ p, a < 4) :
    many ps = sn (np ps) (fun v => wy (np ps) (tot (np ps) (tab (ix ps) ps)) (tab (ix ps) ps) v) := many_eq (numd h2 hl) (pcs hl ha) h0
end Tp
end
section
set_option autoImplicit false
namespace Tp
open Kv168

/-! ### what is due -/
theorem due_many {k : Int} {pieces : List (List Int)} :
    PyKv168.tp_many k pieces = if good pieces.length k.toNat (Kv168Neutral.piecesOf (pieces.map Kv168Neutral.nats) k.toNat) then [0, (many (Kv168Neutral.piecesOf (pieces.map Kv168Neutral.nats) k.toNat) : Int)] else [-22] := by
  have e : PyKv168.tp_many k pieces = Kv168Neutral.row (ans (.many (Kv168Neutral.piecesOf (pieces.map Kv168Neutral.nats) k.toNat) (pieces.map Kv168Neutral.nats).length k.toNat)) := rfl
  rw [e, List.length_map]
  have e2 : ∀ (ps : List Text) (n k : Nat), ans (.many ps n k) = if good n k ps then { value := 0, number := some (Kv168.many ps) } else no EINVAL := fun _ _ _ => rfl
  rw [e2]
  by_cases h : good pieces.length k.toNat (Kv168Neutral.piecesOf (pieces.map Kv168Neutral.nats) k.toNat) = true
  · rw [if_pos h, if_pos h]
    rfl
  · rw [if_neg h, if_neg h]
    rfl
/-- what is asked: the pieces' lengths -/
theorem asked_many {k : Int} {pieces : List (List Int)} (h : PyKv168.tp_many_asked k pieces = true) (hs : okSize pieces.length k.toNat = true) : ∀ p ∈ pieces, p.length = k.toNat := by
  unfold PyKv168.tp_many_asked Kv168Neutral.asked Kv168Neutral.askedOne at h
  simp only [Bool.and_eq_true] at h
  have h2 : (match Kv168Neutral.callOf ([[0, k]] ++ pieces) with
    | some c => Kv168Neutral.askedCall c
    | none => false) = true := h.2
  have e : Kv168Neutral.callOf ([[0, k]] ++ pieces) = some (.many (Kv168Neutral.piecesOf (pieces.map Kv168Neutral.nats) k.toNat) (pieces.map Kv168Neutral.nats).length k.toNat) := rfl
  rw [e] at h2
  have h3 : (decide ((pieces.map Kv168Neutral.nats).length < 2 ^ 32 ∧ k.toNat < 2 ^ 32) && Kv168Neutral.piecesOk (pieces.map Kv168Neutral.nats).length k.toNat (Kv168Neutral.piecesOf (pieces.map Kv168Neutral.nats) k.toNat)) = true := h2
  simp only [Bool.and_eq_true] at h3
  have h4 := h3.2
  unfold Kv168Neutral.piecesOk Kv168Neutral.piecesOf at h4
  rw [List.length_map, if_pos hs] at h4
  simp only [Bool.and_eq_true, List.all_eq_true] at h4
  intro p hp
  have := (h4.2 (Kv168Neutral.nats p) (List.mem_map.mpr ⟨p, hp, rfl⟩)).1
  simpa [Kv168Neutral.nats] using this
theorem good_iff {n k : Nat} {ps : List Text} : good n k ps = true ↔ okSize n k = true ∧ ∀ p ∈ ps, ∀ a ∈ p, a < 4 := by
  unfold good isText LETTERS
  simp
theorem okSize_iff {n k : Nat} : okSize n k = true ↔ (1 ≤ n ∧ n ≤ 64) ∧ (2 ≤ k ∧ k ≤ 48) := by
  unfold okSize PIECES LONGEST
  simp [and_assoc]
end Tp
end
section
set_option Elab.async false
set_option linter.all false
set_option maxRecDepth 100000
namespace L2
open PySem PySem.Spec PyProof.Rows

/-! ### products and divisions by their bits -/
section
variable {X : Cx}
theorem op_mulB : OpR X (binaryOp .Mult) (rI IntMulOk fun i j => .int (i * j)) := opI fun _ _ _ _ _ _ _ hc q => mul_int q hc
theorem iop_mulB : OpR X (inplaceOp .Mult) (rI IntMulOk fun i j => .int (i * j)) := opI fun _ _ _ _ _ _ _ hc q => imul_int q hc
theorem op_fdivB : OpR X (binaryOp .FloorDiv) (rI (fun _ j => j ≠ 0 ∧ j.natAbs.log2 < 9000) fun i j => .int (i.fdiv j)) :=
  opI fun _ _ _ _ _ _ _ hc q => floordiv_int hc.1 q (.inl (PyProof.noPylong_of_log2 hc.2))
theorem mulOk {a b : Int} {m n : Nat} (ha : a.natAbs < 2 ^ m) (hb : b.natAbs < 2 ^ n) (h : m + n ≤ 134217728) : IntMulOk a b :=
  IntMulOk.of_le (intBits_le_iff.mpr ha) (intBits_le_iff.mpr hb) h

/-! ### xs[i], by values, for an augmented store -/
def rGetL (K : PySem.W.Frag) : V → V → Hp → VK → Prop := fun o i H Q => ∃ p xs, ∃ j : Nat, ∃ v, o = .ref p ∧ i = .int j ∧ SqL K H p xs ∧ xs[j]? = some v ∧ Q v H
theorem get_list : PGet X (rGetL X.K) := by
  intro pins s σ H o i ov iv Q I ro ri h
  obtain ⟨p, xs, j, v, rfl, rfl, hq, hv, q⟩ := h
  cases ro
  obtain ⟨t, rfl⟩ := ri
  obtain ⟨its, r, pl, hz⟩ := I.list hq
  obtain ⟨w, ew, rw'⟩ := r.get hv
  have hl := r.length
  have hn := line63
  have hj : j < xs.length := (List.getElem?_eq_some_iff.mp hv).1
  exact wpAny_getItem_list pl.isList (by omega) (by omega) (by simpa using ew) ⟨v, H, I, rw', q⟩
end

/-! ### dicts whose keys are tuples: len, setdefault -/
section
variable {prog : Program} {w : World} {K : Type} [DecidableEq K] {knd : HeapKind prog w K} {A : Around} {E : Value → Shared → Prop} {s : Shared}
theorem dictSetDefault_heap {d a : Addr} {xs : List (K × Addr × Value)} {k : K} {v : Value} {Q : Value → Shared → Prop} (hu : knd.room A) (hkey : knd.is s.heap k a) (hm : s.heap.DictOfH knd d xs)
    (h1 : ∀ p, atKey xs k = some p → Q p.2 { s with toks := s.toks + knd.draws k })
    (h2 : atKey xs k = none → ∀ h', h'.DictOfH knd d (storedH xs k a v) → Heap.SameBut d s.heap h' → Q v { s with heap := h', toks := s.toks + knd.draws k })
    (hsz : xs.length ≤ sizeLine) : wpAny (model prog w) A (dictSetDefault d (.ref a) v) Q E s := by
  obtain ⟨o, es, ep, ho, hc, hd, he, his, hn⟩ := hm
  unfold dictSetDefault
  try with_reducible refine wpAny_holding ?_
  refine wpAny_bind (knd.pyHash hu hkey ?_)
  refine wpAny_bind (wpAny_dictFind_heap (s := { s with toks := s.toks + knd.draws k }) hu hkey ho hd he his hn ?_ ?_)
  · intro hno
    have hnot : k ∉ xs.map (·.1) := not_mem_keys_of_get hno
    refine wpAny_bind (wpAny_rule (wpAny_bind (wpAny_updateDictKeys (hz := by have e := size_of_entries he; omega) (s := { s with toks := s.toks + knd.draws k }) ho hd (wpAny_pure (h2 (atKey_none_of_get hno) _ ⟨_, _, ep + 1, Heap.get?_update_self _ ho (Obj.isFreed_of_dict (Obj.data_mapDictKeys hd _)),
      hc.mapDictKeys _, Obj.data_mapDictKeys hd _, ?_, ?_, ?_⟩ (Heap.SameBut.update ..))))))
    · rw [storedH_new (atKey_none_of_get hno)]
      simp [he, entryOfKey]
    · rw [storedH_new (atKey_none_of_get hno)]
      intro x hx
      rcases List.mem_append.mp hx with hx | hx
      · exact knd.keeps (his x hx) ho hd (Heap.SameBut.update ..)
      · simp only [List.mem_singleton] at hx
        subst hx
        exact knd.keeps hkey ho hd (Heap.SameBut.update ..)
    · rw [storedH_new (atKey_none_of_get hno)]
      rw [List.map_append, List.nodup_append]
      refine ⟨hn, by simp, ?_⟩
      intro x hx y hy
      simp only [List.map_cons, List.map_nil, List.mem_singleton] at hy
      subst hy
      exact fun e => hnot (e ▸ hx)
  · intro j p hj
    have hp := atKey_of_get hn hj
    refine wpAny_bind (wpAny_dictEntries (s := { s with toks := s.toks + knd.draws k }) ho hd ?_)
    rw [entry_at he j, hj]
    exact wpAny_bind (wpAny_rule (wpAny_pure (h1 p hp)))
theorem meetsH_setdefault (knd : HeapKind prog w K) (d a : Addr) (hd : (d == sysModules) = false) (dflt : Value) :
    MeetsIn prog w (Builtin.«dict.setdefault» ⟨[.ref d, .ref a, dflt], []⟩) (fun A R s => knd.room A.in1 ∧ ∃ k xs, knd.is s.heap k a ∧ s.heap.DictOfH knd d xs ∧ xs.length ≤ sizeLine ∧
      (∀ p, atKey xs k = some p → R (.ok (.ret p.2)) { s with toks := s.toks + knd.draws k }) ∧
      (atKey xs k = none → ∀ h', h'.DictOfH knd d (storedH xs k a dflt) → Heap.SameBut d s.heap h' → R (.ok (.ret dflt)) { s with heap := h', toks := s.toks + knd.draws k })) :=
  .of_wp fun A R s ⟨hu, k, xs, hkey, hm, hz, h1, h2⟩ => by
    unfold Builtin.«dict.setdefault»
    refine wpAny_bind ?_
    unfold Builtin.Dict.keyAndDefault
    refine wpAny_bind (wpAny_notOrdered_dict hm.typeIs ?_)
    show wpAny _ _ (pure (d, Value.ref a, some dflt)) _ _ s
    refine wpAny_pure ?_
    show wpAny _ _ (if (d == sysModules) = true then _ else (dictSetDefault d (.ref a) dflt >>= _)) _ _ s
    rw [if_neg (by rw [hd]; exact Bool.false_ne_true)]
    exact wpAny_bind (dictSetDefault_heap hu hkey hm (fun p hp => wpAny_pure ⟨p.2, rfl, h1 p hp⟩) (fun hn h' hm' hs' => wpAny_pure ⟨dflt, rfl, h2 hn h' hm' hs'⟩) hz)
theorem meetsH_len (knd : HeapKind prog w K) (d : Addr) (hd : (d == sysModules) = false) :
    MeetsIn prog w (Builtin.«dict.__len__» ⟨[.ref d], []⟩) (fun _ R s => ∃ xs, s.heap.DictOfH knd d xs ∧ R (.ok (.ret (.int xs.length s.toks))) { s with toks := s.toks + 1 }) :=
  .of_wp fun A R s ⟨xs, hm, h⟩ => by
    obtain ⟨o, es, ep, ho, hc, hdat, he, _⟩ := hm
    show wpAny _ _ (dictSize d >>= _) _ _ s
    unfold dictSize
    refine wpAny_bind (wpAny_bind (wpAny_dictEntries ho hdat (wpAny_pure ?_)))
    show wpAny _ _ (Builtin.Dict.pendingCount d >>= _) _ _ s
    refine wpAny_bind (wpAny_pendingCount_other hd ?_)
    refine wpAny_ret_mkInt ?_
    have : es.size = xs.length := size_of_entries he
    rw [Nat.add_zero, this]; exact h
theorem lenH_body {d : Addr} {xs : List (K × Addr × Value)} {Q : Value → Shared → Prop} (hd : (d == sysModules) = false) (hm : s.heap.DictOfH knd d xs) (hfit : (xs.length : Int) < 2 ^ 63)
    (h : Q (.int xs.length (s.toks + 1)) { s with toks := s.toks + 1 + 1 }) : wpAny (model prog w) A (Builtin.«len» ⟨[.ref d], []⟩) (fun fin s' => ∃ r, fin = .done (.ret r) ∧ Q r s') E s := by
  unfold Builtin.«len»
  refine wpAny_bind (m := oneArg "len" _) (wpAny_pure ?_)
  refine wpAny_bind (m := callSpecial? (.ref d) (Str.ofString "__len__")) (wpAny_callSpecial?_slot (name := Str.ofString "__len__") hm.typeIs F.slot_dict_len
    (call_meetsIn F.slot_dict_len hm.typeIs F.entry_dict_len (F.args_dict_len_1 _) (meetsH_len knd d hd) ⟨xs, hm, ?_⟩))
  show wpAny _ _ _ _ _ { s with toks := s.toks + 1 }
  refine wpAny_bind (wpAny_holding (wpAny_pure ?_))
  refine wpAny_bind (wpAny_letGo ?_)
  show wpAny _ _ (if ((xs.length : Nat) : Int) < 0 then _ else _) _ _ _
  rw [if_neg (by omega)]
  show wpAny _ _ (if ((xs.length : Nat) : Int) ≥ 2 ^ 63 then _ else _) _ _ _
  rw [if_neg (by omega)]
  exact wpAny_bind (wpAny_mkInt (wpAny_pure ⟨_, rfl, h⟩))
theorem lenH_call {d : Addr} {xs : List (K × Addr × Value)} {Q : Value → Shared → Prop} (hd : (d == sysModules) = false) (hm : s.heap.DictOfH knd d xs) (hfit : (xs.length : Int) < 2 ^ 63)
    (h : Q (.int xs.length (s.toks + 1)) { s with toks := s.toks + 1 + 1 }) : wpAny (model prog w) A (call (.builtin "len") [.ref d]) Q E s :=
  Calls.call_function_entry kind_len plain_len entry_len (args_len1 _) (lenH_body hd hm hfit h)
end
section
variable {X : Cx}
/-- len of a dict of tuple keys, locked or not -/
theorem call_lenT : CallR X (.builtin "len") (fun xs H Q => ∃ a kvs, xs = [V.ref a] ∧ Rd H a (.dT kvs) ∧ Q (.int kvs.length) H) := by
  intro pins s σ H xs us Q I r h
  obtain ⟨a, kvs, rfl, ha, q⟩ := h
  obtain ⟨u, rfl, ru⟩ := vals1 r
  cases ru
  obtain ⟨z, hd, ys, rel, dd⟩ := dt_rd I.hok ha
  have hl : kvs.length = ys.length := Paired.length rel
  refine lenH_call hd dd (by rw [← hl]; rw [sizeLine_eq] at z; omega) ?_
  rw [← hl]
  exact ⟨.int kvs.length, H, I.tok _, ⟨_, rfl⟩, q⟩
/-- d.setdefault(key, v): the key a tuple -/
def rSetDef : V → List V → Hp → VK → Prop := fun x vs H Q => ∃ a b kvs k v, x = .ref a ∧ vs = [.ref b, v] ∧ H a = some (.dT kvs) ∧ H b = some (.tup (k.map kV)) ∧ kvs.length < sizeLine ∧
  (∀ z, valV kvs k = some z → Q z H) ∧ (valV kvs k = none → Q v (upd H a (.dT (putK kvs k v))))
theorem mt_setdef (hu : X.A.units + 1 < cLine) : MtR X "dict.setdefault" rSetDef := by
  intro pins s σ H x xs v us Q I rx rv h
  obtain ⟨a, b, kvs, k, z, rfl, rfl, e, eb, hl, h1, h2⟩ := h
  cases rx
  obtain ⟨u1, u2, rfl, r1, r2⟩ := rv.two
  cases r1
  obtain ⟨hz, hd, ys, rel, dd⟩ := dt_rd I.hok (.inl e)
  have hlen : kvs.length = ys.length := Paired.length rel
  refine call_meetsIn PySem.F.slot_dict_setdefault dd.typeIs PySem.F.entry_dict_setdefault (PySem.F.args_dict_setdefault_3 _ _ _) (meetsH_setdefault (tupleKind (mixKind X.prog X.w)) a b hd u2)
    ⟨tupleKind_room_in1 hu, k, ys, key_of I.hok eb, dd, by rw [← hlen]; exact hz, fun p hp => ?_, fun hn h' dd' hs => ?_⟩
  · have q := rel.val k
    rw [hp] at q
    obtain ⟨y, hy⟩ : ∃ y, valV kvs k = some y := by
      cases e2 : valV kvs k with
      | none => rw [e2] at q; exact False.elim q
      | some y => exact ⟨y, rfl⟩
    rw [hy] at q
    exact ⟨y, H, I.tok _, q, h1 y hy⟩
  · have hv : valV kvs k = none := by
      have q := rel.val k
      rw [hn] at q
      cases e2 : valV kvs k with
      | none => rfl
      | some y => rw [e2] at q; exact False.elim q
    have hll : (putK kvs k z).length ≤ sizeLine := by have := length_putK kvs k z; omega
    obtain ⟨q, es, ep, hq, g2, g3, g4, _, g5⟩ := dd'
    refine ⟨z, upd H a (.dT (putK kvs k z)), d_write (ob := .dT (putK kvs k z)) I (by rw [e]; exact True.intro) hs ⟨q, hq⟩ ⟨hll, hd, _, (rel.put k eb r2).keeps fun c ws ec => ?_, q, es, ep, hq, g2, g3, g4, g5⟩, r2, h2 hv⟩
    rw [upd_ne (ne_of ec e (fun z => nomatch z))]
    exact ec
end
end L2
end
section
set_option Elab.async false
set_option linter.all false
set_option maxRecDepth 100000
namespace Pg
open PySem L2
def top (i : Nat) : Stmt := PySem.Challenge.pw_cutpieces_s02_tp_text.main.body.getD i (.Pass ⟨0, 0, 0, 0⟩)
/-- a def of the text that may be called -/
structure Fc (P : Program) (w : World) (K : PySem.W.Frag) (mg : Str → Option Value) (base : Heap) (k : Nat) (x : Str) (ps : List Str) (sp : Sp) : Prop where
  ex : ∃ f fd, FnOk P w K mg base CX0 k f fd ps sp ∧ mg x = some (.ref f) ∧ PySem.W.keepIn K (.ref f) = true ∧ Binds K fd ps []
theorem pe_fc {X : Cx} {k : Nat} {x : Str} {ps : List Str} {sp : Sp} {p pos : Pos} {e : Expr} {es : List Expr} {t : TA} (G : Fc X.prog X.w X.K X.mg X.base k x ps sp) (hr : Room k X.A) (hg : Gl X x)
    (ha : PA X (e :: es) t) (hdb : (x == ("__debug__" : Str)) = false := by decide) (he : starEach (e :: es) X.env = (false, eval e X.env) :: starEach es X.env := by rfl) (hpl : (backTo pos (starEach es X.env)).any (·.1) = false := by rfl) :
    PE X (.Call (.Name x p) (e :: es) [] pos) (tCall sp [] E0 t) := by
  obtain ⟨f, fd, F, hm, hk, hb⟩ := G.ex
  exact pe_call F hr hg hm hk hb .nil pass0 ha hdb he hpl
/-- the names that the text leans on and does not bind -/
structure Txt (mg : Str → Option Value) : Prop where
  len : mg "len" = none
  sum : mg "sum" = none
  range : mg "range" = none
  max : mg "max" = none
  all : mg "all" = none
  abs : mg "abs" = none
  tuple : mg "tuple" = none
  list : mg "list" = none
  notTold : ∃ u, mg "NOT_AS_TOLD" = some u ∧ RelV (.int (-22)) u
  mostP : ∃ u, mg "MOST_PIECES" = some u ∧ RelV (.int 64) u
  leastL : ∃ u, mg "LEAST_LENGTH" = some u ∧ RelV (.int 2) u
  mostL : ∃ u, mg "MOST_LENGTH" = some u ∧ RelV (.int 48) u
  mostA : ∃ u, mg "MOST_LETTER" = some u ∧ RelV (.int 3) u
theorem yes {σ2 : St} {H2 : Hp} {A B : Hp → Prop} (h : A H2) : tYes σ2 H2 (fun b H3 => if b = true then A H3 else B H3) := by
  show if true = true then A H2 else B H2
  rw [if_pos rfl]; exact h
/-! ### heaps -/
theorem Same.new {H : Hp} {p : Addr} {o : HO} (hp : H p = none) : Same H (upd H p o) := fun b u e => by
  rw [upd_ne (ne_of_none e hp)]; exact e
theorem Same.put {H H' : Hp} {p : Addr} {o : HO} (s : Same H H') (hp : H p = none) : Same H (upd H' p o) := fun b u e => by
  rw [upd_ne (ne_of_none e hp)]; exact s b u e
end Pg
end
section
set_option Elab.async false
set_option linter.all false
set_option maxRecDepth 100000
set_option exponentiation.threshold 10
namespace Pg
open PySem L2 PyProof.Rows
/-! ### what is as told: of k, of how many, of letters -/
abbrev sLen : Stmt := top 9
abbrev sAmt : Stmt := top 10
abbrev sLtr : Stmt := top 11
def iv (t : List Nat) : List V := t.map fun (n : Nat) => V.int (n : Int)
theorem iv_len (t : List Nat) : (iv t).length = t.length := by simp [iv]
theorem iv_ints (t : List Nat) : iv t = (t.map fun n : Nat => (n : Int)).map V.int := by
  unfold iv
  rw [List.map_map]
  rfl
theorem max_text {p : List Nat} {mx : Int} (h1 : mx ∈ p.map fun n : Nat => (n : Int)) (h2 : ∀ y, y ∈ (p.map fun n : Nat => (n : Int)) → y ≤ mx) : decide (mx ≤ 3) = Kv168.isText p := by
  unfold Kv168.isText Kv168.LETTERS
  by_cases h : mx ≤ 3
  · rw [decide_eq_true h]
    symm
    rw [List.all_eq_true]
    intro a ha
    have := h2 (a : Int) (List.mem_map.mpr ⟨a, ha, rfl⟩)
    exact decide_eq_true (by omega)
  · rw [decide_eq_false h]
    symm
    rw [List.all_eq_false]
    obtain ⟨a, ha, e⟩ := List.mem_map.mp h1
    refine ⟨a, ha, ?_⟩
    simp only [decide_eq_true_eq]
    have e : (a : Int) = mx := e
    omega
def spLen : Sp := fun vs H Q _ => ∃ k : Nat, vs = [.int k] ∧ Q (.bl (decide (2 ≤ k ∧ k ≤ 48))) H
def spAmt : Sp := fun vs H Q _ => ∃ z : Int, vs = [.int z] ∧ Q (.bl (decide (1 ≤ z ∧ z ≤ 64))) H
def spLtr (K : PySem.W.Frag) : Sp := fun vs H Q _ => ∃ (a : Addr) (t : List Nat), vs = [.ref a] ∧ SqL K H a (iv t) ∧ t ≠ [] ∧ Q (.bl (Kv168.isText t)) H
section
variable {P : Program} {w : World} {K : PySem.W.Frag} {mg : Str → Option Value} {base : Heap}
theorem scLen : FnScope ["k"] ["k"] (defScope sLen) := ⟨rfl, rfl, rfl, by decide +kernel, rfl, by decide +kernel, by decide +kernel⟩
theorem scAmt : FnScope ["many"] ["many"] (defScope sAmt) := ⟨rfl, rfl, rfl, by decide +kernel, rfl, by decide +kernel, by decide +kernel⟩
theorem scLtr : FnScope ["letters"] ["letters"] (defScope sLtr) := ⟨rfl, rfl, rfl, by decide +kernel, rfl, by decide +kernel, by decide +kernel⟩
theorem ok_len {f : Addr} {fd : FuncData} (F : Fun K "length_is_as_told" "length_is_as_told" sLen f fd) (h1 : ∃ u, mg "LEAST_LENGTH" = some u ∧ RelV (.int 2) u) (h2 : ∃ u, mg "MOST_LENGTH" = some u ∧ RelV (.int 48) u) :
    FnOk P w K mg base CX0 1 f fd ["k"] spLen := by
  refine F.ok scLen (fun vs H Q E h => ?_) (fun cdv Ar outer s H vs Q E hr h => ?_)
  · obtain ⟨k, rfl, _⟩ := h
    rfl
  · obtain ⟨kk, rfl, k⟩ := h
    obtain ⟨u1, m1, r1⟩ := h1
    obtain ⟨u2, m2, r2⟩ := h2
    refine ⟨_, pss_one (ps_ret (pe_and (pe_cmpR op_ge (pv 0) (pe_glob rfl m1 r1) (nomark _)) (pe_one (pe_cmpR op_le (pv 0) (pe_glob rfl m2 r2) (nomark _))))), ?_⟩
    refine ⟨_, rfl, _, _, rfl, rfl, _, rfl, ?_⟩
    refine ite2 (fun h => ?_) (fun h => ?_)
    · have h := of_decide_eq_true h
      refine ⟨_, rfl, _, _, rfl, rfl, ?_⟩
      have e : decide ((kk : Int) ≤ 48) = decide (2 ≤ kk ∧ kk ≤ 48) := decide_eq_decide.mpr (by omega)
      show Q (V.bl (decide ((kk : Int) ≤ 48))) H
      rw [e]
      exact k
    · have h3 : ¬ ((2 : Int) ≤ (kk : Int)) := fun q => h (decide_eq_true q)
      have e : decide (2 ≤ kk ∧ kk ≤ 48) = false := decide_eq_false (by omega)
      rw [e] at k
      exact k
theorem ok_amt {f : Addr} {fd : FuncData} (F : Fun K "amount_is_as_told" "amount_is_as_told" sAmt f fd) (h1 : ∃ u, mg "MOST_PIECES" = some u ∧ RelV (.int 64) u) :
    FnOk P w K mg base CX0 1 f fd ["many"] spAmt := by
  refine F.ok scAmt (fun vs H Q E h => ?_) (fun cdv Ar outer s H vs Q E hr h => ?_)
  · obtain ⟨k, rfl, _⟩ := h
    rfl
  · obtain ⟨z, rfl, k⟩ := h
    obtain ⟨u1, m1, r1⟩ := h1
    refine ⟨_, pss_one (ps_ret (pe_and (pe_cmpR op_ge (pv 0) pe_int (nomark _)) (pe_one (pe_cmpR op_le (pv 0) (pe_glob rfl m1 r1) (nomark _))))), ?_⟩
    refine ⟨_, rfl, _, _, rfl, rfl, _, rfl, ?_⟩
    refine ite2 (fun h => ?_) (fun h => ?_)
    · have h := of_decide_eq_true h
      refine ⟨_, rfl, _, _, rfl, rfl, ?_⟩
      have e : decide (z ≤ 64) = decide (1 ≤ z ∧ z ≤ 64) := decide_eq_decide.mpr (by omega)
      show Q (V.bl (decide (z ≤ 64))) H
      rw [e]
      exact k
    · have h3 : ¬ ((1 : Int) ≤ z) := fun q => h (decide_eq_true q)
      have e : decide (1 ≤ z ∧ z ≤ 64) = false := decide_eq_false (by omega)
      rw [e] at k
      exact k
theorem ok_ltr {f : Addr} {fd : FuncData} (F : Fun K "letters_are_as_told" "letters_are_as_told" sLtr f fd) (hm : mg "max" = none) (h1 : ∃ u, mg "MOST_LETTER" = some u ∧ RelV (.int 3) u) :
    FnOk P w K mg base CX0 1 f fd ["letters"] (spLtr K) := by
  refine F.ok scLtr (fun vs H Q E h => ?_) (fun cdv Ar outer s H vs Q E hr h => ?_)
  · obtain ⟨a, t, rfl, _⟩ := h
    rfl
  · obtain ⟨a, t, rfl, hq, hne, k⟩ := h
    obtain ⟨u1, m1, r1⟩ := h1
    refine ⟨_, pss_one (ps_ret (pe_cmpR op_le (pe_callB (r := rMax K) (cr_max rfl) rfl hm boot_max (pa_cons (pv 0) pa_nil)) (pe_glob rfl m1 r1) (nomark _))), ?_⟩
    rw [iv_ints] at hq
    refine ⟨_, rfl, a, _, rfl, hq, by rw [List.length_map]; exact List.length_pos_iff.mpr hne, fun mx hm1 hm2 => ?_⟩
    refine ⟨_, _, rfl, rfl, ?_⟩
    have em : (fun (i j : Int) => V.bl (decide (i ≤ j))) mx 3 = V.bl (Kv168.isText t) := congrArg V.bl (max_text hm1 hm2)
    exact em ▸ k
end
end Pg
end
section
set_option Elab.async false
set_option linter.all false
set_option maxRecDepth 100000
namespace Pg
open PySem L2

/-! ### lists of ints by places -/
def vi (n : Nat) (f : Nat → Int) : List Int := (List.range n).map f
def vec (n : Nat) (f : Nat → Int) : List V := (vi n f).map V.int
theorem vi_len (n : Nat) (f : Nat → Int) : (vi n f).length = n := by simp [vi]
theorem vec_len (n : Nat) (f : Nat → Int) : (vec n f).length = n := by simp [vec, vi]
theorem vec_get {n : Nat} {f : Nat → Int} {i : Nat} (h : i < n) : (vec n f)[i]? = some (V.int (f i)) := by simp [vec, vi, h]
theorem vec_of {n : Nat} {f : Nat → Int} {i : Nat} {x : V} (h : (vec n f)[i]? = some x) : i < n ∧ x = V.int (f i) := by
  have hi : i < n := by
    have := (List.getElem?_eq_some_iff.mp h).1
    rw [vec_len] at this; exact this
  rw [vec_get hi] at h
  exact ⟨hi, (Option.some.inj h).symm⟩
theorem vec_succ (n : Nat) (f : Nat → Int) : vec (n + 1) f = vec n f ++ [V.int (f n)] := by simp [vec, vi, List.range_succ]
theorem vec_zero (f : Nat → Int) : vec 0 f = [] := rfl
theorem vi_sum (f : Nat → Int) : ∀ n, (vi n f).sum = Tp.sm n f
  | 0 => rfl
  | n + 1 => by
    have ih := vi_sum f n
    unfold vi at ih ⊢
    rw [List.range_succ, List.map_append, List.sum_append, ih]
    simp [Tp.sm]
theorem vec_congr {n : Nat} {f g : Nat → Int} (h : ∀ i, i < n → f i = g i) : vec n f = vec n g := by
  unfold vec vi
  congr 1
  exact List.map_congr_left fun i hi => h i (List.mem_range.mp hi)
theorem vec_set {n : Nat} {f : Nat → Int} (j : Nat) (z : Int) : (vec n f).set j (V.int z) = vec n (fun i => if i = j then z else f i) := by
  apply List.ext_getElem?
  intro i
  by_cases hi : i < n
  · rw [vec_get hi]
    by_cases e : i = j
    · subst e
      rw [List.getElem?_set_self (by rw [vec_len]; exact hi), if_pos rfl]
    · rw [List.getElem?_set_ne (fun q => e q.symm), vec_get hi, if_neg e]
  · rw [List.getElem?_eq_none (by rw [List.length_set, vec_len]; omega), List.getElem?_eq_none (by rw [vec_len]; omega)]
theorem vec_tail (n : Nat) (f : Nat → Int) : (vec (n + 1) f).drop 1 = vec n (fun i => f (i + 1)) := by
  apply List.ext_getElem?
  intro i
  rw [List.getElem?_drop]
  by_cases hi : i < n
  · rw [vec_get hi, vec_get (by omega), Nat.add_comm]
  · rw [List.getElem?_eq_none (by rw [vec_len]; omega), List.getElem?_eq_none (by rw [vec_len]; omega)]

/-! ### a table: a list of lists of ints, read -/
def Mx (K : PySem.W.Frag) (H : Hp) (a : Addr) (s n : Nat) (M : Nat → Nat → Int) : Prop :=
  ∃ rs : List Addr, SqL K H a (rs.map V.ref) ∧ rs.length = s ∧ ∀ i r, rs[i]? = some r → SqL K H r (vec n (M i))
theorem Mx.same {K : PySem.W.Frag} {H H' : Hp} {a : Addr} {s n : Nat} {M : Nat → Nat → Int} (e : Same H H') (h : Mx K H a s n M) : Mx K H' a s n M := by
  obtain ⟨rs, h1, h2, h3⟩ := h
  exact ⟨rs, e.seq h1, h2, fun i r hr => e.seq (h3 i r hr)⟩
theorem ref_of {rs : List Addr} {i : Nat} {x : V} (h : (rs.map V.ref)[i]? = some x) : ∃ r, rs[i]? = some r ∧ x = V.ref r := by
  rw [List.getElem?_map] at h
  cases e : rs[i]? with
  | none => rw [e] at h; cases h
  | some r => rw [e] at h; exact ⟨r, rfl, (Option.some.inj h).symm⟩
theorem ref_at {rs : List Addr} {i : Nat} {r : Addr} (h : rs[i]? = some r) : (rs.map V.ref)[i]? = some (V.ref r) := by
  rw [List.getElem?_map, h]; rfl
theorem ref_lt {rs : List Addr} {i : Nat} (h : i < rs.length) : ∃ r, rs[i]? = some r := ⟨rs[i], List.getElem?_eq_getElem h⟩
end Pg
end
section
set_option Elab.async false
set_option linter.all false
set_option maxRecDepth 100000
namespace Pg
open PySem L2
abbrev sFac : Stmt := top 25
/-- how a comprehension over a list grows its own -/
theorem lc_start {H : Hp} {D : Addr} {f : Nat → Int} (hD : H D = none) : Same H (upd H D (.lst [])) ∧ (upd H D (.lst [])) D = some (.lst (vec 0 f)) := ⟨Same.new hD, upd_same⟩
theorem lc_turn {H H4 : Hp} {D : Addr} {f : Nat → Int} {i : Nat} (hD : H D = none) (s : Same H H4) : Same H (upd H4 D (.lst (vec i f ++ [V.int (f i)]))) ∧ (upd H4 D (.lst (vec i f ++ [V.int (f i)]))) D = some (.lst (vec (i + 1) f)) := by
  refine ⟨Same.put s hD, ?_⟩
  rw [upd_same, vec_succ]
def spFac : Sp := fun vs H Q _ => ∃ z : Int, vs = [.int z] ∧ -5 ≤ z ∧ z ≤ 1000 ∧ Q (.int (Tp.fac z.toNat : Nat)) H
section
variable {P : Program} {w : World} {K : PySem.W.Frag} {mg : Str → Option Value} {base : Heap}
theorem scFac : FnScope ["number", "product", "factor"] ["number"] (defScope sFac) := ⟨rfl, rfl, rfl, by decide +kernel, rfl, by decide +kernel, by decide +kernel⟩
theorem fac_turn (i : Nat) : ((Tp.fac (i + 1) : Nat) : Int) * (2 + (i : Int)) = ((Tp.fac (i + 2) : Nat) : Int) := by
  have : Tp.fac (i + 2) = (i + 2) * Tp.fac (i + 1) := rfl
  rw [this, Int.natCast_mul, Int.mul_comm]
  congr 1
  omega
theorem ok_fac {f : Addr} {fd : FuncData} (F : Fun K "factorial" "factorial" sFac f fd) (mr : mg "range" = none) : FnOk P w K mg base CX0 1 f fd ["number"] spFac := by
  refine F.ok scFac (fun vs H Q E h => ?_) (fun cdv A outer s H vs Q E hr h => ?_)
  · obtain ⟨z, rfl, _⟩ := h
    rfl
  · obtain ⟨z, rfl, h1, h2, k⟩ := h
    refine ⟨_, pss_cons (ps_set (i := 1) scFac.nd rfl (Or.inl rfl) pe_int)
      (pss_cons (ps_for PassesOwn.never rfl (pi_range2 rfl mr (pa_cons pe_int (pa_cons (pe_op op_add (pv 0) pe_int) pa_nil))) (pg_name (i := 2) scFac.nd rfl (Or.inl rfl))
        (pss_one (ps_aug (i := 1) scFac.nd rfl (Or.inl rfl) (pv 2) iop_mulB)))
      (pss_one (ps_ret (pv 1)))), ?_⟩
    refine ⟨_, rfl, _, _, rfl, rfl, 2, z + 1, rfl, ⟨by omega, by omega, by omega, by omega⟩, for_range (lo := 2) (n := (z + 1 - 2).toNat)
      (fun i σ H2 => ∃ v : Option V, σ = [some (.int z), some (.int (Tp.fac (i + 1) : Nat)), v] ∧ H2 = H) ⟨none, rfl, rfl⟩ ?_ ?_⟩
    · rintro i σ H2 hi ⟨v, rfl, rfl⟩
      refine ⟨_, rfl, _, rfl, _, _, rfl, rfl, .of_right (intBits_le_64 (by omega) (by omega)), ?_⟩
      exact ⟨some (V.int (2 + (i : Int))), congrArg (fun q => [some (V.int z), some (V.int q), some (V.int (2 + (i : Int)))]) (fac_turn i), rfl⟩
    · rintro σ H2 ⟨v, rfl, rfl⟩
      refine ⟨_, rfl, ?_⟩
      have e : Tp.fac ((z + 1 - 2).toNat + 1) = Tp.fac z.toNat := by
        by_cases hz : 1 ≤ z
        · congr 1; omega
        · have a1 : (z + 1 - 2).toNat = 0 := by omega
          have a2 : z.toNat = 0 := by omega
          rw [a1, a2]; rfl
      show Q (V.int _) _
      rw [e]
      exact k
end
end Pg
end
section
set_option Elab.async false
set_option linter.all false
set_option maxRecDepth 100000
namespace Pg
open PySem L2 PyProof.Rows
abbrev sSwaps : Stmt := top 21
abbrev TabM (A : Tp.Tab) : Nat → Nat → Int := fun x y => (A x y : Int)
def spSwaps (K : PySem.W.Frag) : Sp := fun vs H Q _ => ∃ (a : Addr) (m : Nat) (A : Tp.Tab), vs = [.ref a] ∧ Mx K H a m m (TabM A) ∧ m ≤ 129 ∧ Tp.tot m A ≤ 128 ∧ Q (.int (Tp.swp m A : Nat)) H
section
variable {P : Program} {w : World} {K : PySem.W.Frag} {mg : Str → Option Value} {base : Heap}
theorem scSwaps : FnScope ["streets", "swaps", "row", "many"] ["streets"] (defScope sSwaps) := ⟨rfl, rfl, rfl, by decide +kernel, rfl, by decide +kernel, by decide +kernel⟩
theorem lt_of_le_pow {a m n : Nat} (h : a ≤ 2 ^ m) (hm : m < n) : a < 2 ^ n := Nat.lt_of_le_of_lt h (Nat.pow_lt_pow_right (by decide) hm)
theorem ok_swaps {f : Addr} {fd : FuncData} (F : Fun K "count_swaps" "count_swaps" sSwaps f fd) (G : Fc P w K mg base 1 "factorial" ["number"] spFac) : FnOk P w K mg base CX0 2 f fd ["streets"] (spSwaps K) := by
  refine F.ok scSwaps (fun vs H Q E h => ?_) (fun cdv Ar outer s H vs Q E hr h => ?_)
  · obtain ⟨a, m, A, rfl, _⟩ := h
    rfl
  · obtain ⟨a, m, A, rfl, ⟨rs, hl, hrs, hrow⟩, hm, ht, k⟩ := h
    refine ⟨_, pss_cons (ps_set (i := 1) scSwaps.nd rfl (Or.inl rfl) pe_int)
      (pss_cons (ps_for PassesOwn.never rfl (pi_list (pv 0)) (pg_name (i := 2) scSwaps.nd rfl (Or.inl rfl))
        (pss_one (ps_for PassesOwn.never rfl (pi_list (pv 2)) (pg_name (i := 3) scSwaps.nd rfl (Or.inl rfl))
          (pss_one (ps_aug (i := 1) scSwaps.nd rfl (Or.inl rfl) (pe_fc G hr rfl (pa_cons (pv 3) pa_nil)) iop_mulB)))))
      (pss_one (ps_ret (pv 1)))), ?_⟩
    refine ⟨_, rfl, a, rfl, ⟨_, hl⟩, for_list (K := K) (a := a) (xs := rs.map V.ref) (fun i σ H2 => ∃ v w : Option V, σ = [some (.ref a), some (.int (Tp.pr i (fun x => Tp.pr m (fun y => Tp.fac (A x y))) : Nat)), v, w] ∧ H2 = H)
      ⟨none, none, rfl, rfl⟩ (fun i σ H2 _ ⟨_, _, _, e⟩ => by rw [e]; exact hl) ?_ ?_⟩
    · rintro i y σ H2 hi ⟨v, w', rfl, rfl⟩
      obtain ⟨r, hr', rfl⟩ := ref_of hi
      have him : i < m := by rw [← hrs]; exact (List.getElem?_eq_some_iff.mp hr').1
      have hq := hrow i r hr'
      refine ⟨_, rfl, r, rfl, ⟨_, hq⟩, for_list (K := K) (a := r) (xs := vec m (TabM A i)) (fun j σ H3 => ∃ w : Option V, σ = [some (.ref a), some (.int ((Tp.pr i (fun x => Tp.pr m (fun y => Tp.fac (A x y))) * Tp.pr j (fun y => Tp.fac (A i y)) : Nat))), some (.ref r), w] ∧ H3 = H2)
        ⟨w', by simp [Tp.pr, gName], rfl⟩ (fun i σ H3 _ ⟨_, _, e⟩ => by rw [e]; exact hq) ?_ ?_⟩
      · rintro j y σ H3 hj ⟨w'', rfl, rfl⟩
        obtain ⟨hjm, rfl⟩ := vec_of hj
        have hle : A i j ≤ 128 := Nat.le_trans (Tp.tab_le_out hjm) (Nat.le_trans (Tp.out_le_tot him) ht)
        refine ⟨_, rfl, _, rfl, _, rfl, (by show (-5 : Int) ≤ (A i j : Int); omega), (by show ((A i j : Nat) : Int) ≤ 1000; omega), _, _, rfl, rfl, ?_, ?_⟩
        · have b1 := Tp.swp_le (A := A) (i := i) (m := m) (by omega) ht
          have b2 := Tp.row_le (A := A) (j := j) him (by omega) ht
          have b3 : Tp.out m A i ≤ 128 := Nat.le_trans (Tp.out_le_tot him) ht
          have b4 : Tp.fac (A i j) ≤ 2 ^ (7 * A i j) := Tp.fac_le hle
          refine mulOk (m := 2000) (n := 1000) ?_ ?_ (by decide)
          · rw [Int.natAbs_natCast]
            refine lt_of_le_pow (m := 7 * Tp.tot m A + 7 * Tp.out m A i) ?_ (by omega)
            rw [Nat.pow_add]
            exact Nat.mul_le_mul b1 b2
          · rw [Int.natAbs_natCast]
            exact lt_of_le_pow b4 (by omega)
        · refine ⟨some (V.int (A i j : Int)), ?_, rfl⟩
          refine congrArg (fun q => [some (V.ref a), some (V.int q), some (V.ref r), some (V.int (A i j : Int))]) ?_
          have e1 : Tp.pr (j + 1) (fun y => Tp.fac (A i y)) = Tp.pr j (fun y => Tp.fac (A i y)) * Tp.fac (A i j) := rfl
          rw [e1, ← Nat.mul_assoc, Int.natCast_mul]
          rfl
      · rintro σ H3 ⟨w'', rfl, rfl⟩
        rw [vec_len]
        exact ⟨some (V.ref r), w'', rfl, rfl⟩
    · rintro σ H2 ⟨v, w', rfl, rfl⟩
      refine ⟨_, rfl, ?_⟩
      rw [List.length_map, hrs]
      exact k
end
end Pg
end
section
set_option Elab.async false
set_option linter.all false
set_option maxRecDepth 100000
namespace Pg
open PySem L2 PyProof.Rows
abbrev sStreets : Stmt := top 18
abbrev sSurplus : Stmt := top 17
def spStreets (K : PySem.W.Frag) : Sp := fun vs H Q _ => ∃ (a : Addr) (m : Nat) (A : Tp.Tab), vs = [.ref a] ∧ Mx K H a m m (TabM A) ∧ m ≤ 129 ∧ ∀ H', Same H H' → Q (.int (Tp.tot m A : Nat)) H'
def spSurplus (K : PySem.W.Frag) : Sp := fun vs H Q _ => ∃ (a : Addr) (m x : Nat) (A : Tp.Tab), vs = [.ref a, .int x] ∧ Mx K H a m m (TabM A) ∧ m ≤ 129 ∧ x < m ∧ ∀ H', Same H H' → Q (.int (Tp.srp m A x)) H'
section
variable {P : Program} {w : World} {K : PySem.W.Frag} {mg : Str → Option Value} {base : Heap}
theorem scStreets : FnScope ["streets", "row"] ["streets"] (defScope sStreets) := ⟨rfl, rfl, rfl, by decide +kernel, rfl, by decide +kernel, by decide +kernel⟩
theorem ok_streets {f : Addr} {fd : FuncData} (F : Fun K "count_streets" "count_streets" sStreets f fd) (T : Txt mg) : FnOk P w K mg base CX0 1 f fd ["streets"] (spStreets K) := by
  refine F.ok scStreets (fun vs H Q E h => ?_) (fun cdv Ar outer s H vs Q E hr h => ?_)
  · obtain ⟨a, m, A, rfl, _⟩ := h
    rfl
  · obtain ⟨a, m, A, rfl, ⟨rs, hl, hrs, hrow⟩, hm, k⟩ := h
    refine ⟨_, pss_one (ps_ret (pe_callB (cr_sum rfl) rfl T.sum boot_sum (pa_cons (pe_lc rfl scStreets.nd (pi_list (pv 0)) (blkOk_by (own := [("row", 1)]) (by show blkC ["streets", "row"] (defScope sStreets) _ _ = true; decide +kernel))
      (fun s H C cl fp => pg_name (i := 1) scStreets.nd rfl (Or.inl rfl)) (fun _ _ _ _ _ => pts_nil) (fun s H C cl fp => pe_callB (r := rSum K) (cr_sum rfl) rfl T.sum boot_sum (pa_cons (pv 1) pa_nil))) pa_nil))), ?_⟩
    refine ⟨_, rfl, a, rfl, ⟨_, hl⟩, fun D hD => lc_list (K := K) (a := a) (xs := rs.map V.ref) (fun i H2 => Same H H2 ∧ H2 D = some (.lst (vec i (fun x => (Tp.out m A x : Int)))))
      (lc_start hD) (fun i H2 _ h2 => h2.1.seq hl) ?_ ?_⟩
    · rintro i y H2 hi ⟨sm2, hD2⟩
      obtain ⟨r, hr', rfl⟩ := ref_of hi
      have him : i < m := by rw [← hrs]; exact (List.getElem?_eq_some_iff.mp hr').1
      refine ⟨rfl, yes ?_⟩
      refine ⟨_, rfl, r, vi m (TabM A i), rfl, sm2.seq (hrow i r hr'), vec i _, hD2, small1000 (by rw [vec_len]; omega), ?_⟩
      have e : (vi m (TabM A i)).sum = ((Tp.out m A i : Nat) : Int) := by
        rw [vi_sum]; exact (Tp.sn_cast _ m).symm
      rw [e]
      exact lc_turn hD sm2
    · rintro H2 ⟨sm2, hD2⟩
      rw [List.length_map, hrs] at hD2
      refine ⟨D, vi m _, rfl, SqL.of hD2, ?_⟩
      have e : (vi m (fun x => (Tp.out m A x : Int))).sum = ((Tp.tot m A : Nat) : Int) := by
        rw [vi_sum]; exact (Tp.sn_cast _ m).symm
      rw [e]
      exact k _ sm2
theorem scSurplus : FnScope ["streets", "point", "row"] ["streets", "point"] (defScope sSurplus) := ⟨rfl, rfl, rfl, by decide +kernel, rfl, by decide +kernel, by decide +kernel⟩
theorem ok_surplus {f : Addr} {fd : FuncData} (F : Fun K "surplus_at" "surplus_at" sSurplus f fd) (T : Txt mg) : FnOk P w K mg base CX0 1 f fd ["streets", "point"] (spSurplus K) := by
  refine F.ok scSurplus (fun vs H Q E h => ?_) (fun cdv Ar outer s H vs Q E hr h => ?_)
  · obtain ⟨a, m, x, A, rfl, _⟩ := h
    rfl
  · obtain ⟨a, m, x, A, rfl, ⟨rs, hl, hrs, hrow⟩, hm, hx, k⟩ := h
    refine ⟨_, pss_one (ps_ret (pe_op op_sub (pe_callB (cr_sum rfl) rfl T.sum boot_sum (pa_cons (pe_lc rfl scSurplus.nd (pi_list (pv 0)) (blkOk_by (own := [("row", 2)]) (by show blkC ["streets", "point", "row"] (defScope sSurplus) _ _ = true; decide +kernel))
      (fun s H C cl fp => pg_name (i := 2) scSurplus.nd rfl (Or.inl rfl)) (fun _ _ _ _ _ => pts_nil) (fun s H C cl fp => pe_ix (r := rIxL K) ix_list (pv 2) (pv 1) (fun _ _ => rfl))) pa_nil))
      (pe_callB (cr_sum rfl) rfl T.sum boot_sum (pa_cons (pe_ix ix_list (pv 0) (pv 1) (fun _ _ => rfl)) pa_nil)))), ?_⟩
    refine ⟨_, rfl, a, rfl, ⟨_, hl⟩, fun D hD => lc_list (K := K) (a := a) (xs := rs.map V.ref) (fun i H2 => Same H H2 ∧ H2 D = some (.lst (vec i (fun z => (A z x : Int)))))
      (lc_start hD) (fun i H2 _ h2 => h2.1.seq hl) ?_ ?_⟩
    · rintro i y H2 hi ⟨sm2, hD2⟩
      obtain ⟨r, hr', rfl⟩ := ref_of hi
      have him : i < m := by rw [← hrs]; exact (List.getElem?_eq_some_iff.mp hr').1
      refine ⟨rfl, yes ?_⟩
      refine ⟨_, rfl, _, rfl, r, _, _, _, rfl, rfl, sm2.seq (hrow i r hr'), atI_nat (vec_get hx), vec i _, hD2, small1000 (by rw [vec_len]; omega), ?_⟩
      exact lc_turn (f := fun z => (A z x : Int)) hD sm2
    · rintro H2 ⟨sm2, hD2⟩
      rw [List.length_map, hrs] at hD2
      obtain ⟨r, hr'⟩ := ref_lt (rs := rs) (i := x) (by omega)
      refine ⟨D, vi m _, rfl, SqL.of hD2, _, rfl, _, rfl, a, _, _, _, rfl, rfl, sm2.seq hl, atI_nat (ref_at hr'), r, vi m (TabM A x), rfl, sm2.seq (hrow x r hr'), _, _, rfl, rfl, ?_⟩
      have e1 : (vi m (fun z => (A z x : Int))).sum = ((Tp.inn m A x : Nat) : Int) := by
        rw [vi_sum]; exact (Tp.sn_cast _ m).symm
      have e2 : (vi m (TabM A x)).sum = ((Tp.out m A x : Nat) : Int) := by
        rw [vi_sum]; exact (Tp.sn_cast _ m).symm
      show Q (V.int _) _
      rw [e1, e2]
      exact k _ sm2
end
end Pg
end
section
set_option Elab.async false
set_option linter.all false
set_option maxRecDepth 100000
set_option exponentiation.threshold 10
namespace Pg
open PySem L2 PyProof.Rows
abbrev sRed : Stmt := top 24
def spRed (K : PySem.W.Frag) : Sp := fun vs H Q _ => ∃ (r t : Addr) (q : Int) (n : Nat) (f g : Nat → Int), vs = [.ref r, .ref t, .int q] ∧ SqL K H r (vec (n + 1) f) ∧ SqL K H t (vec (n + 1) g) ∧ n ≤ 200 ∧
  q ≠ 0 ∧ q.natAbs < 2 ^ 1000 ∧ (∀ i, i < n + 1 → (f i).natAbs < 2 ^ 1000) ∧ (∀ i, i < n + 1 → (g i).natAbs < 2 ^ 1000) ∧
  ∀ H' D, Same H H' → H D = none → H' D = some (.lst (vec n (fun p => (g 0 * f (p + 1) - f 0 * g (p + 1)).fdiv q))) → Q (.ref D) H'
section
variable {P : Program} {w : World} {K : PySem.W.Frag} {mg : Str → Option Value} {base : Heap}
theorem log2_lt_of {y : Int} (h : y.natAbs < 2 ^ 1000) : y.natAbs.log2 < 9000 := by
  by_cases h0 : y.natAbs = 0
  · rw [h0]; decide +kernel
  · have := (Nat.log2_lt h0).mpr h
    omega
theorem scRed : FnScope ["row", "top", "before", "place"] ["row", "top", "before"] (defScope sRed) := ⟨rfl, rfl, rfl, by decide +kernel, rfl, by decide +kernel, by decide +kernel⟩
theorem ok_red {f : Addr} {fd : FuncData} (F : Fun K "reduced_row" "reduced_row" sRed f fd) (T : Txt mg) : FnOk P w K mg base CX0 1 f fd ["row", "top", "before"] (spRed K) := by
  refine F.ok scRed (fun vs H Q E h => ?_) (fun cdv Ar outer s H vs Q E hr h => ?_)
  · obtain ⟨r, t, q, n, f, g, rfl, _⟩ := h
    rfl
  · obtain ⟨r, t, q, n, f, g, rfl, hf, hg, hn, hq, hqb, hfb, hgb, k⟩ := h
    refine ⟨_, pss_one (ps_ret (pe_lc rfl scRed.nd (pi_range2 rfl T.range (pa_cons pe_int (pa_cons (pe_callB call_len_seq rfl T.len PySem.boot_len (pa_cons (pv 0) pa_nil)) pa_nil)))
      (blkOk_by (own := [("place", 3)]) (by show blkC ["row", "top", "before", "place"] (defScope sRed) _ _ = true; decide +kernel))
      (fun s H C cl fp => pg_name (i := 3) scRed.nd rfl (Or.inl rfl)) (fun _ _ _ _ _ => pts_nil)
      (fun s H C cl fp => pe_op op_fdivB (pe_op op_sub (pe_op op_mulB (pe_ix (r := rIxL K) ix_list (pv 1) pe_int (fun _ _ => rfl)) (pe_ix (r := rIxL K) ix_list (pv 0) (pv 3) (fun _ _ => rfl)))
        (pe_op op_mulB (pe_ix (r := rIxL K) ix_list (pv 0) pe_int (fun _ _ => rfl)) (pe_ix (r := rIxL K) ix_list (pv 1) (pv 3) (fun _ _ => rfl)))) (pv 2)))), ?_⟩
    refine ⟨_, rfl, r, _, rfl, .inl hf, 1, _, rfl, ⟨by omega, by omega, by rw [vec_len]; omega, by rw [vec_len]; omega⟩, fun D hD => lc_range (lo := 1)
      (fun i H2 => Same H H2 ∧ H2 D = some (.lst (vec i (fun p => (g 0 * f (p + 1) - f 0 * g (p + 1)).fdiv q)))) (lc_start hD) ?_ ?_⟩
    · rintro i H2 hi ⟨sm2, hD2⟩
      rw [vec_len] at hi
      have hin : i < n := by omega
      refine ⟨rfl, yes ?_⟩
      refine ⟨_, rfl, t, _, _, _, rfl, rfl, sm2.seq hg, at_of (j := 0) rfl (vec_get (by omega)),
        _, rfl, _, rfl, r, _, _, _, rfl, rfl, sm2.seq hf, at_of (j := i + 1) (by omega) (vec_get (by omega)),
        _, _, rfl, rfl, mulOk (m := 1000) (n := 1000) (hgb 0 (by omega)) (hfb (i + 1) (by omega)) (by decide),
        _, rfl, r, _, _, _, rfl, rfl, sm2.seq hf, at_of (j := 0) rfl (vec_get (by omega)),
        _, rfl, _, rfl, t, _, _, _, rfl, rfl, sm2.seq hg, at_of (j := i + 1) (by omega) (vec_get (by omega)),
        _, _, rfl, rfl, mulOk (m := 1000) (n := 1000) (hfb 0 (by omega)) (hgb (i + 1) (by omega)) (by decide),
        _, _, rfl, rfl, _, rfl, _, _, rfl, rfl, ⟨hq, log2_lt_of hqb⟩, vec i _, hD2, small1000 (by rw [vec_len]; omega), ?_⟩
      exact lc_turn (f := fun p => (g 0 * f (p + 1) - f 0 * g (p + 1)).fdiv q) hD sm2
    · rintro H2 ⟨sm2, hD2⟩
      have e : ((((vec (n + 1) f).length : Nat) : Int) - 1).toNat = n := by rw [vec_len]; omega
      rw [e] at hD2
      exact k H2 D sm2 hD hD2
end
end Pg
end
section
set_option Elab.async false
set_option linter.all false
set_option maxRecDepth 100000
set_option exponentiation.threshold 10
namespace Pg
open PySem L2 PyProof.Rows
abbrev sDet : Stmt := top 23
def spDet (K : PySem.W.Frag) : Sp := fun vs H Q _ => ∃ (a : Addr) (s : Nat) (M : Tp.Mat), vs = [.ref a] ∧ Mx K H a s s M ∧ s ≤ 128 ∧ Tp.Elim 128 s M 1 ∧ ∀ H', Same H H' → Q (.int (Tp.bare s M 1)) H'
/-- new rows, one by one -/
structure Rows (H : Hp) (D : Addr) (ds : List Addr) (i n : Nat) (M : Nat → Nat → Int) : Prop where
  lst : H D = some (.lst (ds.map V.ref))
  len : ds.length = i
  row : ∀ j d, ds[j]? = some d → d ≠ D ∧ H d = some (.lst (vec n (M j)))
theorem Rows.start {H : Hp} {D : Addr} {n : Nat} {M : Nat → Nat → Int} : Rows (upd H D (.lst [])) D [] 0 n M := ⟨upd_same, rfl, fun j d h => by simp at h⟩
theorem Rows.more {H H4 : Hp} {D d : Addr} {ds : List Addr} {i n : Nat} {M : Nat → Nat → Int} (R : Rows H D ds i n M) (sm : Same H H4) (hd : H d = none) (hd4 : H4 d = some (.lst (vec n (M i)))) :
    Rows (upd H4 D (.lst (ds.map V.ref ++ [V.ref d]))) D (ds ++ [d]) (i + 1) n M := by
  have nd : d ≠ D := fun e => by rw [e, R.lst] at hd; cases hd
  refine ⟨by rw [upd_same, List.map_append]; rfl, by rw [List.length_append, R.len]; rfl, fun j e h => ?_⟩
  by_cases hj : j < ds.length
  · rw [List.getElem?_append_left hj] at h
    obtain ⟨h1, h2⟩ := R.row j e h
    exact ⟨h1, by rw [upd_ne h1]; exact sm _ _ h2⟩
  · have hj2 : j = ds.length := by
      have := (List.getElem?_eq_some_iff.mp h).1
      rw [List.length_append] at this
      simp at this
      omega
    subst hj2
    rw [List.getElem?_append_right (Nat.le_refl _), Nat.sub_self] at h
    have e1 : d = e := Option.some.inj h
    subst e1
    rw [R.len]
    exact ⟨nd, by rw [upd_ne nd]; exact hd4⟩
theorem Rows.mx {K : PySem.W.Frag} {H : Hp} {D : Addr} {ds : List Addr} {i n : Nat} {M : Nat → Nat → Int} (R : Rows H D ds i n M) : Mx K H D i n M :=
  ⟨ds, SqL.of R.lst, R.len, fun j d h => SqL.of (R.row j d h).2⟩
theorem cut1 (xs : List V) : cutV xs (some 1) none = xs.drop 1 := by
  unfold cutV HT.sIx
  simp only [show ¬ ((1 : Int) < 0) by decide, if_false]
  cases xs with
  | nil => rfl
  | cons x r =>
    have e : min (1 : Int).toNat (x :: r).length = 1 := by simp
    rw [e, List.take_of_length_le (by simp)]
section
variable {P : Program} {w : World} {K : PySem.W.Frag} {mg : Str → Option Value} {base : Heap}
theorem scDet : FnScope ["table", "rows", "before", "pivot", "row"] ["table"] (defScope sDet) := ⟨rfl, rfl, rfl, by decide +kernel, rfl, by decide +kernel, by decide +kernel⟩
theorem entry_bits {s t : Nat} {R : Tp.Mat} {q : Int} (E : Tp.Elim 128 s R q) (hq : q ≤ 128 ^ t) (ht : t ≤ 128) {x y : Nat} (hx : x < s) (hy : y < s) : (R x y).natAbs < 2 ^ 1000 := by
  have h1 := E.entry hx hy
  have h2 := E.pos
  have h3 : q * 128 ≤ ((128 ^ (t + 1) : Nat) : Int) := by
    rw [Int.natCast_pow, Int.pow_succ]
    exact Int.mul_le_mul_of_nonneg_right hq (by decide)
  have h4 : (128 : Nat) ^ (t + 1) ≤ 2 ^ 910 := Tp.pow_le_two (by decide) (by omega)
  exact lt_of_le_pow (m := 910) (by omega) (by decide)
theorem q_bits {s t : Nat} {R : Tp.Mat} {q : Int} (E : Tp.Elim 128 s R q) (hq : q ≤ 128 ^ t) (ht : t ≤ 128) : q.natAbs < 2 ^ 1000 := by
  have h2 := E.pos
  have h3 : q ≤ ((128 ^ t : Nat) : Int) := by
    rw [Int.natCast_pow]; exact hq
  have h4 : (128 : Nat) ^ t ≤ 2 ^ 910 := Tp.pow_le_two (by decide) (by omega)
  exact lt_of_le_pow (m := 910) (by omega) (by decide)
theorem ok_det {f : Addr} {fd : FuncData} (F : Fun K "tree_determinant" "tree_determinant" sDet f fd) (T : Txt mg) (G : Fc P w K mg base 1 "reduced_row" ["row", "top", "before"] (spRed K)) : FnOk P w K mg base CX0 2 f fd ["table"] (spDet K) := by
  refine F.ok scDet (fun vs H Q E h => ?_) (fun cdv Ar outer s H vs Q E hr h => ?_)
  · obtain ⟨a, s, M, rfl, _⟩ := h
    rfl
  · obtain ⟨a, s, M, rfl, hM, hs, hE, k⟩ := h
    refine ⟨_, pss_cons (ps_set (i := 1) scDet.nd rfl (Or.inr rfl) (pv 0)) (pss_cons (ps_set (i := 2) scDet.nd rfl (Or.inr rfl) pe_int)
      (pss_cons (ps_while PassesOwn.never (pt_cmpR op_gt (pe_callB call_len_seq rfl T.len PySem.boot_len (pa_cons (pv 1) pa_nil)) pe_int (nomark _))
        (pss_cons (ps_set (i := 3) scDet.nd rfl (Or.inl rfl) (pe_ix ix_list (pe_ix ix_list (pv 1) pe_int (fun _ _ => rfl)) pe_int (fun _ _ => rfl)))
        (pss_cons (ps_if (pt_cmpR op_eq (pv 3) pe_int (nomark _)) (pss_one (ps_ret pe_int)) pss_nil)
        (pss_cons (ps_set (i := 1) scDet.nd rfl (Or.inr rfl) (pe_lc rfl scDet.nd (pi_list (pe_slice sl_list (pv 1) (po_some pe_int) po_none))
            (blkOk_by (own := [("row", 4)]) (by show blkC ["table", "rows", "before", "pivot", "row"] (defScope sDet) _ _ = true; decide +kernel))
            (fun s H C cl fp => pg_name (i := 4) scDet.nd rfl (Or.inl rfl)) (fun _ _ _ _ _ => pts_nil)
            (fun s H C cl fp => pe_fc G hr rfl (pa_cons (pv 4) (pa_cons (pe_ix (r := rIxL K) ix_list (pv 1) pe_int (fun _ _ => rfl)) (pa_cons (pv 2) pa_nil))))))
        (pss_one (ps_set (i := 2) scDet.nd rfl (Or.inr rfl) (pv 3)))))))
      (pss_one (ps_ret (pv 2))))), ?_⟩
    refine ⟨_, rfl, (fun m σ H2 => ∃ (R : Tp.Mat) (q : Int) (b : Addr) (v3 v4 : Option V), σ = [some (.ref a), some (.ref b), some (.int q), v3, v4] ∧ Same H H2 ∧ Mx K H2 b m m R ∧ m ≤ s ∧ Tp.Elim 128 m R q ∧
      q ≤ 128 ^ (s - m) ∧ Tp.bare s M 1 = Tp.bare m R q), ⟨s, M, 1, a, none, none, rfl, Same.refl H, hM, Nat.le_refl _, hE, by rw [Nat.sub_self]; decide, rfl⟩, ?_⟩
    rintro m σ H2 ⟨R, q, b, v3, v4, rfl, sm, hR, hms, hEl, hq, hbare⟩
    obtain ⟨rs, hl, hrs, hrow⟩ := id hR
    refine ⟨_, rfl, b, _, rfl, .inl hl, _, _, rfl, rfl, _, rfl, ?_⟩
    cases m with
    | zero =>
      have e : decide ((0 : Int) < (((rs.map V.ref).length : Nat) : Int)) = false := decide_eq_false (by rw [List.length_map, hrs]; decide)
      show if decide _ = true then _ else _
      rw [e, if_neg Bool.false_ne_true]
      refine ⟨_, rfl, ?_⟩
      have := k H2 sm
      rw [hbare] at this
      exact this
    | succ n =>
      have e : decide ((0 : Int) < (((rs.map V.ref).length : Nat) : Int)) = true := decide_eq_true (by rw [List.length_map, hrs]; omega)
      show if decide _ = true then _ else _
      rw [e, if_pos rfl]
      obtain ⟨r0, hr0⟩ := ref_lt (rs := rs) (i := 0) (by omega)
      have hq0 := hrow 0 r0 hr0
      refine ⟨_, fun σ' H' h => h, ?_⟩
      · -- pivot = rows[0][0]
        refine ⟨_, rfl, b, _, _, _, rfl, rfl, hl, at_of (j := 0) rfl (ref_at hr0), r0, _, _, _, rfl, rfl, hq0, at_of (j := 0) rfl (vec_get (by omega)), ?_⟩
        -- if pivot == 0
        refine ⟨_, rfl, rfl, _, rfl, ?_⟩
        refine ite2 (fun hz => ?_) (fun hz => ?_)
        · have hz0 : R 0 0 = 0 := by
            have := of_decide_eq_true hz
            injection this
          have := k H2 sm
          rw [hbare, Tp.bare, if_pos hz0] at this
          exact this
        · have hz0 : R 0 0 ≠ 0 := fun e => hz (decide_eq_true (by rw [e]))
          -- rows = [reduced_row(row, rows[0], before) for row in rows[1:]]
          refine ⟨_, rfl, 1, rfl, b, _, rfl, hl, fun p hp => ?_⟩
          have s1 : Same H2 (upd H2 p (.lst (cutV (rs.map V.ref) (some 1) none))) := Same.new hp
          have hcut : (upd H2 p (.lst (cutV (rs.map V.ref) (some 1) none))) p = some (.lst ((rs.drop 1).map V.ref)) := by
            rw [upd_same, cut1, List.map_drop]
          generalize upd H2 p (.lst (cutV (rs.map V.ref) (some 1) none)) = H3 at s1 hcut ⊢
          have hdl : (rs.drop 1).length = n := by rw [List.length_drop, hrs]; rfl
          refine ⟨p, rfl, ⟨_, SqL.of hcut⟩, fun D hD => lc_list (K := K) (a := p) (xs := (rs.drop 1).map V.ref) (fun i H4 => Same H3 H4 ∧ ∃ ds, Rows H4 D ds i n (Tp.red R q))
            ⟨Same.new hD, [], Rows.start⟩ (fun i H4 _ h4 => h4.1.seq (SqL.of hcut)) ?_ ?_⟩
          · rintro i y H4 hi ⟨sm4, ds, hds⟩
            obtain ⟨r, hr', rfl⟩ := ref_of hi
            have him : i < n := by rw [← hdl]; exact (List.getElem?_eq_some_iff.mp hr').1
            rw [List.getElem?_drop, Nat.add_comm] at hr'
            refine ⟨rfl, yes ?_⟩
            have s24 : Same H2 H4 := s1.trans sm4
            refine ⟨_, rfl, _, rfl, b, _, _, _, rfl, rfl, s24.seq hl, at_of (j := 0) rfl (ref_at hr0), _, rfl,
              r, r0, q, n, R (i + 1), R 0, rfl, s24.seq (hrow (i + 1) r hr'), s24.seq hq0, by omega, by have := hEl.pos; omega, q_bits hEl hq (by omega),
              fun j hj => entry_bits hEl hq (by omega) (by omega) hj, fun j hj => entry_bits hEl hq (by omega) (by omega) hj, fun H5 d sm5 hd4 hd5 => ?_⟩
            refine ⟨_, sm5 _ _ hds.lst, small1000 (by rw [List.length_map, hds.len]; omega), Same.put (sm4.trans sm5) hD, ds ++ [d], hds.more sm5 hd4 ?_⟩
            rw [hd5]
            rfl
          · rintro H4 ⟨sm4, ds, hds⟩
            rw [List.length_map, hdl] at hds
            -- before = pivot
            refine ⟨_, rfl, n, by omega, Tp.red R q, R 0 0, D, _, _, rfl, sm.trans (s1.trans sm4), hds.mx, by omega, hEl.step hz0, ?_, ?_⟩
            · have h1 := hEl.head.2
              have h2 : s - n = (s - (n + 1)) + 1 := by omega
              rw [h2, Int.pow_succ]
              exact Int.le_trans h1 (Int.mul_le_mul_of_nonneg_right hq (by decide))
            · rw [hbare, Tp.bare, if_neg hz0]
end
end Pg
end
section
set_option Elab.async false
set_option linter.all false
set_option maxRecDepth 100000
set_option exponentiation.threshold 10
namespace Pg
open PySem L2 PyProof.Rows
abbrev sWith : Stmt := top 19
abbrev sRounds : Stmt := top 20
abbrev sTrees : Stmt := top 22

/-! ### new rows, no two alike, none of them there before -/
structure RowsN (H0 H : Hp) (D : Addr) (ds : List Addr) (i n : Nat) (M : Nat → Nat → Int) : Prop where
  rows : Rows H D ds i n M
  nd : ds.Nodup
  fr : ∀ (j : Nat) (d : Addr), ds[j]? = some d → H0 d = none
theorem RowsN.start {H0 H : Hp} {D : Addr} {n : Nat} {M : Nat → Nat → Int} : RowsN H0 (upd H D (.lst [])) D [] 0 n M := ⟨Rows.start, List.nodup_nil, fun j d h => by simp at h⟩
theorem RowsN.more {H0 H H4 : Hp} {D d : Addr} {ds : List Addr} {i n : Nat} {M : Nat → Nat → Int} (R : RowsN H0 H D ds i n M) (s0 : Same H0 H) (sm : Same H H4) (hd : H d = none) (hd4 : H4 d = some (.lst (vec n (M i)))) :
    RowsN H0 (upd H4 D (.lst (ds.map V.ref ++ [V.ref d]))) D (ds ++ [d]) (i + 1) n M := by
  refine ⟨R.rows.more sm hd hd4, nd_snoc R.nd fun m => ?_, fun j e h => ?_⟩
  · obtain ⟨j, hj⟩ := List.mem_iff_getElem?.mp m
    have := (R.rows.row j d hj).2
    rw [hd] at this; cases this
  · by_cases hj : j < ds.length
    · rw [List.getElem?_append_left hj] at h
      exact R.fr j e h
    · have hj2 : j = ds.length := by
        have := (List.getElem?_eq_some_iff.mp h).1
        rw [List.length_append] at this
        simp at this
        omega
      subst hj2
      rw [List.getElem?_append_right (Nat.le_refl _), Nat.sub_self] at h
      have e1 : d = e := Option.some.inj h
      subst e1
      exact s0.free hd
theorem RowsN.put {H0 H : Hp} {D d : Addr} {ds : List Addr} {s n u : Nat} {M : Nat → Nat → Int} (R : RowsN H0 H D ds s n M) (hu : ds[u]? = some d) (v : Nat) (z : Int) :
    RowsN H0 (upd H d (.lst ((vec n (M u)).set v (V.int z)))) D ds s n (fun x y => if x = u ∧ y = v then z else M x y) := by
  have h1 := R.rows.row u d hu
  refine ⟨⟨by rw [upd_ne (Ne.symm h1.1)]; exact R.rows.lst, R.rows.len, fun j e h => ?_⟩, R.nd, R.fr⟩
  obtain ⟨h2, h3⟩ := R.rows.row j e h
  by_cases hj : j = u
  · subst hj
    have e1 : d = e := Option.some.inj (hu.symm.trans h)
    subst e1
    refine ⟨h2, ?_⟩
    rw [upd_same, vec_set]
    exact congrArg (fun q => some (HO.lst q)) (vec_congr fun i _ => by simp)
  · have hne : e ≠ d := fun q => hj (nd_ix R.nd h (q ▸ hu))
    refine ⟨h2, ?_⟩
    rw [upd_ne hne, h3]
    exact congrArg (fun q => some (HO.lst q)) (vec_congr fun i _ => by simp [hj])
theorem RowsN.congr {H0 H : Hp} {D : Addr} {ds : List Addr} {s n : Nat} {M M' : Nat → Nat → Int} (R : RowsN H0 H D ds s n M) (h : ∀ x y, M x y = M' x y) : RowsN H0 H D ds s n M' := by
  have e : M = M' := by funext x y; exact h x y
  subst e; exact R
theorem RowsN.same {H0 H H' : Hp} {D : Addr} {ds : List Addr} {s n : Nat} {M : Nat → Nat → Int} (R : RowsN H0 H D ds s n M) (sm : Same H H') : RowsN H0 H' D ds s n M :=
  ⟨⟨sm _ _ R.rows.lst, R.rows.len, fun j d h => ⟨(R.rows.row j d h).1, sm _ _ (R.rows.row j d h).2⟩⟩, R.nd, R.fr⟩
theorem ixN_nat {n j : Nat} (h : j < n) : ixN n (j : Int) = some j := by
  unfold ixN
  rw [if_pos (by omega), if_pos (by omega)]
  simp
theorem ixN_of {n j : Nat} {z : Int} (e : z = (j : Int)) (h : j < n) : ixN n z = some j := by rw [e]; exact ixN_nat h
theorem Mx.congr {K : PySem.W.Frag} {H : Hp} {a : Addr} {s n : Nat} {M M' : Nat → Nat → Int} (h : Mx K H a s n M) (e : ∀ x y, x < s → y < n → M x y = M' x y) : Mx K H a s n M' := by
  obtain ⟨rs, h1, h2, h3⟩ := h
  refine ⟨rs, h1, h2, fun i r hr => ?_⟩
  have hi : i < s := by rw [← h2]; exact (List.getElem?_eq_some_iff.mp hr).1
  rw [← vec_congr fun y hy => e i y hi hy]
  exact h3 i r hr
def rListOf (K : PySem.W.Frag) : List V → Hp → VK → Prop := fun xs H Q => ∃ p ys, xs = [.ref p] ∧ (SqL K H p ys ∨ SqT K H p ys) ∧ ∀ l, H l = none → Q (.ref l) (upd H l (.lst ys))
theorem cr_listOf {X : Cx} : CallR X (.type "list") (rListOf X.K) := call_list_of

def spWith (K : PySem.W.Frag) : Sp := fun vs H Q _ => ∃ (a : Addr) (m u v : Nat) (A : Tp.Tab), vs = [.ref a, .int u, .int v] ∧ Mx K H a m m (TabM A) ∧ m ≤ 129 ∧ u < m ∧ v < m ∧
  ∀ H' D, Same H H' → Mx K H' D m m (TabM (Tp.inc A u v)) → Q (.ref D) H'
section
variable {P : Program} {w : World} {K : PySem.W.Frag} {mg : Str → Option Value} {base : Heap}
theorem scWith : FnScope ["streets", "start", "goal", "longer", "row"] ["streets", "start", "goal"] (defScope sWith) := ⟨rfl, rfl, rfl, by decide +kernel, rfl, by decide +kernel, by decide +kernel⟩
theorem ok_with {f : Addr} {fd : FuncData} (F : Fun K "with_street" "with_street" sWith f fd) (T : Txt mg) : FnOk P w K mg base CX0 1 f fd ["streets", "start", "goal"] (spWith K) := by
  refine F.ok scWith (fun vs H Q E h => ?_) (fun cdv Ar outer s H vs Q E hr h => ?_)
  · obtain ⟨a, m, u, v, A, rfl, _⟩ := h
    rfl
  · obtain ⟨a, m, u, v, A, rfl, ⟨rs, hl, hrs, hrow⟩, hm, hu, hv, k⟩ := h
    refine ⟨_, pss_cons (ps_setLc (i := 3) rfl scWith.nd rfl rfl (sw_true rfl rfl rfl (by decide +kernel)) (pi_list (pv 0))
        (blkOk_by (own := [("row", 4)]) (by show blkC ["streets", "start", "goal", "longer", "row"] (defScope sWith) _ _ = true; decide +kernel))
        (fun s H C cl fp => pg_name (i := 4) scWith.nd rfl (Or.inl rfl)) (fun _ _ _ _ _ => pts_nil)
        (fun s H C cl fp => pe_callTy (r := rListOf K) cr_listOf rfl T.list boot_list (pa_cons (pv 4) pa_nil)))
      (pss_cons (ps_augS (pe_ix ix_list (pv 3) (pv 1) (fun _ _ => rfl)) (pv 2) get_list pe_int ip_add set_list)
      (pss_one (ps_ret (pv 3)))), ?_⟩
    refine ⟨_, rfl, a, rfl, ⟨_, hl⟩, fun D hD => lc_list (K := K) (a := a) (xs := rs.map V.ref) (fun i H4 => Same H H4 ∧ ∃ ds, RowsN H H4 D ds i m (TabM A))
      ⟨Same.new hD, [], RowsN.start⟩ (fun i H4 _ h4 => h4.1.seq hl) ?_ ?_⟩
    · rintro i y H4 hi ⟨sm4, ds, hds⟩
      obtain ⟨r, hr', rfl⟩ := ref_of hi
      have him : i < m := by rw [← hrs]; exact (List.getElem?_eq_some_iff.mp hr').1
      refine ⟨rfl, yes ?_⟩
      refine ⟨_, rfl, r, _, rfl, .inl (sm4.seq (hrow i r hr')), fun l hl5 => ?_⟩
      have s5 : Same H4 (upd H4 l (.lst (vec m (TabM A i)))) := Same.new hl5
      exact ⟨_, s5 _ _ hds.rows.lst, small1000 (by rw [List.length_map, hds.rows.len]; omega), Same.put (sm4.trans s5) hD, ds ++ [l], hds.more sm4 s5 hl5 upd_same⟩
    · rintro H4 ⟨sm4, ds, hds⟩
      rw [List.length_map, hrs] at hds
      obtain ⟨d, hd⟩ := ref_lt (rs := ds) (i := u) (by rw [hds.rows.len]; exact hu)
      have hrw := hds.rows.row u d hd
      refine ⟨_, rfl, _, rfl, D, _, _, _, rfl, rfl, SqL.of hds.rows.lst, atI_nat (ref_at hd), _, rfl, d, _, v, _, rfl, rfl, SqL.of hrw.2, vec_get hv,
        _, _, rfl, rfl, d, _, _, v, rfl, rfl, hrw.2, ixN_nat (by rw [vec_len]; exact hv), _, rfl, ?_⟩
      refine k _ D (Same.put sm4 (hds.fr u d hd)) ((hds.put hd v _).congr fun x y => ?_).rows.mx
      show _ = (((Tp.inc A u v x y : Nat)) : Int)
      unfold Tp.inc
      by_cases e : x = u ∧ y = v
      · rw [if_pos e, if_pos e, e.1, e.2]
        rfl
      · rw [if_neg e, if_neg e]
end

def spTrees (K : PySem.W.Frag) : Sp := fun vs H Q _ => ∃ (a : Addr) (m : Nat) (A : Tp.Tab), vs = [.ref a] ∧ Mx K H a m m (TabM A) ∧ 1 ≤ m ∧ m ≤ 129 ∧ Tp.tot m A ≤ 128 ∧ ∀ H', Same H H' → Q (.int (Tp.bare (m - 1) (Tp.sub m A) 1)) H'
section
variable {P : Program} {w : World} {K : PySem.W.Frag} {mg : Str → Option Value} {base : Heap}
theorem scTrees : FnScope ["streets", "table", "point", "row", "many"] ["streets"] (defScope sTrees) := ⟨rfl, rfl, rfl, by decide +kernel, rfl, by decide +kernel, by decide +kernel⟩
theorem ok_trees {f : Addr} {fd : FuncData} (F : Fun K "count_trees" "count_trees" sTrees f fd) (T : Txt mg) (G : Fc P w K mg base 2 "tree_determinant" ["table"] (spDet K)) : FnOk P w K mg base CX0 3 f fd ["streets"] (spTrees K) := by
  refine F.ok scTrees (fun vs H Q E h => ?_) (fun cdv Ar outer s H vs Q E hr h => ?_)
  · obtain ⟨a, m, A, rfl, _⟩ := h
    rfl
  · obtain ⟨a, m, A, rfl, ⟨rs, hl, hrs, hrow⟩, h1m, hm, ht, k⟩ := h
    obtain ⟨n, rfl⟩ : ∃ n, m = n + 1 := ⟨m - 1, by omega⟩
    refine ⟨_, pss_cons (ps_set (i := 1) scTrees.nd rfl (Or.inl rfl) (pe_lst pa_nil))
      (pss_cons (ps_for PassesOwn.never rfl (pi_range2 rfl T.range (pa_cons pe_int (pa_cons (pe_callB call_len_seq rfl T.len PySem.boot_len (pa_cons (pv 0) pa_nil)) pa_nil))) (pg_name (i := 2) scTrees.nd rfl (Or.inl rfl))
        (pss_cons (ps_setLc (i := 3) rfl scTrees.nd rfl rfl (sw_true rfl rfl rfl (by decide +kernel))
            (pi_list (pe_slice sl_list (pe_ix ix_list (pv 0) (pv 2) (fun _ _ => rfl)) (po_some pe_int) po_none))
            (blkOk_by (own := [("many", 4)]) (by show blkC ["streets", "table", "point", "row", "many"] (defScope sTrees) _ _ = true; decide +kernel))
            (fun s H C cl fp => pg_name (i := 4) scTrees.nd rfl (Or.inl rfl)) (fun _ _ _ _ _ => pts_nil)
            (fun s H C cl fp => pe_un un_neg (pv 4)))
        (pss_cons (ps_augS (pv 3) (pe_op op_sub (pv 2) pe_int) get_list (pe_callB (cr_sum rfl) rfl T.sum boot_sum (pa_cons (pe_ix ix_list (pv 0) (pv 2) (fun _ _ => rfl)) pa_nil)) ip_add set_list)
        (pss_one (ps_expr (pe_bm PySem.F.plainAttrs_list PySem.F.slot_list_append PySem.F.type_list_append mt_append (pv 1) (pa_cons (pv 3) pa_nil)))))))
      (pss_one (ps_ret (pe_fc G hr rfl (pa_cons (pv 1) pa_nil))))), ?_⟩
    refine ⟨by decide, fun tb htb => ?_⟩
    have s1 : Same H (upd H tb (.lst [])) := Same.new htb
    refine ⟨_, rfl, a, _, rfl, .inl (s1.seq hl), 1, _, rfl, ⟨by omega, by omega, by rw [List.length_map]; omega, by rw [List.length_map]; omega⟩, for_range (lo := 1)
      (fun i σ H2 => ∃ (ds : List Addr) (v2 v3 : Option V), σ = [some (.ref a), some (.ref tb), v2, v3, none] ∧ Same H H2 ∧ Rows H2 tb ds i n (Tp.sub (n + 1) A))
      ⟨[], none, none, rfl, s1, Rows.start⟩ ?_ ?_⟩
    · rintro i σ H2 hi ⟨ds, v2, v3, rfl, sm, hds⟩
      rw [List.length_map, hrs] at hi
      have hin : i < n := by omega
      obtain ⟨r, hr'⟩ := ref_lt (rs := rs) (i := i + 1) (by omega)
      have hq := sm.seq (hrow (i + 1) r hr')
      -- row = [-many for many in streets[point][1:]]
      refine ⟨_, rfl, _, rfl, a, _, _, _, rfl, rfl, sm.seq hl, at_of (j := i + 1) (by omega) (ref_at hr'), 1, rfl, r, _, rfl, hq, fun p hp => ?_⟩
      have s3 : Same H2 (upd H2 p (.lst (cutV (vec (n + 1) (TabM A (i + 1))) (some 1) none))) := Same.new hp
      have hcut : (upd H2 p (.lst (cutV (vec (n + 1) (TabM A (i + 1))) (some 1) none))) p = some (.lst (vec n (fun y => (A (i + 1) (y + 1) : Int)))) := by
        rw [upd_same, cut1, vec_tail]
      generalize upd H2 p (.lst (cutV (vec (n + 1) (TabM A (i + 1))) (some 1) none)) = H3 at s3 hcut ⊢
      refine ⟨p, rfl, ⟨_, SqL.of hcut⟩, fun D hD => lc_list (K := K) (a := p) (xs := vec n (fun y => (A (i + 1) (y + 1) : Int))) (fun j H4 => Same H3 H4 ∧ H4 D = some (.lst (vec j (fun y => -(A (i + 1) (y + 1) : Int)))))
        (lc_start hD) (fun j H4 _ h4 => h4.1.seq (SqL.of hcut)) ?_ ?_⟩
      · rintro j y H4 hj ⟨sm4, hD4⟩
        obtain ⟨hjn, rfl⟩ := vec_of hj
        refine ⟨rfl, yes ?_⟩
        refine ⟨_, rfl, _, rfl, vec j _, hD4, small1000 (by rw [vec_len]; omega), ?_⟩
        exact lc_turn (f := fun y => -(A (i + 1) (y + 1) : Int)) hD sm4
      · rintro H4 ⟨sm4, hD4⟩
        rw [vec_len] at hD4
        have s24 : Same H2 H4 := s3.trans sm4
        have hD2 : H2 D = none := s3.free hD
        have nDt : D ≠ tb := fun e => by rw [e, hds.lst] at hD2; cases hD2
        -- row[point - 1] += sum(streets[point])
        refine ⟨_, rfl, _, rfl, _, _, rfl, rfl, D, _, i, _, rfl, congrArg V.int (by omega), SqL.of hD4, vec_get hin, _, rfl, _, rfl, a, _, _, _, rfl, rfl, (sm.trans s24).seq hl, at_of (j := i + 1) (by omega) (ref_at hr'),
          r, vi (n + 1) (TabM A (i + 1)), rfl, s24.seq hq, _, _, rfl, rfl, D, _, _, i, rfl, rfl, hD4, ixN_of (by omega) (by rw [vec_len]; exact hin), ?_⟩
        -- table.append(row)
        have h5 : ∀ o, (upd H4 D o) tb = some (.lst (ds.map V.ref)) := fun o => by rw [upd_ne (Ne.symm nDt)]; exact s24 _ _ hds.lst
        refine ⟨_, rfl, .inl ⟨rfl, _, SqL.of (h5 _)⟩, _, rfl, tb, _, _, rfl, rfl, h5 _, small1000 (by rw [List.length_map, hds.len]; omega), ?_⟩
        have s25 : ∀ o, Same H2 (upd H4 D o) := fun o => Same.put s24 hD2
        refine ⟨ds ++ [D], _, _, rfl, Same.put (sm.trans (s25 _)) htb, hds.more (s25 _) hD2 ?_⟩
        rw [upd_same, vec_set]
        refine congrArg (fun q => some (HO.lst q)) (vec_congr fun y hy => ?_)
        have e1 : (vi (n + 1) (TabM A (i + 1))).sum = ((Tp.out (n + 1) A (i + 1) : Nat) : Int) := by
          rw [vi_sum]; exact (Tp.sn_cast _ (n + 1)).symm
        unfold Tp.sub Tp.lap Tp.dl
        by_cases e : y = i
        · subst e
          rw [if_pos rfl, if_pos rfl, e1]
          show -((A (y + 1) (y + 1) : Nat) : Int) + _ = _
          omega
        · rw [if_neg e, if_neg (by omega)]
          omega
    · rintro σ H2 ⟨ds, v2, v3, rfl, sm, hds⟩
      have e : ((((rs.map V.ref).length : Nat) : Int) - 1).toNat = n := by rw [List.length_map]; omega
      rw [e] at hds
      refine ⟨_, rfl, tb, n, Tp.sub (n + 1) A, rfl, hds.mx, by omega, ?_, fun H' sm' => ?_⟩
      · have := Tp.sub_elim (m := n + 1) (A := A) (d := 128) fun x hx => Nat.le_trans (Tp.out_le_tot hx) ht
        exact this
      · exact k H' (sm.trans sm')
end

def spRounds (K : PySem.W.Frag) : Sp := fun vs H Q _ => ∃ (a : Addr) (m : Nat) (A : Tp.Tab), vs = [.ref a] ∧ Mx K H a m m (TabM A) ∧ 1 ≤ m ∧ m ≤ 129 ∧ Tp.tot m A ≤ 128 ∧ ∀ H', Same H H' → Q (.int (Tp.rounds m A)) H'
section
variable {P : Program} {w : World} {K : PySem.W.Frag} {mg : Str → Option Value} {base : Heap}
theorem scRounds : FnScope ["streets", "rounds", "row"] ["streets"] (defScope sRounds) := ⟨rfl, rfl, rfl, by decide +kernel, rfl, by decide +kernel, by decide +kernel⟩
theorem rounds_bits {m i : Nat} {A : Tp.Tab} (hm : m ≤ 129) (hi : i ≤ m) (ht : Tp.tot m A ≤ 128) : (Tp.bare (m - 1) (Tp.sub m A) 1 * ((Tp.pr i (fun x => Tp.fac (Tp.out m A x - 1)) : Nat) : Int)).natAbs < 2 ^ 2000 := by
  have h1 := Tp.bare_bits (m := m) (A := A) hm fun x hx => Nat.le_trans (Tp.out_le_tot hx) ht
  have h2 := Tp.outs_le (A := A) hi ht
  rw [Int.natAbs_mul, Int.natAbs_natCast]
  refine lt_of_le_pow (m := 910 + 7 * Tp.tot m A) ?_ (by omega)
  rw [Nat.pow_add]
  exact Nat.mul_le_mul h1 h2
theorem ok_rounds {f : Addr} {fd : FuncData} (F : Fun K "count_rounds" "count_rounds" sRounds f fd) (T : Txt mg) (G : Fc P w K mg base 3 "count_trees" ["streets"] (spTrees K)) (Gf : Fc P w K mg base 1 "factorial" ["number"] spFac) :
    FnOk P w K mg base CX0 4 f fd ["streets"] (spRounds K) := by
  refine F.ok scRounds (fun vs H Q E h => ?_) (fun cdv Ar outer s H vs Q E hr h => ?_)
  · obtain ⟨a, m, A, rfl, _⟩ := h
    rfl
  · obtain ⟨a, m, A, rfl, hM, h1m, hm, ht, k⟩ := h
    obtain ⟨rs, hl, hrs, hrow⟩ := id hM
    refine ⟨_, pss_cons (ps_set (i := 1) scRounds.nd rfl (Or.inl rfl) (pe_fc G hr rfl (pa_cons (pv 0) pa_nil)))
      (pss_cons (ps_for PassesOwn.never rfl (pi_list (pv 0)) (pg_name (i := 2) scRounds.nd rfl (Or.inl rfl))
        (pss_one (ps_aug (i := 1) scRounds.nd rfl (Or.inl rfl) (pe_fc Gf (hr.mono (by decide)) rfl (pa_cons (pe_op op_sub (pe_callB (cr_sum rfl) rfl T.sum boot_sum (pa_cons (pv 2) pa_nil)) pe_int) pa_nil)) iop_mulB)))
      (pss_one (ps_ret (pv 1)))), ?_⟩
    refine ⟨_, rfl, a, m, A, rfl, hM, h1m, hm, ht, fun H1 sm1 => ?_⟩
    refine ⟨_, rfl, a, rfl, ⟨_, sm1.seq hl⟩, for_list (K := K) (a := a) (xs := rs.map V.ref)
      (fun i σ H2 => ∃ v : Option V, σ = [some (.ref a), some (.int (Tp.bare (m - 1) (Tp.sub m A) 1 * ((Tp.pr i (fun x => Tp.fac (Tp.out m A x - 1)) : Nat) : Int))), v] ∧ H2 = H1)
      ⟨none, by simp [Tp.pr, gName]; rfl, rfl⟩ (fun i σ H2 _ ⟨_, _, e⟩ => by rw [e]; exact sm1.seq hl) ?_ ?_⟩
    · rintro i y σ H2 hi ⟨v, rfl, rfl⟩
      obtain ⟨r, hr', rfl⟩ := ref_of hi
      have him : i < m := by rw [← hrs]; exact (List.getElem?_eq_some_iff.mp hr').1
      have ho : Tp.out m A i ≤ 128 := Nat.le_trans (Tp.out_le_tot him) ht
      have e1 : (vi m (TabM A i)).sum = ((Tp.out m A i : Nat) : Int) := by
        rw [vi_sum]; exact (Tp.sn_cast _ m).symm
      have hz : ((vi m (TabM A i)).sum - 1).toNat = Tp.out m A i - 1 := by rw [e1]; omega
      refine ⟨_, rfl, _, rfl, r, vi m (TabM A i), rfl, sm1.seq (hrow i r hr'), _, _, rfl, rfl, _, rfl, by rw [e1]; omega, by rw [e1]; omega, _, _, rfl, rfl, ?_, ?_⟩
      · refine mulOk (m := 2000) (n := 1000) (rounds_bits hm (by omega) ht) ?_ (by decide)
        rw [Int.natAbs_natCast, hz]
        exact lt_of_le_pow (Tp.fac_le (n := Tp.out m A i - 1) (by omega)) (by omega)
      · refine ⟨some (V.ref r), ?_, rfl⟩
        refine congrArg (fun q => [some (V.ref a), some (V.int q), some (V.ref r)]) ?_
        have e2 : Tp.pr (i + 1) (fun x => Tp.fac (Tp.out m A x - 1)) = Tp.pr i (fun x => Tp.fac (Tp.out m A x - 1)) * Tp.fac (Tp.out m A i - 1) := rfl
        rw [hz, e2, Int.natCast_mul, Int.mul_assoc]
    · rintro σ H2 ⟨v, rfl, rfl⟩
      refine ⟨_, rfl, ?_⟩
      rw [List.length_map, hrs]
      exact k _ sm1
end
end Pg
end
section
set_option Elab.async false
set_option linter.all false
set_option maxRecDepth 100000
set_option exponentiation.threshold 10
namespace Pg
open PySem L2 PyProof.Rows
abbrev sTexts : Stmt := top 16
def spTexts (K : PySem.W.Frag) : Sp := fun vs H Q _ => ∃ (a : Addr) (m : Nat) (A : Tp.Tab), vs = [.ref a] ∧ Mx K H a m m (TabM A) ∧ 1 ≤ m ∧ m ≤ 128 ∧ Tp.tot m A ≤ 64 ∧ (∀ x, x < m → 0 < Tp.out m A x + Tp.inn m A x) ∧
  ∀ H', Same H H' → Q (.int (Tp.sn m (fun v => Tp.wy m (Tp.tot m A) A v) : Nat)) H'
section
variable {P : Program} {w : World} {K : PySem.W.Frag} {mg : Str → Option Value} {base : Heap}
theorem scTexts : FnScope ["streets", "surplus", "uneven", "closed", "point", "more"] ["streets"] (defScope sTexts) := ⟨rfl, rfl, rfl, by decide +kernel, rfl, by decide +kernel, by decide +kernel⟩
theorem vec_flat (n : Nat) (f : Nat → Int) : (vec n f).all flatV = true := by
  rw [List.all_eq_true]
  intro x hx
  obtain ⟨j, hj⟩ := List.mem_iff_getElem?.mp hx
  obtain ⟨_, rfl⟩ := vec_of hj
  rfl
theorem swp_bits {m : Nat} {A : Tp.Tab} (ht : Tp.tot m A ≤ 64) : ((Tp.swp m A : Nat) : Int) ≠ 0 ∧ ((Tp.swp m A : Nat) : Int).natAbs.log2 < 9000 := by
  have h1 := Tp.swp_pos m A
  have h2 : Tp.swp m A ≤ 2 ^ (7 * Tp.tot m A) := Tp.swp_le (A := A) (Nat.le_refl m) (by omega)
  refine ⟨by omega, log2_lt_of ?_⟩
  rw [Int.natAbs_natCast]
  exact lt_of_le_pow h2 (by omega)
/-- a place in a list of ints, found by its value -/
theorem ix_first {m : Nat} {f : Nat → Int} {u : Nat} {z : Int} (hn : ∀ i, i < u → f i ≠ z) (hu : u ≤ m) : ∀ (j : Nat) (z' : V), j < u → (vec m f)[j]? = some z' → eqV z' (V.int z) = false := by
  intro j z' hj h
  obtain ⟨_, rfl⟩ := vec_of h
  exact beq_eq_false_iff_ne.mpr (hn j hj)
theorem ok_texts {f : Addr} {fd : FuncData} (F : Fun K "count_texts" "count_texts" sTexts f fd) (T : Txt mg) (Gs : Fc P w K mg base 1 "surplus_at" ["streets", "point"] (spSurplus K)) (Gn : Fc P w K mg base 1 "count_streets" ["streets"] (spStreets K))
    (Gr : Fc P w K mg base 4 "count_rounds" ["streets"] (spRounds K)) (Gw : Fc P w K mg base 2 "count_swaps" ["streets"] (spSwaps K)) (Gc : Fc P w K mg base 1 "with_street" ["streets", "start", "goal"] (spWith K)) :
    FnOk P w K mg base CX0 5 f fd ["streets"] (spTexts K) := by
  refine F.ok scTexts (fun vs H Q E h => ?_) (fun cdv Ar outer s H vs Q E hr h => ?_)
  · obtain ⟨a, m, A, rfl, _⟩ := h
    rfl
  · obtain ⟨a, m, A, rfl, hM, h1m, hm, ht, hto, k⟩ := h
    obtain ⟨rs, hl, hrs, hrow⟩ := id hM
    have hr1 : Room 1 _ := hr.mono (by decide)
    have hr2 : Room 2 _ := hr.mono (by decide)
    refine ⟨_, pss_cons (ps_setLc (i := 1) rfl scTexts.nd rfl rfl (sw_true rfl rfl rfl (by decide +kernel))
        (pi_range1 rfl T.range (pa_cons (pe_callB call_len_seq rfl T.len PySem.boot_len (pa_cons (pv 0) pa_nil)) pa_nil))
        (blkOk_by (own := [("point", 4)]) (by show blkC ["streets", "surplus", "uneven", "closed", "point", "more"] (defScope sTexts) _ _ = true; decide +kernel))
        (fun s H C cl fp => pg_name (i := 4) scTexts.nd rfl (Or.inl rfl)) (fun _ _ _ _ _ => pts_nil)
        (fun s H C cl fp => pe_fc Gs hr1 rfl (pa_cons (pv 0) (pa_cons (pv 4) pa_nil))))
      (pss_cons (ps_set (i := 2) scTexts.nd rfl (Or.inl rfl) (pe_callB (cr_sum rfl) rfl T.sum boot_sum (pa_cons (pe_lc rfl scTexts.nd (pi_list (pv 1))
        (blkOk_by (own := [("more", 5)]) (by show blkC ["streets", "surplus", "uneven", "closed", "point", "more"] (defScope sTexts) _ _ = true; decide +kernel))
        (fun s H C cl fp => pg_name (i := 5) scTexts.nd rfl (Or.inl rfl)) (fun _ _ _ _ _ => pts_nil)
        (fun s H C cl fp => pe_callB call_abs rfl T.abs boot_abs (pa_cons (pv 5) pa_nil))) pa_nil)))
      (pss_cons (ps_if (pt_cmpR op_eq (pv 2) pe_int (nomark _))
        (pss_one (ps_ret (pe_op op_fdivB (pe_op op_mulB (pe_fc Gn hr1 rfl (pa_cons (pv 0) pa_nil)) (pe_fc Gr hr rfl (pa_cons (pv 0) pa_nil))) (pe_fc Gw hr2 rfl (pa_cons (pv 0) pa_nil))))) pss_nil)
      (pss_cons (ps_if (pt_cmpR op_eq (pv 2) pe_int (nomark _))
        (pss_cons (ps_set (i := 3) scTexts.nd rfl (Or.inl rfl) (pe_fc Gc hr1 rfl (pa_cons (pv 0)
            (pa_cons (pe_bm PySem.F.plainAttrs_list PySem.F.slot_list_index PySem.F.type_list_index mt_index (pv 1) (pa_cons pe_int pa_nil))
            (pa_cons (pe_bm PySem.F.plainAttrs_list PySem.F.slot_list_index PySem.F.type_list_index mt_index (pv 1) (pa_cons (pe_un un_neg pe_int) pa_nil)) pa_nil)))))
        (pss_one (ps_ret (pe_op op_fdivB (pe_fc Gr hr rfl (pa_cons (pv 3) pa_nil)) (pe_fc Gw hr2 rfl (pa_cons (pv 0) pa_nil)))))) pss_nil)
      (pss_one (ps_ret pe_int))))), ?_⟩
    -- surplus = [surplus_at(streets, point) for point in range(len(streets))]
    refine ⟨_, rfl, a, _, rfl, .inl hl, _, rfl, by rw [List.length_map]; omega, by rw [List.length_map]; omega, fun D hD => lc_range (lo := 0)
      (fun i H2 => Same H H2 ∧ H2 D = some (.lst (vec i (Tp.srp m A)))) (lc_start hD) ?_ ?_⟩
    · rintro i H2 hi ⟨sm2, hD2⟩
      rw [List.length_map, hrs] at hi
      have him : i < m := by omega
      refine ⟨rfl, yes ?_⟩
      refine ⟨_, rfl, _, rfl, a, m, i, A, by rw [Int.zero_add]; rfl, hM.same sm2, by omega, him, fun H3 sm3 => ?_⟩
      exact ⟨vec i _, sm3 _ _ hD2, small1000 (by rw [vec_len]; omega), lc_turn (f := Tp.srp m A) hD (sm2.trans sm3)⟩
    · rintro H2 ⟨sm2, hD2⟩
      have e : ((((rs.map V.ref).length : Nat) : Int)).toNat = m := by rw [List.length_map]; omega
      rw [e] at hD2
      -- uneven = sum([abs(more) for more in surplus])
      refine ⟨_, rfl, D, rfl, ⟨_, SqL.of hD2⟩, fun B hB => lc_list (K := K) (a := D) (xs := vec m (Tp.srp m A))
        (fun i H3 => Same H2 H3 ∧ H3 B = some (.lst (vec i (fun x => Tp.ab (Tp.srp m A x))))) (lc_start hB) (fun i H3 _ h3 => h3.1.seq (SqL.of hD2)) ?_ ?_⟩
      · rintro i y H3 hi ⟨sm3, hB3⟩
        obtain ⟨him, rfl⟩ := vec_of hi
        refine ⟨rfl, yes ?_⟩
        refine ⟨_, rfl, _, rfl, vec i _, hB3, small1000 (by rw [vec_len]; omega), ?_⟩
        exact lc_turn (f := fun x => Tp.ab (Tp.srp m A x)) hB sm3
      · rintro H3 ⟨sm3, hB3⟩
        rw [vec_len] at hB3
        refine ⟨B, vi m _, rfl, SqL.of hB3, ?_⟩
        have es : (vi m (fun x => Tp.ab (Tp.srp m A x))).sum = Tp.sm m (fun x => Tp.ab (Tp.srp m A x)) := vi_sum _ m
        rw [es]
        have s3 : Same H H3 := sm2.trans sm3
        have hM3 := hM.same s3
        refine ⟨_, rfl, rfl, _, rfl, ?_⟩
        refine ite2 (fun h0 => ?_) (fun h0 => ?_)
        · -- every way ends where it began
          have hz : Tp.sm m (fun x => Tp.ab (Tp.srp m A x)) = 0 := by
            have := of_decide_eq_true h0
            injection this
          have he := Tp.ab_sum_zero hz
          have he2 : ∀ x, x < m → Tp.out m A x = Tp.inn m A x := fun x hx => by
            have := he x hx
            unfold Tp.srp at this
            omega
          have hp : ∀ x, x < m → 0 < Tp.out m A x := fun x hx => by
            have := hto x hx
            have := he2 x hx
            omega
          refine ⟨_, rfl, a, m, A, rfl, hM3, by omega, fun H4 sm4 => ?_⟩
          refine ⟨_, rfl, a, m, A, rfl, hM3.same sm4, h1m, by omega, by omega, fun H5 sm5 => ?_⟩
          refine ⟨_, _, rfl, rfl, ?_, ?_⟩
          · refine mulOk (m := 10) (n := 2000) ?_ (rounds_bits (by omega) (Nat.le_refl m) (by omega)) (by decide)
            rw [Int.natAbs_natCast]
            exact Nat.lt_of_le_of_lt ht (by decide)
          · refine ⟨_, rfl, a, m, A, rfl, (hM3.same sm4).same sm5, by omega, by omega, ?_⟩
            refine ⟨_, _, rfl, rfl, swp_bits ht, ?_⟩
            show Q (V.int _) _
            rw [Tp.ways_even hp he2]
            exact k _ (s3.trans (sm4.trans sm5))
        · have h0' : Tp.sm m (fun x => Tp.ab (Tp.srp m A x)) ≠ 0 := fun e => h0 (decide_eq_true (by rw [e]))
          refine ⟨_, rfl, rfl, _, rfl, ?_⟩
          refine ite2 (fun h2 => ?_) (fun h2 => ?_)
          · -- one first point, one last
            have hz : Tp.sm m (fun x => Tp.ab (Tp.srp m A x)) = 2 := by
              have := of_decide_eq_true h2
              injection this
            obtain ⟨u, v, hu, hv, hu1, hv1, hrest⟩ := Tp.two_uneven (Tp.srp_sum m A) hz
            have hne : v ≠ u := fun e => by rw [e, hu1] at hv1; omega
            have hb := Tp.bal_of_srp hu1 hv1 hrest
            have hD3 : SqL K H3 D (vec m (Tp.srp m A)) := SqL.of (sm3 _ _ hD2)
            refine ⟨_, rfl, _, rfl, .inl ⟨rfl, _, hD3⟩, D, _, _, u, _, rfl, rfl, hD3, rfl, vec_flat _ _, vec_get hu, by rw [hu1]; rfl, ix_first (fun i hi hh => ?_) (Nat.le_of_lt hu),
              _, rfl, .inl ⟨rfl, _, hD3⟩, _, rfl, D, _, _, v, _, rfl, rfl, hD3, rfl, vec_flat _ _, vec_get hv, by rw [hv1]; rfl, ix_first (fun i hi hh => ?_) (Nat.le_of_lt hv), ?_⟩
            · have hiu : i ≠ u := by omega
              by_cases hiv : i = v
              · rw [hiv, hv1] at hh; omega
              · rw [hrest i (by omega) hiu hiv] at hh; omega
            · have hiv : i ≠ v := by omega
              by_cases hiu : i = u
              · rw [hiu, hu1] at hh; omega
              · rw [hrest i (by omega) hiu hiv] at hh; omega
            · refine ⟨a, m, u, v, A, rfl, hM3, by omega, hu, hv, fun H4 C sm4 hC => ?_⟩
              have htc : Tp.tot m (Tp.inc A u v) ≤ 128 := by rw [Tp.tot_inc hu hv]; omega
              refine ⟨_, rfl, C, m, Tp.inc A u v, rfl, hC, h1m, by omega, htc, fun H5 sm5 => ?_⟩
              refine ⟨_, rfl, a, m, A, rfl, (hM3.same sm4).same sm5, by omega, by omega, ?_⟩
              refine ⟨_, _, rfl, rfl, swp_bits ht, ?_⟩
              show Q (V.int _) _
              rw [Tp.ways_one hv hu hne hb hto]
              exact k _ (s3.trans (sm4.trans sm5))
          · have h2' : Tp.sm m (fun x => Tp.ab (Tp.srp m A x)) ≠ 2 := fun e => h2 (decide_eq_true (by rw [e]))
            show Q (V.int 0) _
            have := k _ s3
            rw [Tp.no_ways h0' h2'] at this
            exact this
end
end Pg
end
section
set_option Elab.async false
set_option linter.all false
set_option maxRecDepth 100000
set_option exponentiation.threshold 10
namespace Pg
open PySem L2 PyProof.Rows
abbrev sBeg : Stmt := top 12
abbrev sEnd : Stmt := top 13
abbrev sNum : Stmt := top 14
abbrev sTab : Stmt := top 15

/-! ### letters, points as keys -/
theorem iv_bg (t : List Nat) : cutV (iv t) none (some (-1)) = iv (Tp.bg t) := by
  unfold cutV HT.sIx
  simp only [show ((-1 : Int) < 0) by decide, if_true, Nat.sub_zero, List.drop_zero]
  rw [iv_len]
  have e : ((-1 : Int) + (t.length : Int)).toNat = t.length - 1 := by omega
  rw [e]
  unfold iv Tp.bg
  rw [List.map_take]
theorem iv_fi (t : List Nat) : cutV (iv t) (some 1) none = iv (Tp.fi t) := by
  rw [cut1]
  unfold iv Tp.fi
  rw [List.map_drop]
def keyT (t : List Nat) : List Key := t.map fun (n : Nat) => Sum.inl (n : Int)
theorem keyT_kV (t : List Nat) : (keyT t).map kV = iv t := by
  unfold keyT iv
  rw [List.map_map]
  rfl
theorem keyT_inj {s t : List Nat} (h : keyT s = keyT t) : s = t := by
  unfold keyT at h
  refine (List.map_inj_right fun a b e => ?_).mp h
  have e' := Sum.inl.inj e
  omega
/-- the dict of points: each with its number -/
def kvF (n : Nat) (L : List (List Nat)) : List (List Key × V) := (L.zipIdx n).map fun q => (keyT q.1, V.int (q.2 : Int))
theorem kvF_cons (n : Nat) (t : List Nat) (L : List (List Nat)) : kvF n (t :: L) = (keyT t, V.int (n : Int)) :: kvF (n + 1) L := by
  unfold kvF
  rw [List.zipIdx_cons, List.map_cons]
theorem kvF_len (n : Nat) (L : List (List Nat)) : (kvF n L).length = L.length := by simp [kvF]
theorem idx_ne {s t : List Nat} (L : List (List Nat)) (h : s ≠ t) : (s :: L).idxOf t = L.idxOf t + 1 := by
  rw [List.idxOf_cons, beq_eq_false_iff_ne.mpr h]
  rfl
theorem val_kvF (t : List Nat) : ∀ (n : Nat) (L : List (List Nat)), t ∈ L → valV (kvF n L) (keyT t) = some (V.int ((n + L.idxOf t : Nat) : Int))
  | _, [], h => by simp at h
  | n, s :: L, h => by
    rw [kvF_cons]
    by_cases e : s = t
    · subst e
      rw [valV_pos rfl, List.idxOf_cons_self]
      rfl
    · rw [valV_neg (fun q => e (keyT_inj q)), val_kvF t (n + 1) L (by rcases List.mem_cons.mp h with q | q; exact absurd q.symm e; exact q), idx_ne L e]
      congr 3
      omega
theorem no_kvF (t : List Nat) : ∀ (n : Nat) (L : List (List Nat)), t ∉ L → valV (kvF n L) (keyT t) = none
  | _, [], _ => rfl
  | n, s :: L, h => by
    rw [kvF_cons, valV_neg (fun q => h (List.mem_cons.mpr (.inl (keyT_inj q).symm))), no_kvF t (n + 1) L fun q => h (by simp [q])]
theorem put_kvF {t : List Nat} {L : List (List Nat)} (h : t ∉ L) : putK (kvF 0 L) (keyT t) (V.int (L.length : Int)) = kvF 0 (L ++ [t]) := by
  rw [putK_new _ (no_kvF t 0 L h)]
  unfold kvF
  rw [List.zipIdx_append, List.map_append]
  simp [List.zipIdx_cons]
/-- d.setdefault(point, len(d)) -/
def rSetP : V → List V → Hp → VK → Prop := fun x vs H Q => ∃ (d b : Addr) (L : List (List Nat)) (t : List Nat), x = .ref d ∧ vs = [.ref b, .int (L.length : Int)] ∧ H d = some (.dT (kvF 0 L)) ∧ H b = some (.tup (iv t)) ∧ L.length < sizeLine ∧
  ∀ z H', H' d = some (.dT (kvF 0 (Tp.addp L t))) → (∀ c, c ≠ d → H' c = H c) → Q z H'
theorem mt_setP {X : Cx} (hu : X.A.units + 1 < cLine) : MtR X "dict.setdefault" rSetP := by
  intro pins s σ H x xs v us Q I rx rv h
  obtain ⟨d, b, L, t, rfl, rfl, hd, hb, hl, q⟩ := h
  refine mt_setdef hu pins s σ H _ _ v us Q I rx rv ⟨d, b, kvF 0 L, keyT t, _, rfl, rfl, hd, by rw [keyT_kV]; exact hb, by rw [kvF_len]; exact hl, fun z hz => ?_, fun hn => ?_⟩
  · have ht : t ∈ L := Classical.byContradiction fun hn => by rw [no_kvF t 0 L hn] at hz; cases hz
    refine q z H ?_ fun c _ => rfl
    unfold Tp.addp
    rw [if_pos ht]
    exact hd
  · have ht : t ∉ L := fun hm => by rw [val_kvF t 0 L hm] at hn; cases hn
    refine q _ _ ?_ fun c hc => upd_ne hc
    rw [upd_same, put_kvF ht]
    unfold Tp.addp
    rw [if_neg ht]
/-- over the keys of a locked dict -/
theorem lc_keysT {d : Addr} {o : Obj} {kvs : List (List Key × V)} {g : TG} {tt : TT} {te : TE} {vs : List Nat} {σ : L2.St} {H1 : Hp} {D : Addr} {Qd : Hp → Prop} (Pv : Nat → Hp → Prop) (h0 : Pv 0 (upd H1 D (.lst []))) (hl : ∀ i H, i ≤ kvs.length → Pv i H → H d = some (.frz o (.dT kvs)))
    (hs : ∀ i q H, i < kvs.length → Pv i H → g (.ref q) (wipe σ vs) H fun σ2 H2 => wipe σ2 vs = wipe σ vs ∧ tt σ2 H2 fun b H3 =>
      if b = true then te σ2 H3 fun y H4 => ∃ acc, H4 D = some (.lst acc) ∧ acc.length < sizeLine ∧ Pv (i + 1) (upd H4 D (.lst (acc ++ [y]))) else Pv (i + 1) H3) (hd : ∀ H, Pv kvs.length H → Qd H) :
    ∃ W : Nat → Nat → Hp → Prop, (∃ m, W 0 m (upd H1 D (.lst []))) ∧ ∀ i m H, W i m H →
      ((Itkt d o kvs).stop i H ∧ Qd H) ∨ ((Itkt d o kvs).go i H ∧ ∃ Nx : Hp → Prop, (∀ H', Nx H' → ∃ m', m' < m ∧ W (i + 1) m' H') ∧ ∀ x H', (Itkt d o kvs).yld i H x H' → g x (wipe σ vs) H' fun σ2 H2 => wipe σ2 vs = wipe σ vs ∧ tt σ2 H2 fun b H3 =>
        if b = true then te σ2 H3 fun y H4 => ∃ acc, H4 D = some (.lst acc) ∧ acc.length < sizeLine ∧ Nx (upd H4 D (.lst (acc ++ [y]))) else Nx H3) := by
  refine ⟨fun i m H => m = kvs.length - i ∧ i ≤ kvs.length ∧ Pv i H, ⟨kvs.length, by simp, Nat.zero_le _, h0⟩, ?_⟩
  rintro i m H ⟨rfl, hi, p⟩
  have q := hl i H hi p
  by_cases hlt : i < kvs.length
  · refine .inr ⟨⟨q, hlt⟩, Pv (i + 1), fun H' p' => ⟨kvs.length - (i + 1), by omega, rfl, hlt, p'⟩, fun x H' y => ?_⟩
    obtain ⟨e, _, _, b, _, ex, _⟩ := y
    subst e; subst ex
    exact hs i b _ hlt p
  · have e : i = kvs.length := by omega
    subst e
    exact .inl ⟨⟨q, Nat.le_refl _⟩, hd H p⟩

/-! ### the pieces, read -/
def Pl (K : PySem.W.Frag) (H : Hp) (a : Addr) (ps : List (List Nat)) : Prop :=
  ∃ rs : List Addr, SqL K H a (rs.map V.ref) ∧ rs.length = ps.length ∧ ∀ (i : Nat) (r : Addr) (p : List Nat), rs[i]? = some r → ps[i]? = some p → SqL K H r (iv p)
theorem Pl.same {K : PySem.W.Frag} {H H' : Hp} {a : Addr} {ps : List (List Nat)} (e : Same H H') (h : Pl K H a ps) : Pl K H' a ps := by
  obtain ⟨rs, h1, h2, h3⟩ := h
  exact ⟨rs, e.seq h1, h2, fun i r p hr hp => e.seq (h3 i r p hr hp)⟩
/-- a piece: a list, or a tuple that is not empty -/
def Rw (K : PySem.W.Frag) (H : Hp) (r : Addr) (p : List Nat) : Prop := SqL K H r (iv p) ∨ (H r = some (.tup (iv p)) ∧ p ≠ [])
theorem Rw.same {K : PySem.W.Frag} {H H' : Hp} {r : Addr} {p : List Nat} (h : Rw K H r p) (e : Same H H') : Rw K H' r p := by
  rcases h with h | ⟨h, hn⟩
  · exact .inl (e.seq h)
  · exact .inr ⟨e _ _ h, hn⟩
/-- a list of pieces -/
def Pr (K : PySem.W.Frag) (H : Hp) (a : Addr) (ps : List (List Nat)) : Prop :=
  ∃ rs : List Addr, SqL K H a (rs.map V.ref) ∧ rs.length = ps.length ∧ ∀ (i : Nat) (r : Addr) (p : List Nat), rs[i]? = some r → ps[i]? = some p → Rw K H r p
theorem Pl.pr {K : PySem.W.Frag} {H : Hp} {a : Addr} {ps : List (List Nat)} (h : Pl K H a ps) : Pr K H a ps := by
  obtain ⟨rs, h1, h2, h3⟩ := h
  exact ⟨rs, h1, h2, fun i r p hr hp => .inl (h3 i r p hr hp)⟩
theorem Pr.same {K : PySem.W.Frag} {H H' : Hp} {a : Addr} {ps : List (List Nat)} (e : Same H H') (h : Pr K H a ps) : Pr K H' a ps := by
  obtain ⟨rs, h1, h2, h3⟩ := h
  exact ⟨rs, e.seq h1, h2, fun i r p hr hp => (h3 i r p hr hp).same e⟩
theorem ps_at {rs : List Addr} {ps : List (List Nat)} {i : Nat} {r : Addr} (e : rs.length = ps.length) (h : rs[i]? = some r) : ∃ p, ps[i]? = some p ∧ p ∈ ps := by
  have hi : i < ps.length := by rw [← e]; exact (List.getElem?_eq_some_iff.mp h).1
  exact ⟨ps[i], List.getElem?_eq_getElem hi, List.getElem_mem hi⟩

def spBeg (K : PySem.W.Frag) : Sp := fun vs H Q _ => ∃ (r : Addr) (p : List Nat), vs = [.ref r] ∧ Rw K H r p ∧ ∀ H' q, Same H H' → H q = none → H' q = some (.tup (iv (Tp.bg p))) → Q (.ref q) H'
def spEnd (K : PySem.W.Frag) : Sp := fun vs H Q _ => ∃ (r : Addr) (p : List Nat), vs = [.ref r] ∧ Rw K H r p ∧ ∀ H' q, Same H H' → H q = none → H' q = some (.tup (iv (Tp.fi p))) → Q (.ref q) H'
def spNum (K : PySem.W.Frag) : Sp := fun vs H Q _ => ∃ (a : Addr) (ps : List (List Nat)), vs = [.ref a] ∧ Pr K H a ps ∧ ps.length ≤ 64 ∧ ∀ H' d, Same H H' → H d = none → H' d = some (.dT (kvF 0 (Tp.pts [] ps))) → Q (.ref d) H'
def spTab (K : PySem.W.Frag) : Sp := fun vs H Q _ => ∃ (a : Addr) (ps : List (List Nat)), vs = [.ref a] ∧ Pr K H a ps ∧ ps.length ≤ 64 ∧ ∀ H' D, Same H H' → Mx K H' D (Tp.np ps) (Tp.np ps) (TabM (Tp.tab (Tp.ix ps) ps)) → Q (.ref D) H'
section
variable {P : Program} {w : World} {K : PySem.W.Frag} {mg : Str → Option Value} {base : Heap}
theorem scBeg : FnScope ["piece"] ["piece"] (defScope sBeg) := ⟨rfl, rfl, rfl, by decide +kernel, rfl, by decide +kernel, by decide +kernel⟩
theorem ok_beg {f : Addr} {fd : FuncData} (F : Fun K "beginning_of" "beginning_of" sBeg f fd) (T : Txt mg) : FnOk P w K mg base CX0 1 f fd ["piece"] (spBeg K) := by
  refine F.ok scBeg (fun vs H Q E h => ?_) (fun cdv Ar outer s H vs Q E hr h => ?_)
  · obtain ⟨r, p, rfl, _⟩ := h
    rfl
  · obtain ⟨r, p, rfl, hq, k⟩ := h
    refine ⟨_, pss_one (ps_ret (pe_callTy call_tuple_of rfl T.tuple boot_tuple (pa_cons (pe_slice (SlR.or sl_list sl_tup) (pv 0) po_none (po_some (pe_un un_neg pe_int))) pa_nil))), ?_⟩
    rcases hq with hq | ⟨hq, hne⟩
    · refine ⟨_, rfl, _, rfl, _, rfl, .inl ⟨r, _, rfl, hq, fun l hl => ⟨l, _, rfl, .inl ⟨SqL.of upd_same, fun q hq2 => ?_⟩⟩⟩⟩
      have s1 : Same H (upd H l (.lst (cutV (iv p) none (some (-1))))) := Same.new hl
      refine k _ q (s1.trans (Same.new hq2)) (s1.free hq2) ?_
      rw [upd_same, ← iv_bg]
    · refine ⟨_, rfl, _, rfl, _, rfl, .inr ⟨r, _, rfl, SqT.of hq, ?_, fun l hl => ⟨l, _, rfl, .inr ⟨SqT.of upd_same, k _ l (Same.new hl) hl ?_⟩⟩⟩⟩
      · have hp := List.length_pos_iff.mpr hne
        rintro ⟨_, e⟩
        rw [iv_len] at e
        unfold HT.sIx at e
        simp only [show ((-1 : Int) < 0) by decide, if_true] at e
        omega
      · rw [upd_same, ← iv_bg]
theorem scEnd : FnScope ["piece"] ["piece"] (defScope sEnd) := ⟨rfl, rfl, rfl, by decide +kernel, rfl, by decide +kernel, by decide +kernel⟩
theorem ok_end {f : Addr} {fd : FuncData} (F : Fun K "end_of" "end_of" sEnd f fd) (T : Txt mg) : FnOk P w K mg base CX0 1 f fd ["piece"] (spEnd K) := by
  refine F.ok scEnd (fun vs H Q E h => ?_) (fun cdv Ar outer s H vs Q E hr h => ?_)
  · obtain ⟨r, p, rfl, _⟩ := h
    rfl
  · obtain ⟨r, p, rfl, hq, k⟩ := h
    refine ⟨_, pss_one (ps_ret (pe_callTy call_tuple_of rfl T.tuple boot_tuple (pa_cons (pe_slice (SlR.or sl_list sl_tup) (pv 0) (po_some pe_int) po_none) pa_nil))), ?_⟩
    rcases hq with hq | ⟨hq, hne⟩
    · refine ⟨_, rfl, 1, rfl, .inl ⟨r, _, rfl, hq, fun l hl => ⟨l, _, rfl, .inl ⟨SqL.of upd_same, fun q hq2 => ?_⟩⟩⟩⟩
      have s1 : Same H (upd H l (.lst (cutV (iv p) (some 1) none))) := Same.new hl
      refine k _ q (s1.trans (Same.new hq2)) (s1.free hq2) ?_
      rw [upd_same, ← iv_fi]
    · refine ⟨_, rfl, 1, rfl, .inr ⟨r, _, rfl, SqT.of hq, ?_, fun l hl => ⟨l, _, rfl, .inr ⟨SqT.of upd_same, k _ l (Same.new hl) hl ?_⟩⟩⟩⟩
      · have hp := List.length_pos_iff.mpr hne
        rintro ⟨e, _⟩
        rw [iv_len] at e
        have e2 : min 1 p.length = 0 := e
        omega
      · rw [upd_same, ← iv_fi]
theorem scNum : FnScope ["pieces", "numbers", "piece"] ["pieces"] (defScope sNum) := ⟨rfl, rfl, rfl, by decide +kernel, rfl, by decide +kernel, by decide +kernel⟩
/-- what was there before and is not d stays -/
theorem Same.but {H H2 H3 : Hp} {d : Addr} (s : Same H H2) (hd : H d = none) (h : ∀ c, c ≠ d → H3 c = H2 c) : Same H H3 := fun b o e => by
  rw [h b (ne_of_none e hd)]; exact s b o e
theorem ok_num {f : Addr} {fd : FuncData} (F : Fun K "number_points" "number_points" sNum f fd) (T : Txt mg) (Gb : Fc P w K mg base 1 "beginning_of" ["piece"] (spBeg K)) (Ge : Fc P w K mg base 1 "end_of" ["piece"] (spEnd K)) :
    FnOk P w K mg base CX0 2 f fd ["pieces"] (spNum K) := by
  refine F.ok scNum (fun vs H Q E h => ?_) (fun cdv Ar outer s H vs Q E hr h => ?_)
  · obtain ⟨a, ps, rfl, _⟩ := h
    rfl
  · obtain ⟨a, ps, rfl, ⟨rs, hl, hrs, hrow⟩, hn, k⟩ := h
    have hu := hu_of hr
    refine ⟨_, pss_cons (ps_set (i := 1) scNum.nd rfl (Or.inl rfl) pe_dnewT)
      (pss_cons (ps_for PassesOwn.never rfl (pi_list (pv 0)) (pg_name (i := 2) scNum.nd rfl (Or.inl rfl))
        (pss_cons (ps_expr (pe_bm PySem.F.plainAttrs_dict PySem.F.slot_dict_setdefault PySem.F.type_dict_setdefault (mt_setP hu) (pv 1)
            (pa_cons (pe_fc Gb hr rfl (pa_cons (pv 2) pa_nil)) (pa_cons (pe_callB call_lenT rfl T.len PySem.boot_len (pa_cons (pv 1) pa_nil)) pa_nil))))
        (pss_one (ps_expr (pe_bm PySem.F.plainAttrs_dict PySem.F.slot_dict_setdefault PySem.F.type_dict_setdefault (mt_setP hu) (pv 1)
            (pa_cons (pe_fc Ge hr rfl (pa_cons (pv 2) pa_nil)) (pa_cons (pe_callB call_lenT rfl T.len PySem.boot_len (pa_cons (pv 1) pa_nil)) pa_nil)))))))
      (pss_one (ps_ret (pv 1)))), ?_⟩
    intro d hd
    have s1 : Same H (upd H d (.dT [])) := Same.new hd
    refine ⟨_, rfl, a, rfl, ⟨_, s1.seq hl⟩, for_list (K := K) (a := a) (xs := rs.map V.ref)
      (fun i σ H2 => ∃ v : Option V, σ = [some (.ref a), some (.ref d), v] ∧ Same H H2 ∧ H2 d = some (.dT (kvF 0 (Tp.pts [] (ps.take i)))))
      ⟨none, rfl, s1, by rw [upd_same]; rfl⟩ (fun i σ H2 _ ⟨_, _, sm, _⟩ => sm.seq hl) ?_ ?_⟩
    · rintro i y σ H2 hi ⟨v, rfl, sm, hd2⟩
      obtain ⟨r, hr', rfl⟩ := ref_of hi
      obtain ⟨p, hp, hpm⟩ := ps_at hrs hr'
      have him : i < ps.length := (List.getElem?_eq_some_iff.mp hp).1
      have hq := hrow i r p hr' hp
      have hlen : (Tp.pts [] (ps.take i)).length ≤ 128 := by
        have h1 := Tp.len_pts (ps.take i) []
        have h2 : (ps.take i).length ≤ ps.length := by rw [List.length_take]; omega
        simp only [List.length_nil] at h1
        omega
      generalize hL : Tp.pts [] (ps.take i) = L at hd2 hlen
      -- numbers.setdefault(beginning_of(piece), len(numbers))
      refine ⟨_, rfl, .inr (.inr (.inl ⟨rfl, .inr ⟨_, hd2⟩⟩)), _, rfl, r, p, rfl, hq.same sm, fun H3 q sm3 hq0 hq3 => ?_⟩
      have hd3 := sm3 _ _ hd2
      refine ⟨_, rfl, d, _, rfl, .inl hd3, d, q, L, Tp.bg p, rfl, by rw [kvF_len], hd3, hq3, small1000 (by omega), fun z H4 hd4 hoff4 => ?_⟩
      have sm4 : Same H H4 := Same.but (sm.trans sm3) hd hoff4
      have hlen4 := Tp.len_addp L (Tp.bg p)
      -- numbers.setdefault(end_of(piece), len(numbers))
      refine ⟨_, rfl, .inr (.inr (.inl ⟨rfl, .inr ⟨_, hd4⟩⟩)), _, rfl, r, p, rfl, hq.same sm4, fun H5 q5 sm5 hq50 hq5 => ?_⟩
      have hd5 := sm5 _ _ hd4
      refine ⟨_, rfl, d, _, rfl, .inl hd5, d, q5, Tp.addp L (Tp.bg p), Tp.fi p, rfl, by rw [kvF_len], hd5, hq5, small1000 (by omega), fun z6 H6 hd6 hoff6 => ?_⟩
      refine ⟨some (V.ref r), rfl, Same.but (sm4.trans sm5) hd hoff6, ?_⟩
      rw [hd6, Tp.pts_take hp, hL]
    · rintro σ H2 ⟨v, rfl, sm, hd2⟩
      rw [List.length_map, hrs, List.take_length] at hd2
      exact ⟨_, rfl, k H2 d sm hd hd2⟩
theorem scTab : FnScope ["pieces", "numbers", "streets", "piece", "start", "goal", "point"] ["pieces"] (defScope sTab) := ⟨rfl, rfl, rfl, by decide +kernel, rfl, by decide +kernel, by decide +kernel⟩
theorem rep_zero (m : Nat) : (List.replicate m [V.int 0]).flatten = vec m (fun _ => 0) := by
  unfold vec vi
  induction m with
  | zero => rfl
  | succ n ih =>
    rw [List.range_succ, List.map_append, List.map_append, ← ih, List.replicate_succ', List.flatten_append]
    rfl
theorem get_pt {H : Hp} {d b : Addr} {L : List (List Nat)} {t : List Nat} (hd : H d = some (.dT (kvF 0 L))) (hb : H b = some (.tup (iv t))) (ht : t ∈ L) : DGet H d (.ref b) (some (V.int ((L.idxOf t : Nat) : Int))) := by
  have h := DGet.t (k := keyT t) hd (by rw [keyT_kV]; exact hb)
  rw [val_kvF t 0 L ht, Nat.zero_add] at h
  exact h
theorem ok_tab {f : Addr} {fd : FuncData} (F : Fun K "street_table" "street_table" sTab f fd) (T : Txt mg) (Gb : Fc P w K mg base 1 "beginning_of" ["piece"] (spBeg K)) (Ge : Fc P w K mg base 1 "end_of" ["piece"] (spEnd K))
    (Gn : Fc P w K mg base 2 "number_points" ["pieces"] (spNum K)) : FnOk P w K mg base CX0 3 f fd ["pieces"] (spTab K) := by
  refine F.ok scTab (fun vs H Q E h => ?_) (fun cdv Ar outer s H vs Q E hr h => ?_)
  · obtain ⟨a, ps, rfl, _⟩ := h
    rfl
  · obtain ⟨a, ps, rfl, hPl, hn, k⟩ := h
    obtain ⟨rs, hl, hrs, hrow⟩ := id hPl
    have hu := hu_of hr
    have hr1 : Room 1 _ := hr.mono (by decide)
    have hnp : Tp.np ps ≤ 128 := by have := Tp.np_le ps; omega
    refine ⟨_, pss_cons (ps_set (i := 1) scTab.nd rfl (Or.inr rfl) (pe_fc Gn hr rfl (pa_cons (pv 0) pa_nil)))
      (pss_cons (ps_lock (ps_setLc (i := 2) rfl scTab.nd rfl rfl (sw_true rfl rfl rfl (by decide +kernel)) (pi_keys (pv 1))
        (blkOk_by (own := [("point", 6)]) (by show blkC ["pieces", "numbers", "streets", "piece", "start", "goal", "point"] (defScope sTab) _ _ = true; decide +kernel))
        (fun s H C cl fp => pg_name (i := 6) scTab.nd rfl (Or.inl rfl)) (fun _ _ _ _ _ => pts_nil)
        (fun s H C cl fp => pe_op op_rep (pe_lst (pa_cons pe_int pa_nil)) (pe_callB call_lenT rfl T.len PySem.boot_len (pa_cons (pv 1) pa_nil)))))
      (pss_cons (ps_for PassesOwn.never rfl (pi_list (pv 0)) (pg_name (i := 3) scTab.nd rfl (Or.inl rfl))
        (pss_cons (ps_set (i := 4) scTab.nd rfl (Or.inl rfl) (pe_dget hu (pv 1) (pe_fc Gb hr1 rfl (pa_cons (pv 3) pa_nil)) (fun _ _ => rfl)))
        (pss_cons (ps_set (i := 5) scTab.nd rfl (Or.inl rfl) (pe_dget hu (pv 1) (pe_fc Ge hr1 rfl (pa_cons (pv 3) pa_nil)) (fun _ _ => rfl)))
        (pss_one (ps_augS (pe_ix ix_list (pv 2) (pv 4) (fun _ _ => rfl)) (pv 5) get_list pe_int ip_add set_list)))))
      (pss_one (ps_ret (pv 2))))), ?_⟩
    refine ⟨_, rfl, a, ps, rfl, hPl, hn, fun H1 d sm1 hd0 hd1 => ?_⟩
    -- streets = [[0] * len(numbers) for point in numbers]
    refine ⟨d, _, hd1, trivial, fun od => ?_⟩
    have hlk : (upd H1 d (.frz od (.dT (kvF 0 (Tp.pts [] ps))))) d = some (.frz od (.dT (kvF 0 (Tp.pts [] ps)))) := upd_same
    refine ⟨_, rfl, d, od, rfl, .inr ⟨_, hlk, fun D hD => lc_keysT (fun i H2 => Same (upd H1 d (.frz od (.dT (kvF 0 (Tp.pts [] ps))))) H2 ∧ ∃ ds, RowsN (upd H1 d (.frz od (.dT (kvF 0 (Tp.pts [] ps))))) H2 D ds i (Tp.np ps) (fun _ _ => 0))
      ⟨Same.new hD, [], RowsN.start⟩ (fun i H2 _ h2 => h2.1 _ _ hlk) ?_ ?_⟩⟩
    · rintro i q H2 hi ⟨sm2, ds, hds⟩
      rw [kvF_len] at hi
      refine ⟨rfl, yes ?_⟩
      refine ⟨by decide, fun l hl2 => ?_⟩
      have s3 : Same H2 (upd H2 l (.lst [V.int 0])) := Same.new hl2
      refine ⟨_, rfl, d, _, rfl, .inr ⟨od, s3 _ _ (sm2 _ _ hlk)⟩, l, _, _, rfl, rfl, upd_same, by omega, ?_, ?_, fun p hp => ?_⟩
      · rw [kvF_len]
        show ((Tp.np ps : Nat) : Int) < 2 ^ 63
        omega
      · rw [kvF_len]
        show 1 * (((Tp.np ps : Nat) : Int)).toNat ≤ sizeLine
        have := small1000 (n := Tp.np ps) (by omega)
        omega
      · have s4 := s3.trans (Same.new (H := upd H2 l (.lst [V.int 0])) (o := HO.lst ((List.replicate (((kvF 0 (Tp.pts [] ps)).length : Nat) : Int).toNat [V.int 0]).flatten)) hp)
        refine ⟨_, s4 _ _ hds.rows.lst, small1000 (by rw [List.length_map, hds.rows.len]; unfold Tp.np at hnp; omega), Same.put (sm2.trans s4) hD, ds ++ [p], hds.more sm2 s4 (s3.free hp) ?_⟩
        rw [upd_same, rep_zero, kvF_len]
        rfl
    · rintro H2 ⟨sm2, ds, hds⟩
      rw [kvF_len] at hds
      refine ⟨sm2 _ _ hlk, ?_⟩
      -- the dict stands as it was
      have hdf : ∀ j e, ds[j]? = some e → e ≠ d := fun j e h q => by
        have := (hds.rows.row j e h).2
        rw [q, sm2 _ _ hlk] at this; cases this
      have hDd : D ≠ d := fun q => by
        have := hds.rows.lst
        rw [q, sm2 _ _ hlk] at this; cases this
      have hD1 : H1 D = none := by rw [upd_ne hDd] at hD; exact hD
      have smb : Same H1 (upd H2 d (.dT (kvF 0 (Tp.pts [] ps)))) := fun b o e => by
        by_cases hb : b = d
        · subst hb
          rw [upd_same]
          rw [hd1] at e
          exact e
        · rw [upd_ne hb]
          exact sm2 b o (by rw [upd_ne hb]; exact e)
      have hdsb : RowsN H1 (upd H2 d (.dT (kvF 0 (Tp.pts [] ps)))) D ds (Tp.np ps) (Tp.np ps) (TabM (Tp.tab (Tp.ix ps) (ps.take 0))) := by
        refine ⟨⟨by rw [upd_ne hDd]; exact hds.rows.lst, hds.rows.len, fun j e h => ⟨(hds.rows.row j e h).1, ?_⟩⟩, hds.nd, fun j e h => ?_⟩
        · rw [upd_ne (hdf j e h)]
          exact (hds.rows.row j e h).2
        · have := hds.fr j e h
          rw [upd_ne (hdf j e h)] at this
          exact this
      have hdd : (upd H2 d (.dT (kvF 0 (Tp.pts [] ps)))) d = some (.dT (kvF 0 (Tp.pts [] ps))) := upd_same
      generalize upd H2 d (.dT (kvF 0 (Tp.pts [] ps))) = H3 at smb hdsb hdd ⊢
      have s3 : Same H H3 := sm1.trans smb
      refine ⟨_, rfl, a, rfl, ⟨_, s3.seq hl⟩, for_list (K := K) (a := a) (xs := rs.map V.ref)
        (fun i σ H4 => ∃ v3 v4 v5 : Option V, σ = [some (.ref a), some (.ref d), some (.ref D), v3, v4, v5, none] ∧ Same H H4 ∧ H4 d = some (.dT (kvF 0 (Tp.pts [] ps))) ∧ RowsN H1 H4 D ds (Tp.np ps) (Tp.np ps) (TabM (Tp.tab (Tp.ix ps) (ps.take i))))
        ⟨none, none, none, rfl, s3, hdd, hdsb⟩ (fun i σ H4 _ ⟨_, _, _, _, sm, _⟩ => sm.seq hl) ?_ ?_⟩
      · rintro i y σ H4 hi ⟨v3, v4, v5, rfl, sm4, hd4, hds4⟩
        obtain ⟨r, hr', rfl⟩ := ref_of hi
        obtain ⟨p, hp, hpm⟩ := ps_at hrs hr'
        have hq := hrow i r p hr' hp
        have hb := Tp.bg_in hpm
        have hf := Tp.fi_in hpm
        -- start = numbers[beginning_of(piece)]
        refine ⟨_, rfl, _, rfl, r, p, rfl, hq.same sm4, fun H5 q5 sm5 hq50 hq5 => ?_⟩
        have hd5 := sm5 _ _ hd4
        refine ⟨d, _, rfl, get_pt hd5 hq5 hb, ?_⟩
        -- goal = numbers[end_of(piece)]
        refine ⟨_, rfl, _, rfl, r, p, rfl, hq.same (sm4.trans sm5), fun H6 q6 sm6 hq60 hq6 => ?_⟩
        have hd6 := sm6 _ _ hd5
        refine ⟨d, _, rfl, get_pt hd6 hq6 hf, ?_⟩
        -- streets[start][goal] += 1
        have hds6 := (hds4.same sm5).same sm6
        obtain ⟨e, he⟩ := ref_lt (rs := ds) (i := Tp.ix ps (Tp.bg p)) (by rw [hds6.rows.len]; exact Tp.ix_lt hb)
        have hrw := hds6.rows.row _ e he
        have hv := Tp.ix_lt hf
        refine ⟨_, rfl, _, rfl, D, _, _, _, rfl, rfl, SqL.of hds6.rows.lst, atI_nat (ref_at he), _, rfl, e, _, Tp.ix ps (Tp.fi p), _, rfl, rfl, SqL.of hrw.2, vec_get hv,
          _, _, rfl, rfl, e, _, _, Tp.ix ps (Tp.fi p), rfl, rfl, hrw.2, ixN_nat (by rw [vec_len]; exact hv), ?_⟩
        have hde : d ≠ e := fun z => by
          have := hrw.2
          rw [← z, hd6] at this; cases this
        refine ⟨_, _, _, rfl, Same.put (sm4.trans (sm5.trans sm6)) (sm1.free (hds6.fr _ e he)), by rw [upd_ne hde]; exact hd6, (hds6.put he (Tp.ix ps (Tp.fi p)) _).congr fun x y => ?_⟩
        show _ = ((Tp.tab (Tp.ix ps) (ps.take (i + 1)) x y : Nat) : Int)
        rw [Tp.tab_take hp]
        unfold Tp.inc
        by_cases e2 : x = Tp.ix ps (Tp.bg p) ∧ y = Tp.ix ps (Tp.fi p)
        · rw [if_pos e2, if_pos e2, e2.1, e2.2]
          rfl
        · rw [if_neg e2, if_neg e2]
      · rintro σ H4 ⟨v3, v4, v5, rfl, sm4, hd4, hds4⟩
        rw [List.length_map, hrs, List.take_length] at hds4
        exact ⟨_, rfl, k H4 D sm4 hds4.rows.mx⟩
end
end Pg
end
section
set_option Elab.async false
set_option linter.all false
set_option maxRecDepth 100000
set_option exponentiation.threshold 10
namespace Pg
open PySem L2 PyProof.Rows
abbrev sTold : Stmt := top 8
def spTold (K : PySem.W.Frag) : Sp := fun vs H Q _ => ∃ (a : Addr) (k : Nat) (ps : List (List Nat)), vs = [.int k, .ref a] ∧ Pl K H a ps ∧ ps.length ≤ 70 ∧ (Kv168.okSize ps.length k = true → ∀ p ∈ ps, p ≠ []) ∧
  ∀ H', Same H H' → Q (.bl (Kv168.okSize ps.length k && ps.all Kv168.isText)) H'
theorem size_no {n k : Nat} {b : Bool} (h : ¬ ((1 ≤ n ∧ n ≤ 64) ∧ (2 ≤ k ∧ k ≤ 48))) : (Kv168.okSize n k && b) = false := by
  have : Kv168.okSize n k = false := Bool.eq_false_iff.mpr fun e => h (Tp.okSize_iff.mp e)
  rw [this]; rfl
section
variable {P : Program} {w : World} {K : PySem.W.Frag} {mg : Str → Option Value} {base : Heap}
theorem scTold : FnScope ["k", "pieces", "piece"] ["k", "pieces"] (defScope sTold) := ⟨rfl, rfl, rfl, by decide +kernel, rfl, by decide +kernel, by decide +kernel⟩
theorem ok_told {f : Addr} {fd : FuncData} (F : Fun K "pieces_are_as_told" "pieces_are_as_told" sTold f fd) (T : Txt mg) (Gl : Fc P w K mg base 1 "length_is_as_told" ["k"] spLen) (Ga : Fc P w K mg base 1 "amount_is_as_told" ["many"] spAmt)
    (Gt : Fc P w K mg base 1 "letters_are_as_told" ["letters"] (spLtr K)) : FnOk P w K mg base CX0 2 f fd ["k", "pieces"] (spTold K) := by
  refine F.ok scTold (fun vs H Q E h => ?_) (fun cdv Ar outer s H vs Q E hr h => ?_)
  · obtain ⟨a, k, ps, rfl, _⟩ := h
    rfl
  · obtain ⟨a, kk, ps, rfl, ⟨rs, hl, hrs, hrow⟩, h70, hne, k⟩ := h
    have hr1 : Room 1 _ := hr.mono (by decide)
    refine ⟨_, pss_cons (ps_if (PW.pt (pw_or (pt_not (pt_val (pe_fc Gl hr1 rfl (pa_cons (pv 0) pa_nil))))
        (pw_or1 (pt_not (pt_val (pe_fc Ga hr1 rfl (pa_cons (pe_callB call_len_seq rfl T.len PySem.boot_len (pa_cons (pv 1) pa_nil)) pa_nil))))))) (pss_one (ps_ret pe_bl)) pss_nil)
      (pss_one (ps_ret (pe_callB (cr_all rfl) rfl T.all boot_all (pa_cons (pe_lc rfl scTold.nd (pi_list (pv 1))
        (blkOk_by (own := [("piece", 2)]) (by show blkC ["k", "pieces", "piece"] (defScope sTold) _ _ = true; decide +kernel))
        (fun s H C cl fp => pg_name (i := 2) scTold.nd rfl (Or.inl rfl)) (fun _ _ _ _ _ => pts_nil)
        (fun s H C cl fp => pe_fc Gt hr1 rfl (pa_cons (pv 2) pa_nil))) pa_nil)))), ?_⟩
    have no : ¬ ((1 ≤ ps.length ∧ ps.length ≤ 64) ∧ (2 ≤ kk ∧ kk ≤ 48)) → Q (.bl false) H := fun h => by
      have := k H (Same.refl H)
      rw [size_no h] at this
      exact this
    have hlen : (rs.map V.ref).length = ps.length := by rw [List.length_map, hrs]
    refine ⟨_, rfl, kk, rfl, _, rfl, ?_⟩
    refine ite2 (fun h => iteT ?_) (fun h => ?_)
    · have h : ¬ (2 ≤ kk ∧ kk ≤ 48) := fun q => by rw [decide_eq_true q] at h; exact absurd h (by decide)
      exact no fun q => h q.2
    have hk : 2 ≤ kk ∧ kk ≤ 48 := Decidable.byContradiction fun q => by rw [decide_eq_false q] at h; exact h rfl
    refine ⟨_, rfl, a, _, rfl, .inl hl, _, rfl, _, rfl, ?_⟩
    refine ite2 (fun h => ?_) (fun h => ?_)
    · have h : ¬ (1 ≤ (((rs.map V.ref).length : Nat) : Int) ∧ (((rs.map V.ref).length : Nat) : Int) ≤ 64) := fun q => by rw [decide_eq_true q] at h; exact absurd h (by decide)
      rw [hlen] at h
      exact no (by omega)
    have hn : 1 ≤ (((rs.map V.ref).length : Nat) : Int) ∧ (((rs.map V.ref).length : Nat) : Int) ≤ 64 := Decidable.byContradiction fun q => by rw [decide_eq_false q] at h; exact h rfl
    rw [hlen] at hn
    have hok : Kv168.okSize ps.length kk = true := Tp.okSize_iff.mpr ⟨⟨by omega, by omega⟩, by omega, by omega⟩
    have hne := hne hok
    refine ⟨_, rfl, a, rfl, ⟨_, hl⟩, fun D hD => lc_list (K := K) (a := a) (xs := rs.map V.ref) (fun i H2 => Same H H2 ∧ H2 D = some (.lst (((ps.take i).map Kv168.isText).map V.bl)))
      ⟨Same.new hD, upd_same⟩ (fun i H2 _ h2 => h2.1.seq hl) ?_ ?_⟩
    · rintro i y H2 hi ⟨sm2, hD2⟩
      obtain ⟨r, hr', rfl⟩ := ref_of hi
      obtain ⟨p, hp, hpm⟩ := ps_at hrs hr'
      have hq := sm2.seq (hrow i r p hr' hp)
      refine ⟨rfl, yes ?_⟩
      refine ⟨_, rfl, r, p, rfl, hq, hne p hpm, ?_⟩
      refine ⟨_, hD2, small1000 (by simp only [List.length_map, List.length_take]; omega), Same.put sm2 hD, ?_⟩
      rw [upd_same, List.take_add_one, hp]
      simp
    · rintro H2 ⟨sm2, hD2⟩
      rw [hlen, List.take_length] at hD2
      refine ⟨D, _, rfl, SqL.of hD2, ?_⟩
      have := k H2 sm2
      rw [hok] at this
      have e : (ps.map Kv168.isText).all id = ps.all Kv168.isText := by rw [List.all_map]; rfl
      rw [e]
      exact this
end
end Pg
end
section
set_option autoImplicit false
namespace Sb
open PySem PySem.SetTable

/-! ### the path of a search -/
def adv (m : Nat) (p : Probe) : Probe :=
  if p.more > 0 then { p with j := p.j + 1, more := p.more - 1 } else
  { p with j := (leap m p.i p.perturb).1, more := runEnd m (leap m p.i p.perturb).1 - (leap m p.i p.perturb).1, i := (leap m p.i p.perturb).1, perturb := (leap m p.i p.perturb).2 }
theorem adv_eq (t : SetTable) (p : Probe) : t.advance p = adv t.mask p := by
  unfold SetTable.advance adv
  split <;> rfl
def pth (m : Nat) (p : Probe) : Nat → Probe
  | 0 => p
  | n + 1 => adv m (pth m p n)
theorem pth_head (m : Nat) (p : Probe) : ∀ n, pth m (adv m p) n = pth m p (n + 1)
  | 0 => rfl
  | n + 1 => by rw [pth, pth_head m p n]; rfl
theorem pth_add (m : Nat) (p : Probe) (a : Nat) : ∀ b, pth m (pth m p a) b = pth m p (a + b)
  | 0 => rfl
  | b + 1 => by rw [pth, pth_add m p a b]; rfl
theorem pth_dummy (m : Nat) (p : Probe) : ∀ n, (pth m p n).dummy = p.dummy
  | 0 => rfl
  | n + 1 => by
    rw [pth, adv]
    split <;> exact pth_dummy m p n
def lpP (m : Nat) (p : Probe) : Probe :=
  { p with j := (leap m p.i p.perturb).1, more := runEnd m (leap m p.i p.perturb).1 - (leap m p.i p.perturb).1, i := (leap m p.i p.perturb).1, perturb := (leap m p.i p.perturb).2 }
def lps (m : Nat) (p : Probe) : Nat → Probe
  | 0 => p
  | n + 1 => lpP m (lps m p n)
theorem pth_run (m : Nat) (p : Probe) : ∀ s, s ≤ p.more → pth m p s = { p with j := p.j + s, more := p.more - s }
  | 0, _ => rfl
  | s + 1, h => by
    rw [pth, pth_run m p s (by omega), adv, if_pos (by show p.more - s > 0; omega)]
    show ({ p with j := p.j + s + 1, more := p.more - s - 1 } : Probe) = _
    congr 1
theorem pth_leap (m : Nat) (p : Probe) : pth m p (p.more + 1) = lpP m p := by
  rw [pth, pth_run m p p.more (Nat.le_refl _), adv, if_neg (by show ¬ p.more - p.more > 0; omega)]
  rfl
theorem run_le (m i : Nat) : runEnd m i - i ≤ 9 := by
  unfold runEnd; split <;> omega
theorem runEnd_le {m i : Nat} (h : i ≤ m) : runEnd m i ≤ m := by
  unfold runEnd; split <;> omega
theorem runEnd_ge (m i : Nat) : i ≤ runEnd m i := by
  unfold runEnd; split <;> omega
theorem lps_more {m : Nat} {p : Probe} (h : p.more ≤ 9) : ∀ n, (lps m p n).more ≤ 9
  | 0 => h
  | _ + 1 => run_le _ _
theorem lps_time {m : Nat} {p : Probe} (h : p.more ≤ 9) : ∀ n, ∃ t, t ≤ 10 * n ∧ pth m p t = lps m p n
  | 0 => ⟨0, Nat.le_refl _, rfl⟩
  | n + 1 => by
    obtain ⟨t, ht, e⟩ := lps_time h n
    have hm := lps_more (m := m) h n
    refine ⟨t + ((lps m p n).more + 1), by omega, ?_⟩
    rw [← pth_add, e, pth_leap]
    rfl
theorem lps_pert (m : Nat) (p : Probe) : ∀ n, (lps m p n).perturb = p.perturb / 32 ^ n
  | 0 => by simp [lps]
  | n + 1 => by
    show (lps m p n).perturb / 32 = _
    rw [lps_pert m p n, Nat.div_div_eq_div_mul, Nat.pow_succ]
theorem lps_i (m : Nat) (p : Probe) (n : Nat) : (lps m p (n + 1)).i = ((lps m p n).i * 5 + 1 + (lps m p n).perturb / 32) % (m + 1) := rfl
theorem lps_j (m : Nat) (p : Probe) (n : Nat) : (lps m p (n + 1)).j = (lps m p (n + 1)).i := rfl
def cyc (m : Nat) (i : Nat) : Nat → Nat
  | 0 => i
  | n + 1 => (cyc m i n * 5 + 1) % (m + 1)
theorem cyc_add (m i a : Nat) : ∀ b, cyc m (cyc m i a) b = cyc m i (a + b)
  | 0 => rfl
  | b + 1 => by rw [cyc, cyc_add m i a b]; rfl
def Odd (m : Nat) : Prop := m = 7 ∨ m = 31 ∨ m = 127
theorem cyc_zero {m : Nat} (h : Odd m) : cyc m 0 (m + 1) = 0 ∧ ∀ j, j ≤ m → ∃ n, n ≤ m ∧ cyc m 0 n = j := by
  have key : ∀ m, (decide (cyc m 0 (m + 1) = 0) && (List.range (m + 1)).all fun j => (List.range (m + 1)).any fun n => cyc m 0 n == j) = true → cyc m 0 (m + 1) = 0 ∧ ∀ j, j ≤ m → ∃ n, n ≤ m ∧ cyc m 0 n = j := by
    intro m hm
    rw [Bool.and_eq_true, decide_eq_true_eq, List.all_eq_true] at hm
    refine ⟨hm.1, fun j hj => ?_⟩
    have := hm.2 j (List.mem_range.mpr (by omega))
    rw [List.any_eq_true] at this
    obtain ⟨n, hn, e⟩ := this
    exact ⟨n, by have := List.mem_range.mp hn; omega, by simpa using e⟩
  rcases h with rfl | rfl | rfl
  · exact key 7 (by decide +kernel)
  · exact key 31 (by decide +kernel)
  · exact key 127 (by decide +kernel)
theorem cyc_full {m : Nat} (h : Odd m) {i j : Nat} (hi : i ≤ m) (hj : j ≤ m) : ∃ n, n ≤ m ∧ cyc m i n = j := by
  obtain ⟨h0, hf⟩ := cyc_zero h
  obtain ⟨a, ha, ea⟩ := hf i hi
  obtain ⟨b, hb, eb⟩ := hf j hj
  by_cases hab : a ≤ b
  · refine ⟨b - a, by omega, ?_⟩
    rw [← ea, cyc_add, show a + (b - a) = b by omega, eb]
  · refine ⟨m + 1 - a + b, by omega, ?_⟩
    rw [← ea, cyc_add, show a + (m + 1 - a + b) = (m + 1) + b by omega, ← cyc_add, h0, eb]
theorem lps_cyc {m : Nat} {p : Probe} (hp : p.perturb < 2 ^ 64) : ∀ n, (lps m p (13 + n)).i = cyc m (lps m p 13).i n
  | 0 => rfl
  | n + 1 => by
    have hz : (lps m p (13 + n)).perturb / 32 = 0 := by
      rw [lps_pert, Nat.div_div_eq_div_mul]
      refine Nat.div_eq_of_lt (Nat.lt_of_lt_of_le hp ?_)
      have : (32 : Nat) ^ 13 ≤ 32 ^ (13 + n) := Nat.pow_le_pow_right (by decide) (by omega)
      have e : (2 : Nat) ^ 64 ≤ 32 ^ 13 := by decide
      omega
    show (lps m p (13 + n + 1)).i = _
    rw [lps_i, hz, lps_cyc hp n]
    rfl
/-- each place is the start of a run before long -/
theorem leaps_to {m : Nat} (h : Odd m) {p : Probe} (hp : p.perturb < 2 ^ 64) {j : Nat} (hj : j ≤ m) : ∃ n, 1 ≤ n ∧ n ≤ 13 + m ∧ (lps m p n).j = j ∧ (lps m p n).i = j := by
  have h13 : (lps m p 13).i ≤ m := by
    have : (lps m p 13).i = _ % (m + 1) := lps_i m p 12
    rw [this]
    have := Nat.mod_lt ((lps m p 12).i * 5 + 1 + (lps m p 12).perturb / 32) (show 0 < m + 1 by omega)
    omega
  obtain ⟨n, hn, e⟩ := cyc_full h h13 hj
  have e2 : (lps m p (13 + n)).i = j := by rw [lps_cyc hp n]; exact e
  refine ⟨13 + n, by omega, by omega, ?_, e2⟩
  have : 13 + n = (12 + n) + 1 := by omega
  rw [this] at e2 ⊢
  rw [lps_j]; exact e2
theorem path_to {m : Nat} (h : Odd m) {p : Probe} (hm : p.more ≤ 9) (hp : p.perturb < 2 ^ 64) {j : Nat} (hj : j ≤ m) : ∃ t, t ≤ 10 * (13 + m) ∧ (pth m p t).j = j := by
  obtain ⟨n, _, hn, e, _⟩ := leaps_to h hp hj
  obtain ⟨t, ht, et⟩ := lps_time (m := m) hm n
  exact ⟨t, by omega, by rw [et]; exact e⟩
theorem bits_lt (h : Int) : bits h < 2 ^ 64 := by
  unfold bits; omega
/-- where a search begins -/
def st0 (m : Nat) (h : Int) : Probe := { j := bits h % (m + 1), more := runEnd m (bits h % (m + 1)) - bits h % (m + 1), i := bits h % (m + 1), perturb := bits h, dummy := none }
theorem st0_eq (t : SetTable) (h : Int) : t.probeStart h = st0 t.mask h := rfl
/-- a path's state: more ≤ 9, perturb small, on places ≤ m -/
structure Fine (m : Nat) (p : Probe) : Prop where
  more : p.more ≤ 9
  pert : p.perturb < 2 ^ 64
  j : p.j + p.more ≤ m
theorem Fine.st0 (m : Nat) (h : Int) : Fine m (st0 m h) := by
  have h1 := Nat.mod_lt (bits h) (show 0 < m + 1 by omega)
  have h2 := runEnd_le (m := m) (i := bits h % (m + 1)) (by omega)
  have h3 := runEnd_ge m (bits h % (m + 1))
  exact ⟨run_le _ _, bits_lt h, by show bits h % (m + 1) + (runEnd m (bits h % (m + 1)) - bits h % (m + 1)) ≤ m; omega⟩
theorem Fine.adv {m : Nat} {p : Probe} (f : Fine m p) : Fine m (adv m p) := by
  unfold Sb.adv
  split
  · rename_i h
    have := f.j
    exact ⟨by have := f.more; show p.more - 1 ≤ 9; omega, f.pert, by show p.j + 1 + (p.more - 1) ≤ m; omega⟩
  · have h1 : (leap m p.i p.perturb).1 ≤ m := by
      have := Nat.mod_lt (p.i * 5 + 1 + p.perturb / 32) (show 0 < m + 1 by omega)
      show (p.i * 5 + 1 + p.perturb / 32) % (m + 1) ≤ m
      omega
    have h2 := runEnd_le h1
    have h3 := runEnd_ge m (leap m p.i p.perturb).1
    refine ⟨run_le _ _, ?_, ?_⟩
    · have := f.pert
      show p.perturb / 32 < 2 ^ 64
      omega
    · show (leap m p.i p.perturb).1 + (runEnd m (leap m p.i p.perturb).1 - (leap m p.i p.perturb).1) ≤ m
      omega
theorem Fine.pth {m : Nat} {p : Probe} (f : Fine m p) : ∀ n, Fine m (pth m p n)
  | 0 => f
  | n + 1 => (Fine.pth f n).adv

/-! ### the places, in order -/
def Up (xs : Array Nat) : Prop := xs.toList.Pairwise (· < ·)
theorem Up.lt {xs : Array Nat} (u : Up xs) {a b x y : Nat} (hab : a < b) (ha : xs[a]? = some x) (hb : xs[b]? = some y) : x < y := by
  unfold Up at u
  rw [List.pairwise_iff_getElem] at u
  obtain ⟨h1, e1⟩ := Array.getElem?_eq_some_iff.mp ha
  obtain ⟨h2, e2⟩ := Array.getElem?_eq_some_iff.mp hb
  have := u a b (by simpa using h1) (by simpa using h2) hab
  simp only [Array.getElem_toList] at this
  rw [e1, e2] at this
  exact this
theorem below_go {xs : Array Nat} (u : Up xs) (j : Nat) : ∀ (fuel lo hi : Nat), lo ≤ hi → hi ≤ xs.size → hi - lo ≤ fuel →
    (∀ i x, i < lo → xs[i]? = some x → x < j) → (∀ i x, hi ≤ i → xs[i]? = some x → j ≤ x) →
    below.go xs j fuel lo hi ≤ xs.size ∧ (∀ i x, i < below.go xs j fuel lo hi → xs[i]? = some x → x < j) ∧ ∀ i x, below.go xs j fuel lo hi ≤ i → xs[i]? = some x → j ≤ x
  | 0, lo, hi, h1, h2, h3, a, b => by
    rw [below.go]
    have : lo = hi := by omega
    subst this
    exact ⟨h2, a, b⟩
  | fuel + 1, lo, hi, h1, h2, h3, a, b => by
    rw [below.go]
    split
    · rename_i hlt
      dsimp only
      have hmid : (lo + hi) / 2 < xs.size := by omega
      have em : xs[(lo + hi) / 2]? = some xs[(lo + hi) / 2] := Array.getElem?_eq_getElem hmid
      have eg : xs.getD ((lo + hi) / 2) j = xs[(lo + hi) / 2] := by simp [Array.getD, hmid]
      rw [eg]
      by_cases hj : xs[(lo + hi) / 2] < j
      · rw [if_pos hj]
        refine below_go u j fuel ((lo + hi) / 2 + 1) hi (by omega) h2 (by omega) ?_ b
        intro i x hii hx
        by_cases e : i = (lo + hi) / 2
        · rw [e, em] at hx; cases hx; exact hj
        · exact Nat.lt_trans (u.lt (by omega) hx em) hj
      · rw [if_neg hj]
        refine below_go u j fuel lo ((lo + hi) / 2) (by omega) (by omega) (by omega) a ?_
        intro i x hii hx
        by_cases e : i = (lo + hi) / 2
        · rw [e, em] at hx; cases hx; omega
        · have := u.lt (show (lo + hi) / 2 < i by omega) em hx; omega
    · have : lo = hi := by omega
      subst this
      exact ⟨h2, a, b⟩
theorem below_spec {xs : Array Nat} (u : Up xs) (j : Nat) : below xs j ≤ xs.size ∧ (∀ i x, i < below xs j → xs[i]? = some x → x < j) ∧ ∀ i x, below xs j ≤ i → xs[i]? = some x → j ≤ x :=
  below_go u j xs.size 0 xs.size (Nat.zero_le _) (Nat.le_refl _) (by omega) (fun i x h => by omega) fun i x h e => by
    have := (Array.getElem?_eq_some_iff.mp e).1; omega
theorem below_at {xs : Array Nat} (u : Up xs) {i j : Nat} (h : xs[i]? = some j) : below xs j = i := by
  obtain ⟨h1, h2, h3⟩ := below_spec u j
  rcases Nat.lt_trichotomy (below xs j) i with q | q | q
  · have hs : below xs j < xs.size := by have := (Array.getElem?_eq_some_iff.mp h).1; omega
    have e := Array.getElem?_eq_getElem hs
    have a := h3 _ _ (Nat.le_refl _) e
    have b := u.lt q e h
    omega
  · exact q
  · have := h2 i j q h; omega
def bare (t : SetTable) : Prop := t.dummies = #[]
theorem slot_live {t : SetTable} (u : Up t.place) {i j : Nat} (h : t.place[i]? = some j) : t.slot j = .live i := by
  unfold SetTable.slot
  dsimp only
  rw [below_at u h, h]
  simp
theorem slot_empty {t : SetTable} (hd : t.dummies = #[]) {j : Nat} (h : j ∉ t.place) : t.slot j = .empty := by
  unfold SetTable.slot
  dsimp only
  rw [if_neg, if_neg]
  · unfold SetTable.has
    rw [hd]
    simp
  · intro e
    have e2 : t.place[below t.place j]? = some j := by simpa using e
    exact h (Array.mem_of_getElem? e2)
theorem at_of_mem {xs : Array Nat} {j : Nat} (h : j ∈ xs) : ∃ i : Nat, xs[i]? = some j := Array.mem_iff_getElem?.mp h

/-! ### one search -/
theorem go_spec {t : SetTable} (u : Up t.place) (hd : t.dummies = #[]) (ha : Nat → Int) (h : Int) : ∀ (fuel : Nat) (p : Probe) (n : Nat), n < fuel → (pth t.mask p n).j ∉ t.place →
    (∃ k, k ≤ n ∧ (∀ m, m < k → ∃ i : Nat, t.place[i]? = some (pth t.mask p m).j ∧ ha i ≠ h) ∧ (pth t.mask p k).j ∉ t.place ∧ probe.go t ha h fuel p = some (.empty (pth t.mask p k).j p.dummy)) ∨
    (∃ k i : Nat, k < n ∧ (∀ m, m < k → ∃ i : Nat, t.place[i]? = some (pth t.mask p m).j ∧ ha i ≠ h) ∧ t.place[i]? = some (pth t.mask p k).j ∧ ha i = h ∧ probe.go t ha h fuel p = some (.candidate (pth t.mask p k).j i (pth t.mask p (k + 1))))
  | 0, _, _, hn, _ => by omega
  | fuel + 1, p, n, hn, hne => by
    by_cases hm : p.j ∈ t.place
    · obtain ⟨i, hi⟩ := at_of_mem hm
      have hn0 : n ≠ 0 := fun e => by subst e; exact hne hm
      by_cases hh : ha i = h
      · refine .inr ⟨0, i, by omega, fun m hm => by omega, hi, hh, ?_⟩
        rw [probe.go, slot_live u hi]
        dsimp only
        rw [if_pos (by simp [hh]), adv_eq]
        rfl
      · have hn1 : (pth t.mask (adv t.mask p) (n - 1)).j ∉ t.place := by
          rw [pth_head, show n - 1 + 1 = n by omega]; exact hne
        have e0 : probe.go t ha h (fuel + 1) p = probe.go t ha h fuel (adv t.mask p) := by
          rw [probe.go, slot_live u hi]
          dsimp only
          rw [if_neg (by simp [hh]), adv_eq]
        have hdm : (adv t.mask p).dummy = p.dummy := pth_dummy t.mask p 1
        rcases go_spec u hd ha h fuel (adv t.mask p) (n - 1) (by omega) hn1 with ⟨k, h1, h2, h3, h4⟩ | ⟨k, q, h1, h2, h3, h4, h5⟩
        · refine .inl ⟨k + 1, by omega, fun m hmk => ?_, ?_, ?_⟩
          · cases m with
            | zero => exact ⟨i, hi, hh⟩
            | succ m => rw [← pth_head]; exact h2 m (by omega)
          · rw [← pth_head]; exact h3
          · rw [e0, h4, pth_head, hdm]
        · refine .inr ⟨k + 1, q, by omega, fun m hmk => ?_, ?_, h4, ?_⟩
          · cases m with
            | zero => exact ⟨i, hi, hh⟩
            | succ m => rw [← pth_head]; exact h2 m (by omega)
          · rw [← pth_head]; exact h3
          · rw [e0, h5, pth_head, pth_head]
    · refine .inl ⟨0, Nat.zero_le _, fun m hm => by omega, hm, ?_⟩
      rw [probe.go, slot_empty hd hm]
      rfl
end Sb
end
section
set_option autoImplicit false
namespace Sb
open PySem PySem.SetTable

theorem first_of {P : Nat → Prop} [DecidablePred P] : ∀ n, P n → ∃ k, k ≤ n ∧ P k ∧ ∀ q, q < k → ¬ P q
  | 0, h => ⟨0, Nat.le_refl _, h, fun q hq => by omega⟩
  | n + 1, h => by
    by_cases e : ∃ k, k ≤ n ∧ P k
    · obtain ⟨k, hk, hp⟩ := e
      obtain ⟨k', h1, h2, h3⟩ := first_of (P := P) k hp
      exact ⟨k', by omega, h2, h3⟩
    · exact ⟨n + 1, Nat.le_refl _, h, fun q hq hp => e ⟨q, by omega, hp⟩⟩
theorem len_le_of_sub {α : Type} [DecidableEq α] : ∀ {l r : List α}, l.Nodup → (∀ x ∈ l, x ∈ r) → l.length ≤ r.length
  | [], _, _, _ => Nat.zero_le _
  | a :: l, r, hn, hs => by
    have ha := hs a (by simp)
    have ih := len_le_of_sub (l := l) (r := r.erase a) (List.nodup_cons.mp hn).2 fun x hx => by
      have hxa : x ≠ a := fun e => (List.nodup_cons.mp hn).1 (e ▸ hx)
      exact (List.mem_erase_of_ne hxa).mpr (hs x (by simp [hx]))
    rw [List.length_erase_of_mem ha] at ih
    have := List.length_pos_of_mem ha
    rw [List.length_cons]
    omega
theorem a_gap {m : Nat} {l : List Nat} (h : l.length < m + 1) : ∃ j, j ≤ m ∧ j ∉ l := by
  refine Classical.byContradiction fun hn => ?_
  have : (List.range (m + 1)).length ≤ l.length := len_le_of_sub List.nodup_range fun x hx => Classical.byContradiction fun hx' => hn ⟨x, by have := List.mem_range.mp hx; omega, hx'⟩
  rw [List.length_range] at this
  omega

/-! ### a table that is as it should be -/
def Rc (m : Nat) (pl : List Nat) (h : Int) (j : Nat) : Prop := ∃ n, (pth m (st0 m h) n).j = j ∧ ∀ q, q < n → (pth m (st0 m h) q).j ∈ pl
theorem Rc.mono {m : Nat} {pl pl' : List Nat} {h : Int} {j : Nat} (r : Rc m pl h j) (s : ∀ x ∈ pl, x ∈ pl') : Rc m pl' h j := by
  obtain ⟨n, e, q⟩ := r
  exact ⟨n, e, fun i hi => s _ (q i hi)⟩
structure TOk (t : SetTable) (hs : List Int) : Prop where
  odd : Odd t.mask
  bare : t.dummies = #[]
  up : Up t.place
  le : ∀ j ∈ t.place.toList, j ≤ t.mask
  size : t.place.size = hs.length
  room : hs.length * 5 < t.mask * 3
  reach : ∀ q ∈ hs.zip t.place.toList, Rc t.mask t.place.toList q.1 q.2
  plain : t.plain = true
theorem TOk.fresh (f mv : Nat) (led : Bool) : TOk (SetTable.fresh f mv led) [] :=
  ⟨.inl rfl, rfl, List.Pairwise.nil, fun j h => by simp [SetTable.fresh] at h, rfl, (by show 0 * 5 < 7 * 3; decide), fun q h => by simp at h, rfl⟩
theorem TOk.fits {t : SetTable} {hs : List Int} (k : TOk t hs) : t.fits hs.length = true := by
  unfold SetTable.fits SetTable.fill
  rw [k.bare, k.size]
  have := k.room
  simp
  omega
/-- the first free place of a search -/
theorem TOk.gap {t : SetTable} {hs : List Int} (k : TOk t hs) (h : Int) : ∃ n, n ≤ 10 * (13 + t.mask) ∧ (pth t.mask (st0 t.mask h) n).j ∉ t.place.toList ∧ (∀ q, q < n → (pth t.mask (st0 t.mask h) q).j ∈ t.place.toList) ∧ (pth t.mask (st0 t.mask h) n).j ≤ t.mask := by
  obtain ⟨j, hj, hn⟩ := a_gap (m := t.mask) (l := t.place.toList) (by have := k.room; have := k.size; rw [Array.length_toList]; omega)
  have f := Fine.st0 t.mask h
  obtain ⟨n, h1, h2⟩ := path_to k.odd f.more f.pert hj
  obtain ⟨n', h3, h4, h5⟩ := first_of (P := fun n => (pth t.mask (st0 t.mask h) n).j ∉ t.place.toList) n (by rw [h2]; exact hn)
  refine ⟨n', by omega, h4, fun q hq => Classical.byContradiction fun hx => h5 q hq hx, ?_⟩
  have := (f.pth n').j
  omega
theorem toList_insertAt {α : Type} (xs : Array α) (p : Nat) (x : α) : (insertAt xs p x).toList = xs.toList.take p ++ x :: xs.toList.drop p := by
  unfold insertAt
  simp
  exact List.take_of_length_le (by simp)
theorem put_eq {t : SetTable} (hd : t.dummies = #[]) (j : Nat) : t.put j = ({ t with place := insertAt t.place (below t.place j) j }, below t.place j) := by
  unfold SetTable.put
  have : SetTable.has t.dummies j = false := by
    unfold SetTable.has
    rw [hd]
    simp
  simp only [this, Bool.false_eq_true, if_false]
/-- a new one is laid; the table may then be too full -/
theorem TOk.put {t : SetTable} {hs : List Int} (k : TOk t hs) {h : Int} {j n : Nat} (hj : (pth t.mask (st0 t.mask h) n).j = j) (hjm : j ≤ t.mask) (hjn : j ∉ t.place.toList) (hq : ∀ q, q < n → (pth t.mask (st0 t.mask h) q).j ∈ t.place.toList) :
    Up (t.put j).1.place ∧ (∀ i ∈ (t.put j).1.place.toList, i ≤ t.mask) ∧ (t.put j).1.place.size = hs.length + 1 ∧
    (∀ q ∈ (hs.take (t.put j).2 ++ h :: hs.drop (t.put j).2).zip (t.put j).1.place.toList, Rc t.mask (t.put j).1.place.toList q.1 q.2) ∧ (t.put j).1.mask = t.mask ∧ (t.put j).1.dummies = #[] ∧ (t.put j).1.plain = true ∧ (t.put j).1.led = t.led ∧ (t.put j).2 ≤ hs.length := by
  rw [put_eq k.bare j]
  dsimp only
  obtain ⟨b1, b2, b3⟩ := below_spec k.up j
  generalize hb : below t.place j = b at b1 b2 b3
  have hbl : b ≤ t.place.toList.length := by rw [Array.length_toList]; exact b1
  have hmem : ∀ x, x ∈ t.place.toList → x ∈ (insertAt t.place b j).toList := fun x hx => by
    rw [toList_insertAt]
    have : x ∈ t.place.toList.take b ++ t.place.toList.drop b := by rw [List.take_append_drop]; exact hx
    rcases List.mem_append.mp this with h1 | h1
    · exact List.mem_append.mpr (.inl h1)
    · exact List.mem_append.mpr (.inr (List.mem_cons.mpr (.inr h1)))
  have hs1 := k.size
  refine ⟨?_, ?_, ?_, ?_, rfl, k.bare, k.plain, rfl, by omega⟩
  · unfold Up
    rw [toList_insertAt, List.pairwise_append, List.pairwise_cons]
    have u := k.up
    unfold Up at u
    have u2 := u
    rw [← List.take_append_drop b t.place.toList, List.pairwise_append] at u2
    obtain ⟨p1, p2, p3⟩ := u2
    have lo : ∀ x ∈ t.place.toList.take b, x < j := fun x hx => by
      obtain ⟨i, hi, e⟩ := List.mem_iff_getElem.mp hx
      have hib : i < b := by simp at hi; omega
      rw [List.getElem_take] at e
      exact b2 i x hib (by rw [← Array.getElem?_toList]; rw [List.getElem?_eq_getElem (by simp at hi; simp; omega), e])
    have hi' : ∀ x ∈ t.place.toList.drop b, j < x := fun x hx => by
      obtain ⟨i, hi, e⟩ := List.mem_iff_getElem.mp hx
      rw [List.getElem_drop] at e
      have hlt : b + i < t.place.toList.length := by simp at hi; simp; omega
      have := b3 (b + i) x (by omega) (by rw [← Array.getElem?_toList]; rw [List.getElem?_eq_getElem hlt, e])
      have hne : x ≠ j := fun e2 => hjn (e2 ▸ List.mem_of_mem_drop hx)
      omega
    refine ⟨p1, ⟨hi', p2⟩, fun a ha c hc => ?_⟩
    rcases List.mem_cons.mp hc with h1 | h1
    · rw [h1]; exact lo a ha
    · exact p3 a ha c h1
  · intro i hi
    rw [toList_insertAt] at hi
    rcases List.mem_append.mp hi with h1 | h1
    · exact k.le i (List.mem_of_mem_take h1)
    · rcases List.mem_cons.mp h1 with h2 | h2
      · rw [h2]; exact hjm
      · exact k.le i (List.mem_of_mem_drop h2)
  · rw [← Array.length_toList, toList_insertAt, List.length_append, List.length_cons, List.length_take, List.length_drop, Array.length_toList]
    omega
  · intro q hq'
    have hz : (hs.take b ++ h :: hs.drop b).zip (insertAt t.place b j).toList = (hs.take b).zip (t.place.toList.take b) ++ (h, j) :: (hs.drop b).zip (t.place.toList.drop b) := by
      rw [toList_insertAt, List.zip_append (by rw [List.length_take, List.length_take, Array.length_toList (xs := t.place)]; omega), List.zip_cons_cons]
    rw [hz] at hq'
    rcases List.mem_append.mp hq' with h1 | h1
    · refine (k.reach q ?_).mono hmem
      rw [← List.take_append_drop b hs, ← List.take_append_drop b t.place.toList, List.zip_append (by rw [List.length_take, List.length_take, Array.length_toList (xs := t.place)]; omega)]
      exact List.mem_append.mpr (.inl h1)
    · rcases List.mem_cons.mp h1 with h2 | h2
      · rw [h2]
        exact ⟨n, hj, fun i hi => hmem _ (hq i hi)⟩
      · refine (k.reach q ?_).mono hmem
        rw [← List.take_append_drop b hs, ← List.take_append_drop b t.place.toList, List.zip_append (by rw [List.length_take, List.length_take, Array.length_toList (xs := t.place)]; omega)]
        exact List.mem_append.mpr (.inr h2)

/-! ### laid anew -/
theorem lps_head (m : Nat) (p : Probe) : ∀ n, lps m (lpP m p) n = lps m p (n + 1)
  | 0 => rfl
  | n + 1 => by rw [lps, lps_head m p n]; rfl
def at0 (m i pt : Nat) : Probe := ⟨i, runEnd m i - i, i, pt, none⟩
theorem lpP_at0 (m i pt : Nat) : lpP m (at0 m i pt) = at0 m (leap m i pt).1 (leap m i pt).2 := rfl
theorem free_spec {m : Nat} {ow : Array (Option Nat)} (hs : ow.size = m + 1) : ∀ (fuel i pt : Nat), i ≤ m → (∃ n, n < fuel ∧ ow[(lps m (at0 m i pt) n).i]? = some none) →
    ∃ n j, layClean.free m ow fuel i pt = some j ∧ (pth m (at0 m i pt) n).j = j ∧ ow[j]? = some none ∧ ∀ r, r < n → ∃ q, ow[(pth m (at0 m i pt) r).j]? = some (some q)
  | 0, _, _, _, ⟨n, hn, _⟩ => by omega
  | fuel + 1, i, pt, hi, ⟨n, hn, he⟩ => by
    rw [layClean.free]
    have r1 := runEnd_le hi
    have r2 := runEnd_ge m i
    have getD_at : ∀ r, r ≤ runEnd m i - i → ow.getD (i + r) (some 0) = ow[i + r]! ∧ ow[i + r]? = some ow[i + r]! := fun r hr => by
      have hlt : i + r < ow.size := by omega
      simp [Array.getD, hlt]
    cases hf : (List.range (runEnd m i + 1 - i)).find? (fun k => (ow.getD (i + k) (some 0)).isNone) with
    | some k =>
      obtain ⟨h1, h2, h3⟩ := List.find?_range_eq_some.mp hf
      have hk := List.mem_range.mp h2
      refine ⟨k, i + k, rfl, ?_, ?_, fun r hr => ?_⟩
      · rw [pth_run m (at0 m i pt) k (by show k ≤ runEnd m i - i; omega)]
        rfl
      · obtain ⟨e1, e2⟩ := getD_at k (by omega)
        rw [e1] at h1
        rw [e2, Option.isNone_iff_eq_none.mp h1]
      · rw [pth_run m (at0 m i pt) r (by show r ≤ runEnd m i - i; omega)]
        show ∃ q, ow[i + r]? = some (some q)
        obtain ⟨e1, e2⟩ := getD_at r (by omega)
        have h4 := h3 r hr
        rw [e1] at h4
        rw [e2]
        cases e3 : ow[i + r]! with
        | none => rw [e3] at h4; simp at h4
        | some q => exact ⟨q, rfl⟩
    | none =>
      have hall : ∀ r, r ≤ runEnd m i - i → ∃ q, ow[i + r]? = some (some q) := fun r hr => by
        have h4 := List.find?_eq_none.mp hf r (List.mem_range.mpr (by omega))
        obtain ⟨e1, e2⟩ := getD_at r hr
        rw [e1] at h4
        rw [e2]
        cases e3 : ow[i + r]! with
        | none => rw [e3] at h4; simp at h4
        | some q => exact ⟨q, rfl⟩
      dsimp only
      have hn0 : n ≠ 0 := fun e => by
        subst e
        obtain ⟨q, hq⟩ := hall 0 (by omega)
        have he' : ow[i]? = some none := he
        rw [Nat.add_zero, he'] at hq
        cases hq
      obtain ⟨n', rfl⟩ : ∃ n', n = n' + 1 := ⟨n - 1, by omega⟩
      rw [← lps_head, lpP_at0] at he
      have hl : (leap m i pt).1 ≤ m := by
        have := Nat.mod_lt (i * 5 + 1 + pt / 32) (show 0 < m + 1 by omega)
        show (i * 5 + 1 + pt / 32) % (m + 1) ≤ m
        omega
      obtain ⟨k, j, h1, h2, h3, h4⟩ := free_spec hs fuel (leap m i pt).1 (leap m i pt).2 hl ⟨n', by omega, he⟩
      have hp : ∀ r, pth m (at0 m (leap m i pt).1 (leap m i pt).2) r = pth m (at0 m i pt) (runEnd m i - i + 1 + r) := fun r => by
        rw [← pth_add]
        have := pth_leap m (at0 m i pt)
        rw [← lpP_at0, ← this]
        rfl
      refine ⟨runEnd m i - i + 1 + k, j, h1, by rw [← hp]; exact h2, h3, fun r hr => ?_⟩
      by_cases hr2 : r ≤ runEnd m i - i
      · rw [pth_run m (at0 m i pt) r hr2]
        exact hall r hr2
      · obtain ⟨r', rfl⟩ : ∃ r', r = runEnd m i - i + 1 + r' := ⟨r - (runEnd m i - i + 1), by omega⟩
        rw [← hp]
        exact h4 r' (by omega)
structure Ow (m : Nat) (hs : List Int) (k : Nat) (ow : Array (Option Nat)) : Prop where
  size : ow.size = m + 1
  lt : ∀ (j q : Nat), ow[j]? = some (some q) → q < k
  at_ : ∀ q, q < k → ∃ j : Nat, ow[j]? = some (some q)
  inj : ∀ (j j' q : Nat), ow[j]? = some (some q) → ow[j']? = some (some q) → j = j'
  reach : ∀ (j q : Nat) (h : Int), ow[j]? = some (some q) → hs[q]? = some h → ∃ n, (pth m (st0 m h) n).j = j ∧ ∀ r, r < n → ∃ q', ow[(pth m (st0 m h) r).j]? = some (some q')
theorem Ow.empty (m : Nat) (hs : List Int) : Ow m hs 0 (Array.replicate (m + 1) none) := by
  have : ∀ (j q : Nat), (Array.replicate (m + 1) (none : Option Nat))[j]? = some (some q) → False := fun j q h => by
    rw [Array.getElem?_replicate] at h
    split at h <;> simp at h
  exact ⟨by simp, fun j q h => (this j q h).elim, fun q h => by omega, fun j _ q h _ => (this j q h).elim, fun j q _ h _ => (this j q h).elim⟩
theorem Ow.gap {m k : Nat} {hs : List Int} {ow : Array (Option Nat)} (o : Ow m hs k ow) (hk : k < m + 1) : ∃ j, j ≤ m ∧ ow[j]? = some none := by
  refine Classical.byContradiction fun hn => ?_
  have hall : ∀ j, j ≤ m → ∃ q, ow[j]? = some (some q) := fun j hj => by
    have hlt : j < ow.size := by have := o.size; omega
    cases e : ow[j] with
    | none => exact absurd ⟨j, hj, by rw [Array.getElem?_eq_getElem hlt, e]⟩ hn
    | some q => exact ⟨q, by rw [Array.getElem?_eq_getElem hlt, e]⟩
  have f : ∀ j, ∃ q, j ≤ m → ow[j]? = some (some q) := fun j => by
    by_cases hj : j ≤ m
    · obtain ⟨q, hq⟩ := hall j hj; exact ⟨q, fun _ => hq⟩
    · exact ⟨0, fun h => absurd h hj⟩
  let g : Nat → Nat := fun j => Classical.choose (f j)
  have hg : ∀ j, j ≤ m → ow[j]? = some (some (g j)) := fun j hj => Classical.choose_spec (f j) hj
  have hlen : ((List.range (m + 1)).map g).length ≤ (List.range k).length := by
    refine len_le_of_sub ?_ fun x hx => ?_
    · unfold List.Nodup
      rw [List.pairwise_map]
      refine List.Pairwise.imp_of_mem ?_ (List.nodup_range (n := m + 1))
      intro a b ha hb hab e
      have ha := List.mem_range.mp ha
      have hb := List.mem_range.mp hb
      exact hab (o.inj a b (g a) (hg a (by omega)) (by rw [e]; exact hg b (by omega)))
    · obtain ⟨j, hj, e⟩ := List.mem_map.mp hx
      have hj := List.mem_range.mp hj
      rw [List.mem_range, ← e]
      exact o.lt j _ (hg j (by omega))
  rw [List.length_map, List.length_range, List.length_range] at hlen
  omega
theorem Ow.lay {m k : Nat} {hs : List Int} {ow : Array (Option Nat)} (o : Ow m hs k ow) (hm : Odd m) (hk : k < m + 1) {h : Int} (hh : hs[k]? = some h) :
    ∃ j, layClean.free m ow (turns m) (bits h % (m + 1)) (bits h) = some j ∧ Ow m hs (k + 1) (ow.setIfInBounds j (some k)) := by
  have him : bits h % (m + 1) ≤ m := by have := Nat.mod_lt (bits h) (show 0 < m + 1 by omega); omega
  obtain ⟨j0, hj0, e0⟩ := o.gap hk
  obtain ⟨n0, _, hn0, _, e1⟩ := leaps_to hm (p := at0 m (bits h % (m + 1)) (bits h)) (bits_lt h) hj0
  obtain ⟨n, j, h1, h2, h3, h4⟩ := free_spec o.size (turns m) (bits h % (m + 1)) (bits h) him ⟨n0, by unfold turns; omega, by rw [e1]; exact e0⟩
  have hjs : j < ow.size := (Array.getElem?_eq_some_iff.mp h3).1
  have get : ∀ i : Nat, (ow.setIfInBounds j (some k))[i]? = if i = j then some (some k) else ow[i]? := fun i => by
    rw [Array.getElem?_setIfInBounds]
    by_cases e : j = i
    · subst e; simp [hjs]
    · rw [if_neg e, if_neg (fun q => e q.symm)]
  refine ⟨j, h1, ⟨by simp [o.size], fun i q e => ?_, fun q hq => ?_, fun i i' q e e' => ?_, fun i q h' e e' => ?_⟩⟩
  · rw [get] at e
    split at e
    · cases e; omega
    · have := o.lt i q e; omega
  · by_cases e : q = k
    · exact ⟨j, by rw [get, if_pos rfl, e]⟩
    · obtain ⟨i, hi⟩ := o.at_ q (by omega)
      refine ⟨i, ?_⟩
      rw [get, if_neg]
      · exact hi
      · intro e2; rw [e2, h3] at hi; cases hi
  · rw [get] at e e'
    split at e <;> split at e'
    · rename_i a b; rw [a, b]
    · cases e; have := o.lt _ _ e'; omega
    · cases e'; have := o.lt _ _ e; omega
    · exact o.inj i i' q e e'
  · have more : ∀ x : Nat, (∃ q', ow[x]? = some (some q')) → ∃ q', (ow.setIfInBounds j (some k))[x]? = some (some q') := fun x ⟨q', hq'⟩ => by
      rw [get]
      split
      · exact ⟨k, rfl⟩
      · exact ⟨q', hq'⟩
    rw [get] at e
    split at e
    · rename_i eij
      cases e
      have e3 : h = h' := Option.some.inj (hh.symm.trans e')
      subst e3
      exact ⟨n, by rw [eij]; exact h2, fun r hr => more _ (h4 r hr)⟩
    · obtain ⟨n', a, b⟩ := o.reach i q h' e e'
      exact ⟨n', a, fun r hr => more _ (b r hr)⟩
theorem lay_all {m : Nat} {hs : List Int} (hm : Odd m) (hl : hs.length < m + 1) : ∃ ow, layClean m hs.toArray = some ow ∧ Ow m hs hs.length ow := by
  unfold layClean
  rw [← Array.foldl_toList]
  have key : ∀ (rest : List Int) (k : Nat) (ow : Array (Option Nat)), Ow m hs k ow → rest = hs.drop k → k ≤ hs.length →
      ∃ ow', List.foldl (fun (acc : Option (Array (Option Nat) × Nat)) (h : Int) => do
        let (owner, k) ← acc
        let j ← layClean.free m owner (turns m) (bits h % (m + 1)) (bits h)
        pure (owner.setIfInBounds j (some k), k + 1)) (some (ow, k)) rest = some (ow', hs.length) ∧ Ow m hs hs.length ow' := by
    intro rest
    induction rest with
    | nil =>
      intro k ow o e hk
      have : k = hs.length := by
        have := congrArg List.length e
        rw [List.length_drop] at this
        simp at this
        omega
      subst this
      exact ⟨ow, rfl, o⟩
    | cons h rest ih =>
      intro k ow o e hk
      have hk' : k < hs.length := by
        have := congrArg List.length e
        rw [List.length_drop] at this
        simp at this
        omega
      rw [List.drop_eq_getElem_cons hk'] at e
      obtain ⟨e1, e2⟩ := List.cons.inj e
      obtain ⟨j, h1, o'⟩ := o.lay hm (by omega) (h := h) (by rw [List.getElem?_eq_getElem hk', e1])
      rw [List.foldl_cons]
      obtain ⟨ow', h2, h3⟩ := ih (k + 1) _ o' e2 (by omega)
      refine ⟨ow', ?_, h3⟩
      rw [← h2]
      congr 1
      show (layClean.free m ow (turns m) (bits h % (m + 1)) (bits h)).bind _ = _
      rw [h1]
      rfl
  obtain ⟨ow', h1, h2⟩ := key hs 0 _ (Ow.empty m hs) (by simp) (Nat.zero_le _)
  refine ⟨ow', ?_, h2⟩
  rw [show (Array.toList hs.toArray) = hs by simp]
  rw [h1]
  rfl
end Sb
end
section
set_option autoImplicit false
namespace Sb
open PySem PySem.SetTable

theorem zip_fst_snd {α β : Type} : ∀ l : List (α × β), (l.map (·.2)).zip (l.map (·.1)) = l.map fun q => (q.2, q.1)
  | [] => rfl
  | q :: l => by rw [List.map_cons, List.map_cons, List.map_cons, List.zip_cons_cons, zip_fst_snd l]
theorem laid_spec {m : Nat} {hs : List Int} (hm : Odd m) (hl : hs.length < m + 1) (f mv : Nat) (led plain : Bool) :
    ∃ (t' : SetTable) (live : List (Nat × Nat)), laid m f mv led plain hs.toArray = some (t', (live.map (·.2)).toArray) ∧ t'.mask = m ∧ t'.dummies = #[] ∧ t'.led = led ∧ t'.plain = plain ∧ t'.place = (live.map (·.1)).toArray ∧
      Up t'.place ∧ (∀ j ∈ live.map (·.1), j ≤ m) ∧ (live.map (·.2)).Perm (List.range hs.length) ∧ ∀ q ∈ live, ∃ h, hs[q.2]? = some h ∧ Rc m (live.map (·.1)) h q.1 := by
  obtain ⟨ow, e, o⟩ := lay_all hm hl
  have hmem : ∀ j q, (j, q) ∈ (List.range (m + 1)).filterMap (fun j => (ow.getD j none).map (j, ·)) ↔ ow[j]? = some (some q) := fun j q => by
    rw [List.mem_filterMap]
    have hd : ∀ i, ow.getD i none = (ow[i]?).getD none := fun i => by
      by_cases hi : i < ow.size
      · simp [Array.getD, hi]
      · simp [Array.getD, hi]
    constructor
    · rintro ⟨i, hi, e⟩
      rw [hd] at e
      cases e2 : ow[i]? with
      | none => rw [e2] at e; simp at e
      | some y =>
        rw [e2] at e
        cases y with
        | none => simp at e
        | some y =>
          simp only [Option.getD_some, Option.map_some, Option.some.injEq, Prod.mk.injEq] at e
          rw [← e.1, ← e.2]
          exact e2
    · intro e2
      have hj : j < ow.size := (Array.getElem?_eq_some_iff.mp e2).1
      refine ⟨j, List.mem_range.mpr (by have := o.size; omega), ?_⟩
      rw [hd, e2]
      rfl
  have hup : ((List.range (m + 1)).filterMap (fun j => (ow.getD j none).map (j, ·))).Pairwise (fun a b => a.1 < b.1) := by
    rw [List.pairwise_filterMap]
    refine List.Pairwise.imp ?_ (List.pairwise_lt_range (n := m + 1))
    intro a b hab c hc d hd
    cases e1 : ow.getD a none with
    | none => rw [e1] at hc; simp at hc
    | some x =>
      cases e2 : ow.getD b none with
      | none => rw [e2] at hd; simp at hd
      | some y =>
        rw [e1] at hc; rw [e2] at hd
        simp at hc hd
        rw [← hc, ← hd]
        exact hab
  generalize hL : (List.range (m + 1)).filterMap (fun j => (ow.getD j none).map (j, ·)) = live at hmem hup
  refine ⟨{ mask := m, place := (live.map (·.1)).toArray, dummies := #[], finger := f, led, moves := mv, plain }, live, ?_, rfl, rfl, rfl, rfl, rfl, ?_, ?_, ?_, ?_⟩
  · unfold laid
    rw [e, ← hL]
    rfl
  · unfold Up
    simp only [List.pairwise_map]
    exact hup
  · intro j hj
    obtain ⟨q, hq, rfl⟩ := List.mem_map.mp hj
    have := (Array.getElem?_eq_some_iff.mp ((hmem q.1 q.2).mp hq)).1
    have := o.size
    omega
  · refine (List.perm_ext_iff_of_nodup ?_ List.nodup_range).mpr fun q => ?_
    · unfold List.Nodup
      rw [List.pairwise_map]
      refine List.Pairwise.imp_of_mem ?_ hup
      intro a b ha hb hab e2
      have h1 := (hmem a.1 a.2).mp ha
      have h2 := (hmem b.1 b.2).mp hb
      rw [← e2] at h2
      have := o.inj _ _ _ h1 h2
      omega
    · rw [List.mem_range, List.mem_map]
      constructor
      · rintro ⟨x, hx, rfl⟩
        exact o.lt _ _ ((hmem x.1 x.2).mp hx)
      · intro hq
        obtain ⟨j, hj⟩ := o.at_ q hq
        exact ⟨(j, q), (hmem j q).mpr hj, rfl⟩
  · rintro ⟨j, q⟩ hq
    have h1 := (hmem j q).mp hq
    have hlt := o.lt j q h1
    obtain ⟨n, a, b⟩ := o.reach j q hs[q] h1 (List.getElem?_eq_getElem hlt)
    refine ⟨hs[q], List.getElem?_eq_getElem hlt, n, a, fun r hr => ?_⟩
    obtain ⟨q', hq'⟩ := b r hr
    exact List.mem_map.mpr ⟨(_, q'), (hmem _ q').mpr hq', rfl⟩
theorem filterMap_is {α β : Type} {f : α → Option β} {g : α → β} : ∀ {l : List α}, (∀ x ∈ l, f x = some (g x)) → l.filterMap f = l.map g
  | [], _ => rfl
  | x :: l, h => by
    rw [List.filterMap_cons, h x (by simp), List.map_cons]
    dsimp only
    rw [filterMap_is fun y hy => h y (by simp [hy])]
/-- laid anew in a wider table: all as it should be -/
theorem relay_spec {α : Type} [Inhabited α] {t : SetTable} {es : Array (Int × α)} {wanted m : Nat} (hm : Odd m) (hw : sizeAbove wanted - 1 = m) (hr : es.size * 5 < m * 3) (hp : t.plain = true) :
    ∃ t' order, t.relaid (es.map (·.1)) wanted = some (t', order) ∧ (order.filterMap (es[·]?)).toList.Perm es.toList ∧ TOk t' ((order.filterMap (es[·]?)).toList.map (·.1)) ∧ t'.led = t.led := by
  have hsz : (es.toList.map (·.1)).length = es.size := by simp
  obtain ⟨t', live, e, h1, h2, h3, h4, h5, h6, h7, h8, h9⟩ := laid_spec (m := m) (hs := es.toList.map (·.1)) hm (by rw [hsz]; omega) t.finger (t.movedTo m) t.led t.plain
  rw [hsz] at h8
  have hes : es.map (·.1) = (es.toList.map (·.1)).toArray := by apply Array.ext'; simp
  have hg : ∀ q ∈ live.map (·.2), es[q]? = some (es.getD q default) := fun q hq => by
    have hq' : q < es.size := List.mem_range.mp ((h8.mem_iff).mp hq)
    simp [Array.getD, hq']
  have hl : ((live.map (·.2)).toArray.filterMap (es[·]?)).toList = (live.map (·.2)).map (fun q => es.getD q default) := by
    rw [Array.toList_filterMap]
    exact filterMap_is hg
  refine ⟨t', (live.map (·.2)).toArray, ?_, ?_, ?_, h3⟩
  · unfold SetTable.relaid
    rw [hw, hes]
    exact e
  · rw [hl]
    have h10 := h8.map (fun q => es.getD q default)
    refine h10.trans (List.Perm.of_eq ?_)
    apply List.ext_getElem
    · simp
    · intro i hi hi'
      have hi2 : i < es.size := by simpa using hi'
      simp [Array.getD, hi2]
  · rw [hl]
    have hlen : live.length = es.size := by
      have := h8.length_eq
      rw [List.length_map, List.length_range] at this
      exact this
    refine ⟨by rw [h1]; exact hm, h2, h6, ?_, ?_, ?_, ?_, by rw [h4]; exact hp⟩
    · rw [h5, h1]; exact h7
    · rw [h5]; simp
    · rw [h1]; simp only [List.length_map]; rw [hlen]; exact hr
    · rw [h5, h1]
      intro q hq
      simp only [List.map_map] at hq
      have hz : (live.map ((fun (q : Int × α) => q.1) ∘ (fun q => es.getD q default) ∘ fun (q : Nat × Nat) => q.2)).zip (live.map (·.1)) = live.map fun x => ((es.getD x.2 default).1, x.1) := by
        rw [List.zip_map']
        rfl
      rw [hz] at hq
      obtain ⟨x, hx, rfl⟩ := List.mem_map.mp hq
      obtain ⟨h, e1, e2⟩ := h9 x hx
      have hq' : x.2 < es.size := List.mem_range.mp ((h8.mem_iff).mp (List.mem_map.mpr ⟨x, hx, rfl⟩))
      have : (es.getD x.2 default).1 = h := by
        rw [List.getElem?_map, Array.getElem?_toList, Array.getElem?_eq_getElem hq'] at e1
        simp only [Option.map_some, Option.some.injEq] at e1
        rw [← e1]
        simp [Array.getD, hq']
      dsimp only
      rw [this]
      exact e2
end Sb
end
section
set_option autoImplicit false
set_option linter.all false
namespace Sb
open PySem PyProof.Rows

abbrev Ints := List Int
section
variable {prog : Program} {w : World} {A : Around} {E : Value → Shared → Prop} {s : Shared}
/-- a tuple of ints at b -/
def TK (prog : Program) (w : World) (h : Heap) (k : Ints) (b : Addr) : Prop := IsTupleKey (intKind prog w) h k b
def hsh (prog : Program) (w : World) (k : Ints) : Int := tupleKeyHash (intKind prog w) k
theorem TK.same {h h' : Heap} {k : Ints} {b : Addr} (x : TK prog w h k b) (e : ∀ o, h.get? b = some o → h'.get? b = some o) : TK prog w h' k b := by
  obtain ⟨o, items, n, ho, hc, hd, hi⟩ := x
  exact ⟨o, items, n, e o ho, hc, hd, hi⟩
theorem items_int : ∀ {k : Ints} {vs : List Value}, ItemsAre (intKind prog w) k vs → ∀ v ∈ vs, ∃ i t, v = .int i t
  | _, _, .nil, v, hv => by simp at hv
  | _, _, .cons h1 h2, v, hv => by
    rcases List.mem_cons.mp hv with rfl | hv
    · obtain ⟨t, e⟩ := Value.isInt_shape h1
      exact ⟨_, t, e⟩
    · exact items_int h2 v hv
theorem of_class {k : Ints} {b : Addr} {Q : Bool → Shared → Prop} (x : TK prog w s.heap k b) (h : Q false s) : wpAny (model prog w) A (ofAClassStatement 8 (.ref b)) Q E s := by
  have hT := x.typeIs
  obtain ⟨o, items, n, ho, hc, hd, hi⟩ := x
  unfold ofAClassStatement
  refine wpAny_bind (wpAny_typeOf hT ?_)
  dsimp only
  refine wpAny_bind ?_
  refine wpAny_pure ?_
  simp only [Bool.not_true, Bool.false_eq_true, if_false]
  refine wpAny_bind (wpAny_seqItems ho hd ?_)
  dsimp only
  refine wpAny_bind ?_
  rw [← Array.forIn_toList]
  refine wpAny_forIn_list _ (fun rest r s' => r.1 = none ∧ s' = s ∧ ∀ v ∈ rest, ∃ i t, v = Value.int i t) _ ?_ ?_ _ _ ⟨rfl, rfl, items_int hi⟩
  · rintro v rest r s' ⟨hr, rfl, hall⟩
    obtain ⟨i, t, rfl⟩ := hall v List.mem_cons_self
    refine wpAny_bind (wpAny_pure ?_)
    simp only [Bool.false_eq_true, if_false]
    exact wpAny_pure ⟨rfl, rfl, fun u hu' => hall u (List.mem_cons_of_mem _ hu')⟩
  · rintro ⟨r1, r2⟩ s' ⟨hr, rfl, _⟩
    simp only at hr
    subst hr
    exact wpAny_pure h
theorem hash_by_value {k : Ints} {b : Addr} {Q : Bool → Shared → Prop} (x : TK prog w s.heap k b) (h : Q true s) : wpAny (model prog w) A (hashByValue 8 (.ref b)) Q E s := by
  have hT := x.typeIs
  obtain ⟨o, items, n, ho, hc, hd, hi⟩ := x
  unfold hashByValue
  refine wpAny_bind (wpAny_specialOf hT F.slot_tuple_hash.lookup ?_)
  show wpAny _ _ (seqItems? (.ref b) >>= _) _ _ s
  refine wpAny_bind (wpAny_seqItems ho hd ?_)
  refine wpAny_bind ?_
  show wpAny _ _ (forIn items _ _) _ _ s
  rw [← Array.forIn_toList]
  refine wpAny_forIn_list _ (fun rest r s' => r.1 = none ∧ s' = s ∧ ∀ v ∈ rest, ∃ i t, v = Value.int i t) _ ?_ ?_ _ _ ⟨rfl, rfl, items_int hi⟩
  · rintro v rest r s' ⟨hr, rfl, hall⟩
    obtain ⟨i, t, rfl⟩ := hall v List.mem_cons_self
    refine wpAny_bind (wpAny_pure ?_)
    simp only [Bool.not_true, Bool.false_eq_true, if_false]
    exact wpAny_pure ⟨rfl, rfl, fun u hu' => hall u (List.mem_cons_of_mem _ hu')⟩
  · rintro ⟨r1, r2⟩ s' ⟨hr, rfl, _⟩
    simp only at hr
    subst hr
    exact wpAny_pure h
theorem not_seen {k : Ints} {b : Addr} {l : List Value} {Q : Bool → Shared → Prop} (x : TK prog w s.heap k b) (hl : ∀ v ∈ l, ∃ k' b', v = .ref b' ∧ TK prog w s.heap k' b') (h : Q false s) : wpAny (model prog w) A (searchCouldBeSeen (.ref b) l) Q E s := by
  unfold searchCouldBeSeen
  refine wpAny_bind ?_
  refine wpAny_forIn_list _ (fun rest r s' => r.1 = none ∧ s' = s ∧ ∀ v ∈ rest, ∃ k' b', v = .ref b' ∧ TK prog w s.heap k' b') _ ?_ ?_ _ _ ⟨rfl, rfl, hl⟩
  · rintro v rest r s' ⟨hr, rfl, hall⟩
    obtain ⟨k', b', rfl, x'⟩ := hall v List.mem_cons_self
    dsimp only
    have hc : (b == b' || carriedByValue (Value.ref b) && carriedByValue (Value.ref b')) = (b == b') := by simp [carriedByValue]
    rw [hc]
    by_cases e : (b == b') = true
    · rw [if_pos e]
      exact wpAny_pure ⟨rfl, rfl, fun u hu' => hall u (List.mem_cons_of_mem _ hu')⟩
    · rw [if_neg e]
      refine wpAny_bind (wpAny_eqIsQuiet_tuple x ?_)
      simp only [Bool.not_true, Bool.false_eq_true, if_false]
      refine wpAny_bind (wpAny_eqIsQuiet_tuple x' ?_)
      simp only [Bool.not_true, Bool.false_eq_true, if_false]
      refine wpAny_bind (of_class x ?_)
      simp only [Bool.false_eq_true, if_false]
      refine wpAny_bind (of_class x' ?_)
      simp only [Bool.false_eq_true, if_false]
      exact wpAny_pure ⟨rfl, rfl, fun u hu' => hall u (List.mem_cons_of_mem _ hu')⟩
  · rintro ⟨r1, r2⟩ s' ⟨hr, rfl, _⟩
    simp only at hr
    subst hr
    exact wpAny_pure h
end
end Sb
end
section
set_option autoImplicit false
set_option linter.all false
namespace Sb
open PySem PyProof.Rows SetTable

theorem probe_cases {t : SetTable} (u : Up t.place) (hd : t.dummies = #[]) {ha : Nat → Int} {h : Int} {p : Probe} {n : Nat} {R : Option Met} (hn : n < 10 * turns t.mask) (hne : (pth t.mask p n).j ∉ t.place) (hF : t.probe ha h p = R) :
    (∃ k, k ≤ n ∧ (∀ m, m < k → ∃ i : Nat, t.place[i]? = some (pth t.mask p m).j ∧ ha i ≠ h) ∧ (pth t.mask p k).j ∉ t.place ∧ R = some (.empty (pth t.mask p k).j p.dummy)) ∨
    (∃ k i : Nat, k < n ∧ (∀ m, m < k → ∃ i : Nat, t.place[i]? = some (pth t.mask p m).j ∧ ha i ≠ h) ∧ t.place[i]? = some (pth t.mask p k).j ∧ ha i = h ∧ R = some (.candidate (pth t.mask p k).j i (pth t.mask p (k + 1)))) := by
  subst hF
  exact go_spec u hd ha h _ p n hn hne
theorem Up.one {xs : Array Nat} (u : Up xs) {i i' j : Nat} (h : xs[i]? = some j) (h' : xs[i']? = some j) : i = i' := by
  rw [← below_at u h, ← below_at u h']

section
variable {prog : Program} {w : World} {A : Around} {E : Value → Shared → Prop} {s : Shared}
def ent (prog : Program) (w : World) (e : Ints × Addr) : Int × Value := (hsh prog w e.1, .ref e.2)
def hss (prog : Program) (w : World) (es : List (Ints × Addr)) : List Int := es.map fun e => hsh prog w e.1
def byT (w : World) : Bool := w.params.followText "set-order"
/-- the set at a: its members in the table's order -/
def SetAt (prog : Program) (w : World) (h : Heap) (a : Addr) (es : List (Ints × Addr)) : Prop :=
  ∃ o ep t, h.get? a = some o ∧ o.ExactSet ∧ o.data = .set (es.map (ent prog w)).toArray ep t ∧ TOk t (hss prog w es) ∧ t.led = !byT w
def Keys (prog : Program) (w : World) (h : Heap) (es : List (Ints × Addr)) : Prop := (∀ e ∈ es, TK prog w h e.1 e.2) ∧ (es.map (·.1)).Nodup
theorem fits_at {t : SetTable} {es : List (Ints × Addr)} (T : TOk t (hss prog w es)) : t.fits (es.map (ent prog w)).toArray.size = true := by
  have := T.fits
  rw [show (hss prog w es).length = (es.map (ent prog w)).toArray.size by simp [hss]] at this
  exact this
theorem odd_gave {t : SetTable} (h : Odd t.mask) : t.gaveWay = false := by
  unfold SetTable.gaveWay
  rcases h with e | e | e <;> rw [e] <;> rfl
theorem search_wp {a b : Addr} {k : Ints} {es : List (Ints × Addr)} {o : Obj} {ep : Nat} {t : SetTable} (hu : A.units < cLine) (ho : s.heap.get? a = some o) (hd : o.data = .set (es.map (ent prog w)).toArray ep t)
    (T : TOk t (hss prog w es)) (K : ∀ e ∈ es, TK prog w s.heap e.1 e.2) (x : TK prog w s.heap k b) {N : Nat} (hN : N ≤ 10 * (13 + t.mask)) (hN1 : (pth t.mask (st0 t.mask (hsh prog w k)) N).j ∉ t.place.toList)
    (hN2 : ∀ q, q < N → (pth t.mask (st0 t.mask (hsh prog w k)) q).j ∈ t.place.toList) : ∀ (d q fuel : Nat) (stand : Option Probe) (Q : SetFound → Shared → Prop), N - q = d → q ≤ N → d < fuel →
    stand.getD (t.probeStart (hsh prog w k)) = pth t.mask (st0 t.mask (hsh prog w k)) q →
    (k ∈ es.map (·.1) → Q (.there none) s) →
    ((∀ m, q ≤ m → m < N → ∀ (i : Nat) e, t.place[i]? = some (pth t.mask (st0 t.mask (hsh prog w k)) m).j → es[i]? = some e → e.1 ≠ k) → Q (.free (pth t.mask (st0 t.mask (hsh prog w k)) N).j false) s) →
    wpAny (model prog w) A (setSearchFrom a (.ref b) (hsh prog w k) true fuel stand) Q E s := by
  intro d
  induction d using Nat.strongRecOn with
  | ind d ih =>
    intro q fuel stand Q hdq hq hf hst h1 h2
    obtain ⟨fuel, rfl⟩ : ∃ f, fuel = f + 1 := ⟨fuel - 1, by omega⟩
    unfold setSearchFrom
    refine wpAny_bind (wpAny_setState_of ho hd (fits_at T) ?_)
    dsimp only
    rw [odd_gave T.odd]
    simp only [Bool.false_eq_true, if_false]
    rw [hst]
    generalize hF : t.probe _ (hsh prog w k) (pth t.mask (st0 t.mask (hsh prog w k)) q) = R
    have hne : (pth t.mask (pth t.mask (st0 t.mask (hsh prog w k)) q) (N - q)).j ∉ t.place := by
      rw [pth_add, show q + (N - q) = N by omega]
      intro hm; exact hN1 (Array.mem_toList_iff.mpr hm)
    have dum : (pth t.mask (st0 t.mask (hsh prog w k)) q).dummy = none := by rw [pth_dummy]; rfl
    rcases probe_cases T.up T.bare (n := N - q) (by unfold turns; omega) hne hF with ⟨k0, a1, a2, a3, rfl⟩ | ⟨k0, i, a1, a2, a3, a4, rfl⟩
    · have hk0 : q + k0 = N := by
        rw [pth_add] at a3
        refine Classical.byContradiction fun hx => ?_
        exact a3 (Array.mem_toList_iff.mp (hN2 (q + k0) (by omega)))
      dsimp only
      rw [dum]
      dsimp only
      rw [pth_add, hk0]
      refine wpAny_pure (h2 fun m hm1 hm2 i e hi he => ?_)
      obtain ⟨i', b1, b2⟩ := a2 (m - q) (by omega)
      rw [pth_add, show q + (m - q) = m by omega] at b1
      have := T.up.one hi b1
      subst this
      intro ek
      apply b2
      show (Option.map _ ((es.map (ent prog w)).toArray[i]?)).getD 0 = _
      rw [List.getElem?_toArray, List.getElem?_map, he]
      show hsh prog w e.1 = _
      rw [ek]
    · dsimp only
      have hil : i < es.length := by
        have := (Array.getElem?_eq_some_iff.mp a3).1
        rw [T.size] at this
        simpa [hss] using this
      have hei : es[i]? = some es[i] := List.getElem?_eq_getElem hil
      have hmem : es[i] ∈ es := List.getElem_mem hil
      have xi := K es[i] hmem
      rw [pth_add] at a3
      rw [pth_add, pth_add]
      have goon : wpAny (model prog w) A (do
          let some (_, y) := (es.map (ent prog w)).toArray[i]? | unsupported "internal:set-entry"
          let equal ← holding [y] (eqBool y (.ref b))
          let (es', _, t') ← setState a
          if (true && equal) = true then return SetFound.there none
          let some same := t'.sameMemory t.moves t.mask | unsupported "set.changed-during-lookup:is-the-new-block-at-the-old-address"
          let still ← match (if same then t'.slot (pth t.mask (st0 t.mask (hsh prog w k)) (q + k0)).j else .empty) with
            | .live i' => match es'[i']? with
              | some (_, y') => do pure (if ← isSame y' y then some i' else none)
              | none => pure none
            | _ => pure none
          match still with
          | none => rule "set.search.anew"; setSearchFrom a (.ref b) (hsh prog w k) true fuel none
          | some i' => if equal then return .there (some i') else setSearchFrom a (.ref b) (hsh prog w k) true fuel (some (pth t.mask (st0 t.mask (hsh prog w k)) (q + (k0 + 1))))) Q E s := by
        rw [show (es.map (ent prog w)).toArray[i]? = some (ent prog w es[i]) by rw [List.getElem?_toArray, List.getElem?_map, hei]; rfl]
        show wpAny _ _ (holding [Value.ref es[i].2] (eqBool (.ref es[i].2) (.ref b)) >>= _) Q E s
        refine wpAny_bind (wpAny_holding (wpAny_eqBool_tuple hu xi x ?_))
        refine wpAny_bind (wpAny_setState_of ho hd (fits_at T) ?_)
        dsimp only
        by_cases ek : es[i].1 = k
        · rw [decide_eq_true ek]
          simp only [Bool.and_self, if_true]
          exact wpAny_pure (h1 (List.mem_map.mpr ⟨_, hmem, ek⟩))
        · rw [decide_eq_false ek]
          simp only [Bool.and_false, Bool.false_eq_true, if_false]
          rw [show t.sameMemory t.moves t.mask = some true by simp [SetTable.sameMemory]]
          dsimp only
          rw [if_pos rfl, slot_live T.up a3]
          dsimp only
          rw [show (es.map (ent prog w)).toArray[i]? = some (ent prog w es[i]) by rw [List.getElem?_toArray, List.getElem?_map, hei]; rfl]
          show wpAny _ _ (isSame (.ref es[i].2) (.ref es[i].2) >>= _) Q E s
          refine wpAny_bind (wpAny_isSame_ref_self ?_)
          refine wpAny_bind (wpAny_pure ?_)
          simp only [if_true]
          refine ih (N - (q + (k0 + 1))) (by omega) (q + (k0 + 1)) fuel _ Q rfl (by omega) (by omega) rfl h1 fun hno => h2 fun m hm1 hm2 i' e hi he => ?_
          rcases Nat.lt_trichotomy m (q + k0) with hlt | heq | hgt
          · obtain ⟨i2, b1, b2⟩ := a2 (m - q) (by omega)
            rw [pth_add, show q + (m - q) = m by omega] at b1
            have := T.up.one hi b1
            subst this
            intro ek2
            apply b2
            show (Option.map _ ((es.map (ent prog w)).toArray[i']?)).getD 0 = _
            rw [List.getElem?_toArray, List.getElem?_map, he]
            show hsh prog w e.1 = _
            rw [ek2]
          · subst heq
            have := T.up.one hi a3
            subst this
            rw [hei] at he
            cases he
            exact ek
          · exact hno m (by omega) hm2 i' e hi he
      cases hled : t.led with
      | true =>
        simp only [Bool.not_true, Bool.false_eq_true, if_false]
        exact goon
      | false =>
        simp only [Bool.not_false, if_true]
        refine wpAny_bind (not_seen x (fun v hv => ?_) ?_)
        · obtain ⟨e, he, rfl⟩ := List.mem_map.mp hv
          rw [Array.toList_filter] at he
          obtain ⟨e2, he2, rfl⟩ := List.mem_map.mp (List.mem_filter.mp he).1
          exact ⟨e2.1, e2.2, rfl, K e2 he2⟩
        · simp only [Bool.false_eq_true, if_false]
          exact goon
end
end Sb
end
section
set_option autoImplicit false
set_option linter.all false
namespace Sb
open PySem PyProof.Rows SetTable
section
variable {prog : Program} {w : World} {A : Around} {E : Value → Shared → Prop} {s : Shared}
theorem absent_of {k : Ints} {es : List (Ints × Addr)} {t : SetTable} (T : TOk t (hss prog w es)) {N : Nat} (hN1 : (pth t.mask (st0 t.mask (hsh prog w k)) N).j ∉ t.place.toList)
    (hno : ∀ m, 0 ≤ m → m < N → ∀ (i : Nat) e, t.place[i]? = some (pth t.mask (st0 t.mask (hsh prog w k)) m).j → es[i]? = some e → e.1 ≠ k) : k ∉ es.map (·.1) := by
  intro hk
  obtain ⟨e, he, rfl⟩ := List.mem_map.mp hk
  obtain ⟨i, hi, rfl⟩ := List.mem_iff_getElem.mp he
  have hil : i < t.place.size := by rw [T.size]; simpa [hss] using hi
  have hz : (hsh prog w es[i].1, t.place[i]) ∈ (hss prog w es).zip t.place.toList := by
    refine List.mem_iff_getElem.mpr ⟨i, by simp [hss]; omega, ?_⟩
    simp [hss]
  obtain ⟨n, h1, h2⟩ := T.reach _ hz
  dsimp only at h1 h2
  have hlt : n < N := by
    refine Classical.byContradiction fun hx => ?_
    rcases Nat.lt_or_ge N n with h3 | h3
    · exact hN1 (h2 N h3)
    · have : n = N := by omega
      subst this
      apply hN1
      rw [h1]
      simp
  exact hno n (Nat.zero_le _) hlt i es[i] (by rw [h1]; exact Array.getElem?_eq_getElem hil) (List.getElem?_eq_getElem hi) rfl
theorem insert_ent (es : List (Ints × Addr)) (p : Nat) (k : Ints) (b : Addr) : insertAt (es.map (ent prog w)).toArray p (hsh prog w k, Value.ref b) = ((es.take p ++ (k, b) :: es.drop p).map (ent prog w)).toArray := by
  apply Array.ext'
  rw [toList_insertAt]
  simp [ent]
theorem hss_ins (es : List (Ints × Addr)) (p : Nat) (k : Ints) (b : Addr) : hss prog w (es.take p ++ (k, b) :: es.drop p) = (hss prog w es).take p ++ hsh prog w k :: (hss prog w es).drop p := by
  simp [hss]
theorem perm_ins (es : List (Ints × Addr)) (p : Nat) (e : Ints × Addr) : (es.take p ++ e :: es.drop p).Perm (e :: es) := by
  refine List.perm_middle.trans ?_
  rw [List.take_append_drop]
theorem exact_put {o : Obj} {es : Array (Int × Value)} {ep : Nat} {t : SetTable} (hd : o.data = .set es ep t) (hex : o.ExactSet) (es' : Array (Int × Value)) (t' : SetTable) : (Obj.putSet es' t' o).ExactSet ∧ (Obj.putSet es' t' o).data = .set es' (ep + 1) t' := by
  rw [putSet_of es' t' hd]
  exact ⟨hex, rfl⟩
theorem get_put {h : Heap} {a : Addr} {o : Obj} {es : Array (Int × Value)} {ep : Nat} {t : SetTable} (ho : h.get? a = some o) (hd : o.data = .set es ep t) (es' : Array (Int × Value)) (t' : SetTable) :
    (h.update a (Obj.putSet es' t')).get? a = some { o with data := .set es' (ep + 1) t' } := by
  have := Heap.get?_update_self (Obj.putSet es' t') ho (by rw [putSet_of es' t' hd]; rfl)
  rw [putSet_of es' t' hd] at this; exact this
theorem relay_wp {a : Addr} {es : List (Ints × Addr)} {o : Obj} {ep m wanted : Nat} {t : SetTable} {Q : Unit → Shared → Prop} (ho : s.heap.get? a = some o) (hex : o.ExactSet) (hd : o.data = .set (es.map (ent prog w)).toArray ep t)
    (hfit : t.fits (es.map (ent prog w)).toArray.size = true) (hm : Odd m) (hw : sizeAbove wanted - 1 = m) (hws : sizeAbove wanted ≤ sizeLine) (hr : es.length * 5 < m * 3) (hp : t.plain = true) (hled : t.led = !byT w)
    (h : ∀ h' es', Heap.SameBut a s.heap h' → SetAt prog w h' a es' → es'.Perm es → Q () { s with heap := h' }) : wpAny (model prog w) A (setRelay a wanted) Q E s := by
  let eA : Array (Int × (Ints × Addr)) := (es.map fun e => (hsh prog w e.1, e)).toArray
  have hsz : eA.size = es.length := by simp [eA]
  obtain ⟨t', order, h1, h2, h3, h4⟩ := relay_spec (α := Ints × Addr) (t := t) (es := eA) (wanted := wanted) (m := m) hm hw (by rw [hsz]; exact hr) hp
  let es2 : List (Ints × Addr) := (order.filterMap (eA[·]?)).toList.map (·.2)
  have hh : ∀ q ∈ (order.filterMap (eA[·]?)).toList, q.1 = hsh prog w q.2.1 := fun q hq => by
    have := h2.mem_iff.mp hq
    simp only [eA, List.mem_map] at this
    obtain ⟨e, _, rfl⟩ := this
    rfl
  have e1 : eA.map (·.1) = (es.map (ent prog w)).toArray.map (·.1) := by
    apply Array.ext'
    simp [eA, ent]
  have e2 : order.filterMap ((es.map (ent prog w)).toArray[·]?) = (es2.map (ent prog w)).toArray := by
    apply Array.ext'
    rw [Array.toList_filterMap]
    simp only [es2]
    rw [Array.toList_filterMap, List.map_map, List.map_filterMap]
    refine congrArg (fun f => List.filterMap f order.toList) (funext fun q => ?_)
    simp only [eA, List.getElem?_toArray, List.getElem?_map]
    cases es[q]? <;> rfl
  have e3 : (order.filterMap (eA[·]?)).toList.map (·.1) = hss prog w es2 := by
    simp only [es2, hss, List.map_map]
    exact List.map_congr_left fun q hq => hh q hq
  have p2 : es2.Perm es := by
    have := h2.map (·.2)
    simp only [eA, List.map_map] at this
    refine this.trans (List.Perm.of_eq ?_)
    exact (List.map_congr_left fun q _ => rfl).trans (List.map_id es)
  rw [e3] at h3
  unfold setRelay
  refine wpAny_bind (wpAny_setState_of ho hd hfit ?_)
  dsimp only
  rw [if_neg (by omega), ← e1, h1]
  refine wpAny_bind ?_
  show wpAny _ _ (if ((order.filterMap ((es.map (ent prog w)).toArray[·]?)).size != (es.map (ent prog w)).toArray.size) = true then _ else pure (order.filterMap ((es.map (ent prog w)).toArray[·]?), t')) _ E s
  rw [e2]
  have hl2 : es2.length = es.length := p2.length_eq
  rw [if_neg (by simp [hl2])]
  refine wpAny_pure ?_
  dsimp only
  refine wpAny_storeSet_of ho hd ?_ ?_
  · exact h _ es2 (Heap.SameBut.update s.heap a _) ⟨_, _, t', get_put ho hd _ _, hex, rfl, h3, by rw [h4]; exact hled⟩ p2
  · have := h3.room
    have hlen : (hss prog w es2).length = es2.length := by simp [hss]
    rw [hlen] at this
    have hm7 : m ≤ 127 := by rcases hm with e | e | e <;> omega
    simp only [List.size_toArray, List.length_map]
    rw [sizeLine_eq]
    omega
theorem add_wp {a b : Addr} {k : Ints} {es : List (Ints × Addr)} {Q : Bool → Shared → Prop} (hu : A.units < cLine) (S : SetAt prog w s.heap a es) (K : ∀ e ∈ es, TK prog w s.heap e.1 e.2) (x : TK prog w s.heap k b) (hl : es.length < 64)
    (h1 : k ∈ es.map (·.1) → Q false s) (h2 : k ∉ es.map (·.1) → ∀ h' es', Heap.SameBut a s.heap h' → SetAt prog w h' a es' → es'.Perm ((k, b) :: es) → Q true { s with heap := h' }) :
    wpAny (model prog w) A (setAddHashed a (.ref b) (hsh prog w k)) Q E s := by
  obtain ⟨o, ep, t, ho, hex, hd, T, hled⟩ := S
  unfold setAddHashed setAddHashedIn
  refine wpAny_holding (wpAny_bind (wpAny_setState_of ho hd (fits_at T) ?_))
  dsimp only
  rw [show byScan (Value.ref b) (es.map (ent prog w)).toArray = false from rfl]
  simp only [Bool.false_eq_true, if_false]
  obtain ⟨N, n1, n2, n3, n4⟩ := T.gap (hsh prog w k)
  refine wpAny_bind ?_
  unfold setSearch
  have hm127 : t.mask ≤ 127 := by rcases T.odd with e | e | e <;> omega
  refine search_wp hu ho hd T K x n1 n2 n3 (N - 0) 0 100000 none _ rfl (Nat.zero_le _) (by omega) rfl (fun hk => ?_) fun hno => ?_
  · exact wpAny_pure (h1 hk)
  · have habs := absent_of T n2 hno
    dsimp only
    refine wpAny_bind (wpAny_setState_of ho hd (fits_at T) ?_)
    dsimp only
    obtain ⟨p1, p2, p3, p4, p5, p6, p7, p8, p9⟩ := T.put (h := hsh prog w k) rfl n4 n2 n3
    generalize hj : (pth t.mask (st0 t.mask (hsh prog w k)) N).j = j at p1 p2 p3 p4 p5 p6 p7 p8 p9
    obtain ⟨⟨t1, p⟩, hput⟩ : ∃ q : SetTable × Nat, q = t.put j := ⟨_, rfl⟩
    rw [← hput] at p1 p2 p3 p4 p5 p6 p7 p8 p9 ⊢
    dsimp only at p1 p2 p3 p4 p5 p6 p7 p8 p9 ⊢
    rw [p7]
    refine wpAny_bind ?_
    refine hash_by_value x ?_
    simp only [if_true]
    rw [insert_ent]
    have hlen : (hss prog w es).length = es.length := by simp [hss]
    have hl1 : (es.take p ++ (k, b) :: es.drop p).length = es.length + 1 := (perm_ins es p (k, b)).length_eq
    generalize he1 : es.take p ++ (k, b) :: es.drop p = es1 at hl1
    have hss1 : hss prog w es1 = (hss prog w es).take p ++ hsh prog w k :: (hss prog w es).drop p := by rw [← he1]; exact hss_ins es p k b
    have hperm : es1.Perm ((k, b) :: es) := by rw [← he1]; exact perm_ins es p (k, b)
    have hlen1 : (hss prog w es1).length = es.length + 1 := by simp [hss, hl1]
    rw [← hss1] at p4
    rw [hlen] at p3
    refine wpAny_bind (wpAny_storeSet_of ho hd ?_ (by simp only [List.size_toArray, List.length_map]; rw [hl1, sizeLine_eq]; omega))
    have g1 := get_put ho hd (es1.map (ent prog w)).toArray t1
    have sb := Heap.SameBut.update s.heap a (Obj.putSet (es1.map (ent prog w)).toArray t1)
    have hfill : t1.fill = es.length + 1 := by
      unfold SetTable.fill
      rw [p6, p3]
      rfl
    by_cases hfull : t1.tooFull = true
    · rw [if_pos (by simp [hfull])]
      have hroom := T.room
      rw [hlen] at hroom
      unfold SetTable.tooFull at hfull
      rw [hfill, p5] at hfull
      simp only [ge_iff_le, decide_eq_true_eq] at hfull
      have hfit : t1.fits (es1.map (ent prog w)).toArray.size = true := by
        unfold SetTable.fits
        rw [hfill, p5, p3]
        simp only [List.size_toArray, List.length_map, hl1, beq_self_eq_true, Bool.true_and, decide_eq_true_eq]
        omega
      have hcase : ∃ m, Odd m ∧ sizeAbove (grown (es.length + 1)) - 1 = m ∧ sizeAbove (grown (es.length + 1)) ≤ sizeLine ∧ (es.length + 1) * 5 < m * 3 := by
        rcases T.odd with e | e | e
        · have : es.length = 4 := by omega
          rw [this]
          exact ⟨31, .inr (.inl rfl), by decide, by rw [sizeLine_eq]; decide, by decide⟩
        · have : es.length = 18 := by omega
          rw [this]
          exact ⟨127, .inr (.inr rfl), by decide, by rw [sizeLine_eq]; decide, by decide⟩
        · omega
      obtain ⟨m, c1, c2, c3, c4⟩ := hcase
      simp only [List.size_toArray, List.length_map]
      refine wpAny_bind (relay_wp (s := { s with heap := s.heap.update a (Obj.putSet (es1.map (ent prog w)).toArray t1) }) g1 hex rfl hfit c1 c2 c3 (by rw [hl1]; exact c4) p7 (by rw [p8]; exact hled) fun h' es' q1 q2 q3 => ?_)
      exact wpAny_pure (h2 habs h' es' (sb.trans q1) q2 (q3.trans hperm))
    · have hfull' : t1.tooFull = false := by simpa using hfull
      rw [if_neg (by simp [hfull'])]
      refine wpAny_bind (wpAny_pure ?_)
      refine wpAny_pure (h2 habs _ es1 sb ⟨_, _, t1, g1, hex, rfl, ⟨by rw [p5]; exact T.odd, p6, p1, by rw [p5]; exact p2, by rw [p3, hlen1], ?_, by rw [p5]; exact p4, p7⟩, by rw [p8]; exact hled⟩ hperm)
      unfold SetTable.tooFull at hfull'
      rw [hfill] at hfull'
      simp only [ge_iff_le, decide_eq_false_iff_not] at hfull'
      rw [hlen1]
      omega
end
end Sb
end
section
set_option autoImplicit false
set_option linter.all false
set_option maxRecDepth 100000
namespace Sb
open PySem PySem.Spec PyProof.Rows SetTable
section
variable {prog : Program} {w : World} {A : Around} {R : Result → Shared → Prop} {I : Addr} {fp wr : List Addr} {G : Array GenState → Array GenState → Prop} {n : Nat} {P : Nat → Value → Prop} {St : Nat → Shared → Prop}
/-- what a set holds once it has met the first keys -/
structure Met (prog : Program) (w : World) (h : Heap) (S : Addr) (bs : List Addr) (ks : List Ints) (es : List (Ints × Addr)) : Prop where
  at_ : SetAt prog w h S es
  tk : ∀ e ∈ es, e.2 ∈ bs ∧ TK prog w h e.1 e.2
  nd : (es.map (·.1)).Nodup
  mem : ∀ k, k ∈ es.map (·.1) ↔ k ∈ ks
theorem SetAt.same {h h' : Heap} {S : Addr} {es : List (Ints × Addr)} (x : SetAt prog w h S es) (e : ∀ o, h.get? S = some o → h'.get? S = some o) : SetAt prog w h' S es := by
  obtain ⟨o, ep, t, ho, r⟩ := x
  exact ⟨o, ep, t, e o ho, r⟩
theorem Met.same {h h' : Heap} {S : Addr} {bs : List Addr} {ks : List Ints} {es : List (Ints × Addr)} (x : Met prog w h S bs ks es) (e : ∀ b o, b = S ∨ b ∈ bs → h.get? b = some o → h'.get? b = some o) : Met prog w h' S bs ks es :=
  ⟨x.at_.same fun o => e S o (.inl rfl), fun q hq => ⟨(x.tk q hq).1, (x.tk q hq).2.same fun o => e _ o (.inr (x.tk q hq).1)⟩, x.nd, x.mem⟩
theorem upd_loop (W : WalksS prog w A.in1 I fp wr G n P St) (hu : A.in1.units < cLine) (S : Addr) (hSf : S ∉ fp) {ks : List Ints} {bs : List Addr} (hval : ∀ i v, P i v → ∃ b, bs[i]? = some b ∧ v = .ref b)
    (hkl : ks.length = n) (hbl : bs.length = n) (hn : n ≤ 64) (hbw : ∀ b ∈ bs, b ∉ wr ∧ b ≠ S) : ∀ (k i : Nat) (s : Shared) (es : List (Ints × Addr)), n - i = k → i ≤ n → St i s → Met prog w s.heap S bs (ks.take i) es →
      (∀ (j : Nat) q b, ks[j]? = some q → bs[j]? = some b → TK prog w s.heap q b) →
      (∀ s' es', Moved (S :: wr) G s s' → Met prog w s'.heap S bs ks es' → R (.ok (.ret .none)) s') →
      codeAny (model prog w) A (.builtin "set.update.loop" ⟨[.ref S, .ref I], []⟩) R s := by
  have nSw : S ∉ wr := fun h => hSf (W.sub _ h)
  have wrS : ∀ b ∈ wr, b ∈ S :: wr := fun b hb => List.mem_cons_of_mem _ hb
  intro k
  induction k with
  | zero =>
    intro i s es hk hi hst hM hT hR
    have : i = n := by omega
    subst this
    refine codeAny_builtin F.entry_set_update_loop ?_
    rw [Around.under_plainId F.plain_set_update_loop _]
    refine wpAny_bind (m := pyNext (.ref I)) (W.done s _ _ hst fun s' hm => ?_)
    refine wpAny_pure (hR s' es (hm.mono wrS) ?_)
    rw [← hkl, List.take_length] at hM
    refine hM.same fun b o hb e => hm.heap b o ?_ e
    rcases hb with rfl | hb
    · exact nSw
    · exact (hbw b hb).1
  | succ k ih =>
    intro i s es hk hi hst hM hT hR
    have hlt : i < n := by omega
    refine codeAny_builtin F.entry_set_update_loop ?_
    rw [Around.under_plainId F.plain_set_update_loop _]
    refine wpAny_bind (m := pyNext (.ref I)) (W.item i s _ _ hlt hst fun v s' hP hst' hm => ?_)
    obtain ⟨b, hb, rfl⟩ := hval i v hP
    have hki : ks[i]? = some ks[i] := List.getElem?_eq_getElem (by omega)
    generalize ks[i] = q at hki
    have k1 : ∀ c o, c = S ∨ c ∈ bs → s.heap.get? c = some o → s'.heap.get? c = some o := fun c o hc e => hm.heap c o (by
      rcases hc with rfl | hc
      · exact nSw
      · exact (hbw c hc).1) e
    have hM' := hM.same k1
    have hT' : ∀ (j : Nat) q b, ks[j]? = some q → bs[j]? = some b → TK prog w s'.heap q b := fun j q b h1 h2 => (hT j q b h1 h2).same fun o => k1 b o (.inr (List.mem_of_getElem? h2))
    have x := hT' i q b hki hb
    have hbm : b ∈ bs := List.mem_of_getElem? hb
    have htake : ks.take (i + 1) = ks.take i ++ [q] := by rw [List.take_add_one, hki]; rfl
    have hlen : es.length ≤ i := by
      have h1 : (es.map (·.1)).length ≤ (ks.take i).length := len_le_of_sub hM'.nd fun y hy => (hM'.mem y).mp hy
      rw [List.length_map, List.length_take] at h1
      omega
    refine wpAny_bind (m := holding [Value.ref b] (setAdd S (.ref b))) (wpAny_holding ?_)
    unfold setAdd
    refine wpAny_holding (wpAny_bind (wpAny_pyHash_tuple hu x ?_))
    have x2 : TK prog w ({ s' with toks := s'.toks + (q.length + 1) } : Shared).heap q b := x
    refine add_wp (s := { s' with toks := s'.toks + (q.length + 1) }) hu hM'.at_ (fun e he => (hM'.tk e he).2) x2 (by omega) (fun hin => ?_) fun hnot h' es' sb S' pm => ?_
    · refine wpAny_pure ⟨plainId_quiet F.plain_set_update_loop _, ih (i + 1) _ es (by omega) hlt (W.frame _ s' _ _ hst' (Nat.le_add_right _ _) fun b hb o e => e) ?_ hT' fun s'' es'' hm'' M'' => ?_⟩
      · refine ⟨hM'.at_, hM'.tk, hM'.nd, fun y => ?_⟩
        rw [htake, List.mem_append, List.mem_singleton, hM'.mem y]
        constructor
        · exact .inl
        · rintro (h1 | rfl)
          · exact h1
          · exact (hM'.mem y).mp hin
      · exact hR s'' es'' (Moved.trans W.gtrans ((hm.mono wrS).then_heap (Nat.le_add_right _ _) fun b o hb e => e) hm'') M''
    · have old : ∀ c o, c ≠ S → s'.heap.get? c = some o → h'.get? c = some o := fun c o hc e => by rw [sb.2 c hc]; exact e
      have M2 : Met prog w h' S bs (ks.take (i + 1)) es' := by
        refine ⟨S', fun e he => ?_, ?_, fun y => ?_⟩
        · rcases List.mem_cons.mp (pm.mem_iff.mp he) with rfl | he
          · exact ⟨hbm, x.same fun o => old b o (hbw b hbm).2⟩
          · exact ⟨(hM'.tk e he).1, (hM'.tk e he).2.same fun o => old _ o (hbw _ (hM'.tk e he).1).2⟩
        · have := (pm.map (·.1)).nodup_iff.mpr
          refine this ?_
          rw [List.map_cons, List.nodup_cons]
          exact ⟨hnot, hM'.nd⟩
        · rw [(pm.map (·.1)).mem_iff, List.map_cons, List.mem_cons, htake, List.mem_append, List.mem_singleton, hM'.mem y]
          exact Or.comm
      refine wpAny_pure ⟨plainId_quiet F.plain_set_update_loop _, ih (i + 1) _ es' (by omega) hlt (W.frame _ s' _ _ hst' (Nat.le_add_right _ _) fun c hc o e => ?_) M2 (fun j q b h1 h2 => (hT' j q b h1 h2).same fun o => old b o (hbw b (List.mem_of_getElem? h2)).2) fun s'' es'' hm'' M'' => ?_⟩
      · exact old c o (fun h : c = S => hSf (by rw [← h]; exact hc)) e
      · exact hR s'' es'' (Moved.trans W.gtrans ((hm.mono wrS).then_heap (Nat.le_add_right _ _) fun c o hc e => old c o (fun h : c = S => hc (by rw [h]; exact List.mem_cons_self)) e) hm'') M''
end

section
variable {prog : Program} {w : World} {A : Around} {E : Value → Shared → Prop} {s : Shared}
def fso (led : Bool) : Obj := { cls := .type "set", dict := none, data := .set #[] 0 (.fresh 0 0 led) }
theorem fso_at (h : Heap) (a : Addr) (g : h.get? a = some (fso (!byT w))) : SetAt prog w h a [] := ⟨_, 0, _, g, ⟨rfl, rfl, rfl⟩, rfl, TOk.fresh 0 0 _, rfl⟩
theorem new_led (a : Value) {Q₁ : Value → Shared → Prop} (h : Q₁ (.ref s.heap.objs.size) { s with heap := s.heap.push (fso (!byT w)) }) :
    codeAny (model prog w) A (.call (.builtin "set.__new__") ⟨[.type "set", a], []⟩) (wants Q₁ E) s := by
  refine codeAny_of_tree (wpAny_bind (m := checkBuiltinCall "set.__new__" ⟨[.type "set", a], []⟩) (wpAny_of_eq (F.newCall_set_1 a) (wpAny_pure ⟨plainId_quiet F.plain_set_new _, codeAny_builtin F.entry_set_new ?_⟩)))
  rw [Around.under_plainId F.plain_set_new _]
  unfold Builtin.«set.__new__» Builtin.Frozenset.newClass
  have e1 := sub_set_self
  obtain ⟨hp, g, d, tk, os⟩ := s
  dsimp only
  wp_walk
  refine wpAny_askSetting (wpAny_pure ?_)
  dsimp only
  simp only [newObj]
  refine wpAny_bind (wpAny_alloc (wpAny_pure ?_))
  exact wpAny_pure h
end
end Sb
end
section
set_option autoImplicit false
set_option linter.all false
set_option maxRecDepth 100000
namespace Sb
open PySem PySem.Spec PyProof.Rows SetTable
section
variable {prog : Program} {w : World} {A : Around} {E : Value → Shared → Prop} {s : Shared}
/-- the tuples of ints at bs -/
def Tks (prog : Program) (w : World) (h : Heap) (ks : List Ints) (bs : List Addr) : Prop := ks.length = bs.length ∧ ∀ (j : Nat) q b, ks[j]? = some q → bs[j]? = some b → TK prog w h q b
theorem Tks.lt {h : Heap} {ks : List Ints} {bs : List Addr} (x : Tks prog w h ks bs) {b : Addr} (hb : b ∈ bs) : b < h.objs.size := by
  obtain ⟨j, hj, e⟩ := List.mem_iff_getElem.mp hb
  have hk : j < ks.length := by rw [x.1]; exact hj
  obtain ⟨o, _, _, ho, _⟩ := x.2 j ks[j] b (List.getElem?_eq_getElem hk) (by rw [List.getElem?_eq_getElem hj, e])
  exact Heap.lt_size ho
set_option maxHeartbeats 3200000 in
theorem call_set_tups {l : Addr} {bs : List Addr} {ks : List Ints} {Q : Value → Shared → Prop} (hh : A.handled = none) (hu : A.units + 8 < cLine) (hl : s.heap.IsList l (bs.map Value.ref).toArray) (hT : Tks prog w s.heap ks bs) (h64 : bs.length ≤ 64)
    (h : ∀ (h' : Heap) (tk : Nat) (es : List (Ints × Addr)), Met prog w h' s.heap.objs.size bs ks es → (∀ b o, b < s.heap.objs.size → s.heap.get? b = some o → h'.get? b = some o) → Q (.ref s.heap.objs.size) { s with heap := h', toks := tk }) :
    wpAny (model prog w) A (call (.type "set") [.ref l]) Q E s := by
  obtain ⟨c, tl, hmro⟩ := F.called_set.mro
  have m1 := F.called_set.made
  have m2 := F.called_set.sub
  refine wpAny_call (codeAny_of_tree ?_)
  show wpAny _ _ (callAny (Value.type "set") _) _ _ _
  refine wpAny_pure ⟨Code.quiet_builtin _ (by decide +kernel), codeAny_builtin F.entry_type_call ?_⟩
  rw [Around.under_plain (weight_type_call_type "set" [.ref l] []) rfl]
  have m3 := F.called_set.notType
  have m4 := F.called_set.canCreate
  have m5 := F.typeCall_set_1 (.ref l)
  repeat (any_goals (first | assumption | wp_step))
  refine codeAny_mono (new_led (.ref l) (E := E) (Q₁ := fun obj s₁ => obj = .ref s.heap.objs.size ∧ s₁ = { s with heap := s.heap.push (fso (!byT w)) }) ⟨rfl, rfl⟩) fun r s₁ hr => ?_
  cases r with
  | error e => exact hr
  | ok fl =>
    cases fl with
    | ret obj =>
      obtain ⟨rfl, rfl⟩ := hr
      have hS : (s.heap.push (fso (!byT w))).get? s.heap.objs.size = some (fso (!byT w)) := Heap.get?_push_size _ rfl
      have tyS : Shared.TypeIs { s with heap := s.heap.push (fso (!byT w)) } (.ref s.heap.objs.size) "set" := ⟨_, hS, rfl⟩
      have m6 := F.called_set.init.lookup
      have m7 := F.called_set.init.bind (.ref s.heap.objs.size)
      repeat (any_goals (first | assumption | wp_step))
      refine codeAny_mono (codeAny_call_builtin (R := wants (fun r s₂ => r = .none ∧ ∃ h' tk es, s₂ = { s with heap := h', toks := tk } ∧ Met prog w h' s.heap.objs.size bs ks es ∧ ∀ b o, b < s.heap.objs.size → s.heap.get? b = some o → h'.get? b = some o) E)
        F.called_set.init.plain F.entry_set_init (check_set_init_1 tyS ?_)) fun r₂ s₂ hr₂ => ?_
      · have hl0 := hl
        obtain ⟨⟨oc, od, odt, osl⟩, ho, hc, nl, hdl⟩ := hl0
        simp only at hc hdl
        subst hc; subst hdl
        have ho1 : (s.heap.push (fso (!byT w))).get? l = some { cls := .type "list", dict := od, data := .seq (bs.map Value.ref).toArray nl, slots := osl } := Heap.get?_push_of_some _ ho
        have m8 := F.sub_list_set
        have m9 := F.sub_list_frozenset
        have m10 : (Value.type "list" == Value.type "dict") = false := by decide
        have hl1 : (s.heap.push (fso (!byT w))).IsList l (bs.map Value.ref).toArray := ⟨_, ho1, rfl, nl, rfl⟩
        have hSo : (s.heap.push (fso (!byT w))).get? s.heap.objs.size = some { cls := .type "set", dict := none, data := .set #[] 0 (.fresh 0 0 (!byT w)) } := hS
        unfold Builtin.«set.__init__» noKeywords Builtin.Frozenset.updateFrom
        generalize ePI : pyIter = PI
        wp_walk
        subst ePI
        refine wpAny_pyIter_list hl1 (wpAny_bind (wpAny_runValue ?_))
        have hlS : l < s.heap.objs.size := Heap.lt_size ho
        have hsz : (s.heap.push (fso (!byT w))).objs.size = s.heap.objs.size + 1 := Heap.size_push ..
        refine upd_loop ((Walks.list (by simp [hh]) _ l (by rw [hsz]; exact Nat.ne_of_lt (Nat.lt_succ_of_lt hlS)) (bs.map Value.ref).toArray).toS) (by show A.units + 1 + 1 + 1 < cLine; omega) s.heap.objs.size ?_ (ks := ks) (bs := bs) ?_ ?_ ?_ ?_ ?_ ((bs.map Value.ref).toArray.size - 0) 0 _ [] (by omega) (Nat.zero_le _)
          ⟨⟨_, Heap.get?_push_size _ rfl, rfl, rfl⟩, hl1.push _⟩ ?_ ?_ ?_
        · rw [hsz]
          simp only [List.mem_cons, List.mem_singleton, List.not_mem_nil, or_false, not_or]
          exact ⟨Nat.ne_of_lt (Nat.lt_succ_self _), Nat.ne_of_gt hlS⟩
        · intro i v hv
          have hv' : (bs.map Value.ref).toArray[i]? = some v := hv
          rw [List.getElem?_toArray, List.getElem?_map] at hv'
          cases e : bs[i]? with
          | none => rw [e] at hv'; cases hv'
          | some b => rw [e] at hv'; exact ⟨b, rfl, (Option.some.inj hv').symm⟩
        · simp [hT.1]
        · simp
        · simpa using h64
        · intro b hb
          have hbs := hT.lt hb
          rw [hsz]
          simp only [List.mem_cons, List.mem_singleton, List.not_mem_nil, or_false]
          exact ⟨Nat.ne_of_lt (Nat.lt_succ_of_lt hbs), Nat.ne_of_lt hbs⟩
        · refine ⟨fso_at _ _ (Heap.get?_push_of_some _ hS), fun e he => by simp at he, by simp, fun k => by simp⟩
        · intro j q b h1 h2
          exact (hT.2 j q b h1 h2).same fun o e => Heap.get?_push_of_some _ (Heap.get?_push_of_some _ e)
        · intro s' es' hm M'
          obtain ⟨h', g', d', tk', os'⟩ := s'
          have e1 : g' = s.gens := hm.gens
          have e2 : d' = s.drawn := hm.drawn
          have e3 : os' = s.os := hm.os
          subst e1; subst e2; subst e3
          refine wpAny_pure ?_
          refine wpAny_pure ⟨rfl, h', tk', es', rfl, M', fun b o hb e => ?_⟩
          refine hm.heap b o ?_ (Heap.get?_push_of_some _ (Heap.get?_push_of_some _ e))
          rw [hsz]
          simp only [List.mem_cons, List.mem_singleton, List.not_mem_nil, or_false, not_or]
          exact ⟨Nat.ne_of_lt hb, Nat.ne_of_lt (Nat.lt_succ_of_lt hb)⟩
      · cases r₂ with
        | error e => exact hr₂
        | ok fl₂ =>
          cases fl₂ with
          | ret r =>
            obtain ⟨rfl, h', tk, es, rfl, M', hk'⟩ := hr₂
            repeat (any_goals (first | assumption | wp_step))
            exact h _ _ _ M' hk'
          | _ => exact hr₂.elim
    | _ => exact hr.elim
end
end Sb
end
section
set_option autoImplicit false
set_option linter.all false
set_option maxRecDepth 100000
namespace Sb
open PySem PySem.Spec PyProof.Rows SetTable
theorem owner_si : Manifest.owners.lookup (String.ofList ['r', 'o', 't', 'a', 'r', 'e', 't', 'i', '_', 't', 'e', 's'].reverse) = some Manifest.sig_set_iterator := by kernel_rfl
theorem slot_si_next : Slot "set_iterator" "__next__" "set_iterator.__next__" := .of (owner := "set_iterator") (n := "__next__") (by rw [typeLookup_type, builtinLookup_eq_fast]; kernel_rfl) (by decide +kernel) (by decide +kernel) (by decide +kernel) (by first | exact .inl (by decide +kernel) | exact .inr (by decide +kernel)) (by rw [isSubtype_type]; kernel_rfl)
theorem entry_si_next : entryFor table "set_iterator.__next__" = some Builtin.«set_iterator.__next__» := entryFor_of_tree (by kernel_rfl)
theorem args_si_next (a : Value) : argsOk "set_iterator.__next__" ⟨[a], []⟩ := by unfold argsOk; rw [signature?_of (id := "set_iterator.__next__") (n := ['_', '_', 't', 'x', 'e', 'n', '_', '_']) (o := ['r', 'o', 't', 'a', 'r', 'e', 't', 'i', '_', 't', 'e', 's']) (by kernel_rfl) owner_si]; kernel_rfl
theorem entry_s_iter : entryFor table "set.__iter__" = some Builtin.«frozenset.__iter__» := entryFor_alias (id' := "frozenset.__iter__") (by kernel_rfl) rfl (by decide +kernel) (by kernel_rfl)

/-! ### any order of the members -/
theorem erase_map {α β : Type} (g : α → β) : ∀ (l : List α) (i : Nat), (l.map g).eraseIdx i = (l.eraseIdx i).map g
  | [], _ => rfl
  | _ :: _, 0 => rfl
  | a :: l, i + 1 => by
    show g a :: (l.map g).eraseIdx i = g a :: (l.eraseIdx i).map g
    rw [erase_map g l i]
theorem erase_perm {α : Type} : ∀ (l : List α) (i : Nat) (h : i < l.length), (l[i] :: l.eraseIdx i).Perm l
  | [], i, h => by simp at h
  | a :: l, 0, _ => List.Perm.refl _
  | a :: l, i + 1, h => by
    have ih := erase_perm l i (by simpa using h)
    exact (List.Perm.swap _ _ _).trans (ih.cons a)
theorem pick_go {α β : Type} (f : Nat → Nat) (g : α → β) : ∀ (fuel k : Nat) (l : List α), l.length = fuel → ∃ o : List α, o.Perm l ∧ ∀ out : Array β, pickOrder.go f fuel k (l.map g) out = out ++ (o.map g).toArray
  | 0, k, l, h => by
    have : l = [] := List.length_eq_zero_iff.mp h
    subst this
    exact ⟨[], List.Perm.refl _, fun out => by rw [pickOrder.go]; simp⟩
  | fuel + 1, k, l, h => by
    have hlt : f k % l.length < l.length := Nat.mod_lt _ (by omega)
    obtain ⟨o, p, e⟩ := pick_go f g fuel (k + 1) (l.eraseIdx (f k % l.length)) (by rw [List.length_eraseIdx_of_lt hlt]; omega)
    refine ⟨l[f k % l.length] :: o, (p.cons _).trans (erase_perm l _ hlt), fun out => ?_⟩
    rw [pickOrder.go, List.length_map, List.getElem?_map, List.getElem?_eq_getElem hlt]
    dsimp only [Option.map_some]
    rw [erase_map, e]
    apply Array.ext'
    simp
section
variable {prog : Program} {w : World} {A : Around} {E : Value → Shared → Prop} {s : Shared}
/-- the members in the order in which a walk meets them -/
def Ord (prog : Program) (w : World) (S : Addr) (ep : Nat) (es ord : List (Ints × Addr)) : Prop :=
  ord.Perm es ∧ (byT w = false → ord = es) ∧ (byT w = true → pickOrder (w.params.setOrder S ep) (es.map (ent prog w)).toArray = (ord.map (ent prog w)).toArray)
theorem ord_any (S : Addr) (ep : Nat) (es : List (Ints × Addr)) : ∃ ord, Ord prog w S ep es ord := by
  cases hb : byT w with
  | false => exact ⟨es, List.Perm.refl _, fun _ => rfl, fun h => by rw [hb] at h; cases h⟩
  | true =>
    obtain ⟨o, p, e⟩ := pick_go (w.params.setOrder S ep) (ent prog w) es.length 0 es rfl
    refine ⟨o, p, (fun h => by rw [hb] at h; cases h), fun _ => ?_⟩
    unfold pickOrder
    have := e #[]
    simp only [List.size_toArray, List.length_map] at this ⊢
    rw [this]
    simp
/-- where the walk stands before its i-th item -/
def sl (w : World) (t : SetTable) : Nat → Nat
  | 0 => 0
  | i + 1 => if byT w then 0 else t.place.getD i 0 + 1
def iobj (w : World) (t : SetTable) (S : Addr) (n ep i : Nat) : Obj := { cls := .type "set_iterator", data := .fields #[rawInt (sl w t i), rawInt i, .ref S, rawInt n, rawInt ep] }
theorem below_sl {t : SetTable} {hs : List Int} (T : TOk t hs) {i : Nat} (hi : i ≤ t.place.size) (hb : byT w = false) : below t.place (sl w t i) = i := by
  obtain ⟨b1, b2, b3⟩ := below_spec T.up (sl w t i)
  cases i with
  | zero =>
    rcases Nat.eq_zero_or_pos (below t.place (sl w t 0)) with h | h
    · exact h
    · have hlt : 0 < t.place.size := by omega
      have := b2 0 _ h (Array.getElem?_eq_getElem hlt)
      simp [sl] at this
  | succ i =>
    have hlt : i < t.place.size := by omega
    have e : sl w t (i + 1) = t.place[i] + 1 := by simp [sl, hb, Array.getD, hlt]
    rw [e] at b1 b2 b3 ⊢
    have hle : i < below t.place (t.place[i] + 1) := by
      refine Classical.byContradiction fun hn => ?_
      have := b3 i _ (by omega) (Array.getElem?_eq_getElem hlt)
      omega
    rcases Nat.lt_or_ge (i + 1) (below t.place (t.place[i] + 1)) with h | h
    · have h1 : i + 1 < t.place.size := by omega
      have h2 := b2 (i + 1) _ h (Array.getElem?_eq_getElem h1)
      have h3 := T.up.lt (show i < i + 1 by omega) (Array.getElem?_eq_getElem hlt) (Array.getElem?_eq_getElem h1)
      omega
    · omega
/-- what comes next -/
theorem next_wp {S : Addr} {o : Obj} {es ord : List (Ints × Addr)} {ep i : Nat} {t : SetTable} {Q : Option (Value × Nat) → Shared → Prop} (ho : s.heap.get? S = some o) (hd : o.data = .set (es.map (ent prog w)).toArray ep t) (T : TOk t (hss prog w es)) (hled : t.led = !byT w)
    (hO : Ord prog w S ep es ord) (hi : i ≤ es.length) (h : Q (ord[i]?.map fun e => (.ref e.2, sl w t (i + 1))) s) : wpAny (model prog w) A (setNext S (sl w t i) i ep) Q E s := by
  unfold setNext
  refine wpAny_bind (wpAny_setState_of ho hd (fits_at T) ?_)
  dsimp only
  unfold setsByText
  refine wpAny_bind (wpAny_bind (wpAny_askSetting (wpAny_pure ?_)))
  have hsz : t.place.size = es.length := by rw [T.size]; simp [hss]
  cases hb : byT w with
  | true =>
    refine wpAny_ite_split (fun _ => ?_) (fun hab => absurd hb hab)
    rw [if_neg (by simp)]
    refine wpAny_bind ?_
    unfold setWalk
    refine wpAny_bind (wpAny_setState_of ho hd (fits_at T) ?_)
    dsimp only
    unfold setsByText
    refine wpAny_bind (wpAny_bind (wpAny_askSetting (wpAny_pure ?_)))
    refine wpAny_ite_split (fun _ => ?_) (fun hab => absurd hb hab)
    refine wpAny_bind (wpAny_askSetting (wpAny_pure ?_))
    refine wpAny_pure ?_
    have e := hO.2.2 hb
    show Q (Option.map _ ((pickOrder (w.params.setOrder S ep) (es.map (ent prog w)).toArray)[i]?)) s
    rw [e, List.getElem?_toArray, List.getElem?_map]
    have hsl : ∀ j, sl w t j = 0 := fun j => by cases j <;> simp [sl, hb]
    cases hq : ord[i]? with
    | none => rw [hq] at h; exact h
    | some q =>
      rw [hq] at h
      rw [hsl i]
      have h2 : Q (some (Value.ref q.2, sl w t (i + 1))) s := h
      rw [hsl (i + 1)] at h2
      exact h2
  | false =>
    refine wpAny_ite_split (fun hab => absurd (hb.symm.trans hab) (by decide)) (fun _ => ?_)
    have eo := hO.2.1 hb
    subst eo
    refine wpAny_ite_split (fun hab => absurd hab ?_) (fun _ => ?_)
    · show ¬ ((!t.plain && decide ((ord.map (ent prog w)).toArray.size > 1)) = true)
      rw [T.plain]
      simp
    · refine wpAny_bind ?_
      refine wpAny_ite_split (fun hab => absurd hab ?_) (fun _ => ?_)
      · show ¬ ((!t.led && !(ord.map (ent prog w)).toArray.isEmpty) = true)
        rw [hled, hb]
        simp
      · refine wpAny_pure ?_
        rw [below_sl T (by omega) hb]
        refine wpAny_pure ?_
        rw [List.getElem?_toArray, List.getElem?_map]
        rcases Nat.lt_or_ge i ord.length with hlt | hge
        · have hp : i < t.place.size := by omega
          rw [List.getElem?_eq_getElem hlt, Array.getElem?_eq_getElem hp]
          rw [List.getElem?_eq_getElem hlt] at h
          have e : sl w t (i + 1) = t.place[i] + 1 := by simp [sl, hb, Array.getD, hp]
          have h2 : Q (some (Value.ref ord[i].2, sl w t (i + 1))) s := h
          rw [e] at h2
          exact h2
        · have e1 : ord[i]? = none := List.getElem?_eq_none hge
          rw [e1]
          rw [e1] at h
          exact h
end
end Sb
end
section
set_option autoImplicit false
set_option linter.all false
set_option maxRecDepth 100000
namespace Sb
open PySem PySem.Spec PyProof.Rows SetTable
theorem slot_si_iter : Slot "set_iterator" "__iter__" "set_iterator.__iter__" := .of (owner := "set_iterator") (n := "__iter__") (by rw [typeLookup_type, builtinLookup_eq_fast]; kernel_rfl) (by decide +kernel) (by decide +kernel) (by decide +kernel) (by first | exact .inl (by decide +kernel) | exact .inr (by decide +kernel)) (by rw [isSubtype_type]; kernel_rfl)
theorem entry_si_iter : entryFor table "set_iterator.__iter__" = some Builtin.«dict_keyiterator.__iter__» := entryFor_alias (id' := "dict_keyiterator.__iter__") (by kernel_rfl) rfl (by decide +kernel) (by kernel_rfl)
theorem args_si_iter (a : Value) : argsOk "set_iterator.__iter__" ⟨[a], []⟩ := by unfold argsOk; rw [signature?_of (id := "set_iterator.__iter__") (n := ['_', '_', 'r', 'e', 't', 'i', '_', '_']) (o := ['r', 'o', 't', 'a', 'r', 'e', 't', 'i', '_', 't', 'e', 's']) (by kernel_rfl) owner_si]; kernel_rfl
section
variable {prog : Program} {w : World} {A : Around} {E : Value → Shared → Prop} {s : Shared}
/-- a set as it stands, and the order in which it is walked -/
structure Stands (prog : Program) (w : World) (S : Addr) (o : Obj) (ep : Nat) (t : SetTable) (es ord : List (Ints × Addr)) : Prop where
  ex : o.ExactSet
  data : o.data = .set (es.map (ent prog w)).toArray ep t
  ok : TOk t (hss prog w es)
  led : t.led = !byT w
  ord : Ord prog w S ep es ord
theorem iobj_set {t : SetTable} {S I : Addr} {n ep i : Nat} {h : Heap} (g : h.get? I = some (iobj w t S n ep i)) :
    ((h.update I (Obj.mapFields (·.setIfInBounds 0 (rawInt (sl w t (i + 1)))))).update I (Obj.mapFields (·.setIfInBounds 1 (rawInt ((i : Int) + 1))))).get? I = some (iobj w t S n ep (i + 1)) := by
  have g1 := Heap.get?_update_self (Obj.mapFields (·.setIfInBounds 0 (rawInt (sl w t (i + 1))))) g rfl
  have g2 := Heap.get?_update_self (Obj.mapFields (·.setIfInBounds 1 (rawInt ((i : Int) + 1)))) g1 rfl
  rw [g2]
  rfl
theorem item_wp {S I : Addr} {o : Obj} {ep i : Nat} {t : SetTable} {es ord : List (Ints × Addr)} {e : Ints × Addr} {Q : Option Value → Shared → Prop} (Z : Stands prog w S o ep t es ord) (gI : s.heap.get? I = some (iobj w t S es.length ep i)) (gS : s.heap.get? S = some o) (hi : i < es.length) (he : ord[i]? = some e)
    (hQ : ∀ h', h'.get? I = some (iobj w t S es.length ep (i + 1)) → Heap.SameBut I s.heap h' → Q (some (.ref e.2)) { s with heap := h' }) : wpAny (model prog w) A (pyNext (.ref I)) Q E s := by
  have hT : s.TypeIs (.ref I) "set_iterator" := ⟨_, gI, rfl⟩
  unfold pyNext
  refine wpAny_bind (wpAny_attempt (wpAny_callSpecial?_slot (name := Str.ofString "__next__") hT slot_si_next (wpAny_call_entry slot_si_next hT entry_si_next ?_ (args_si_next _))))
  show wpAny _ _ (fieldsOf (.ref I) >>= _) _ _ s
  refine wpAny_bind (wpAny_fieldsOf gI rfl ?_)
  show wpAny _ _ (setEntries S >>= _) _ _ s
  refine wpAny_bind (wpAny_setEntries_of gS Z.data (fits_at Z.ok) ?_)
  rw [if_neg (by simp)]
  show wpAny _ _ (setNext S (sl w t i) i ep >>= _) _ _ s
  refine wpAny_bind (next_wp gS Z.data Z.ok Z.led Z.ord (by omega) ?_)
  rw [he]
  show wpAny _ _ (setField (.ref I) 0 (rawInt (sl w t (i + 1))) >>= _) _ _ s
  refine wpAny_bind (wpAny_setField gI rfl (by simp) ?_)
  have g1 := Heap.get?_update_self (Obj.mapFields (·.setIfInBounds 0 (rawInt (sl w t (i + 1))))) gI rfl
  refine wpAny_bind (wpAny_setField g1 rfl (by simp) ?_)
  refine wpAny_pure ⟨_, rfl, wpAny_pure (hQ _ (iobj_set gI) ?_)⟩
  exact (Heap.SameBut.update s.heap I _).trans (Heap.SameBut.update _ I _)
theorem done_wp {S I : Addr} {o : Obj} {ep : Nat} {t : SetTable} {es ord : List (Ints × Addr)} {Q : Option Value → Shared → Prop} (hh : A.handled = none) (Z : Stands prog w S o ep t es ord) (gI : s.heap.get? I = some (iobj w t S es.length ep es.length)) (gS : s.heap.get? S = some o)
    (hQ : ∀ h', Heap.ExtBut I s.heap h' → Q none { s with heap := h' }) : wpAny (model prog w) A (pyNext (.ref I)) Q E s := by
  have hT : s.TypeIs (.ref I) "set_iterator" := ⟨_, gI, rfl⟩
  unfold pyNext
  refine wpAny_bind (wpAny_attempt (wpAny_callSpecial?_slot (name := Str.ofString "__next__") hT slot_si_next (wpAny_call_entry slot_si_next hT entry_si_next ?_ (args_si_next _))))
  show wpAny _ _ (fieldsOf (.ref I) >>= _) _ _ s
  refine wpAny_bind (wpAny_fieldsOf gI rfl ?_)
  show wpAny _ _ (setEntries S >>= _) _ _ s
  refine wpAny_bind (wpAny_setEntries_of gS Z.data (fits_at Z.ok) ?_)
  rw [if_neg (by simp)]
  show wpAny _ _ (setNext S (sl w t es.length) es.length ep >>= _) _ _ s
  refine wpAny_bind (next_wp gS Z.data Z.ok Z.led Z.ord (Nat.le_refl _) ?_)
  rw [List.getElem?_eq_none (by rw [Z.ord.1.length_eq]; exact Nat.le_refl _)]
  show wpAny _ _ (setField (.ref I) 2 Value.none >>= _) _ _ s
  refine wpAny_bind (wpAny_setField gI rfl (by simp) ?_)
  refine wpAny_bind (m := newExc (.type "StopIteration") []) ?_
  simp only [newExc, newTuple]; refine wpAny_bind (wpAny_newObj_type ?_ (by size_fits)); refine wpAny_bind (m := firstArgMember _ _) (wpAny_of_eq (a := Value.none) (by first | rfl | (simp only [firstArgMember]; rfl)) (wpAny_newObj_type ?_ (by size_fits)))
  simp only [raiseNew]
  refine wpAny_bind (wpAny_handled ?_)
  rw [show A.in1.handled = none from hh]
  refine wpAny_bind (wpAny_pure (wpAny_throw ?_)); refine wpAny_bind (wpAny_isInstance (T := "StopIteration") (b := true) ⟨_, Heap.get?_push_size _ rfl, rfl⟩ isSubtype_stop ?_)
  exact wpAny_pure (hQ _ (((Heap.SameBut.update ..).extBut.push _).push _))
theorem walks {S I : Addr} {o : Obj} {ep : Nat} {t : SetTable} {es ord : List (Ints × Addr)} (hh : A.handled = none) (hne : S ≠ I) (Z : Stands prog w S o ep t es ord) :
    Walks prog w A I [I, S] [I] es.length (fun i v => ∃ e, ord[i]? = some e ∧ v = Value.ref e.2) (fun i h => h.get? I = some (iobj w t S es.length ep i) ∧ h.get? S = some o) where
  sub := fun b hb => by simp at hb; simp [hb]
  frame := fun _ _ _ st hk => ⟨hk I (by simp) _ st.1, hk S (by simp) _ st.2⟩
  item := fun i s Q E hi st hQ => by
    have hlt : i < ord.length := by rw [Z.ord.1.length_eq]; exact hi
    refine item_wp Z st.1 st.2 hi (List.getElem?_eq_getElem hlt) fun h' g' sb => ?_
    exact hQ _ h' s.toks ⟨_, List.getElem?_eq_getElem hlt, rfl⟩ ⟨g', (sb.2 S hne).trans st.2⟩ fun b o hb e => sb.extBut b o (fun h => hb (by simp [h])) e
  done := fun s Q E st hQ => done_wp hh Z st.1 st.2 fun h' he' => hQ h' s.toks fun b o hb e => he' b o (fun h => hb (by simp [h])) e
  self := fun i s Q E st hQ => by
    have hT : s.TypeIs (.ref I) "set_iterator" := ⟨_, st.1, rfl⟩
    refine wpAny_pyIter_slot hT slot_si_iter (wpAny_call_entry slot_si_iter hT entry_si_iter ?_ (args_si_iter _))
    exact wpAny_pure ⟨_, rfl, "set_iterator", _, hT, slot_si_next.lookup, hQ⟩
theorem iter_wp {S : Addr} {o : Obj} {ep : Nat} {t : SetTable} {es ord : List (Ints × Addr)} {Q : Value → Shared → Prop} (Z : Stands prog w S o ep t es ord) (gS : s.heap.get? S = some o)
    (hQ : Q (.ref s.heap.objs.size) { s with heap := s.heap.push (iobj w t S es.length ep 0) }) : wpAny (model prog w) A (pyIter (.ref S)) Q E s := by
  have hT : s.TypeIs (.ref S) "set" := ⟨_, gS, Z.ex.1⟩
  refine wpAny_pyIter_slot hT F.slot_set_iter (wpAny_call_entry F.slot_set_iter hT entry_s_iter ?_ (F.args_set_iter_1 _))
  unfold Builtin.«frozenset.__iter__» Builtin.Frozenset.slot0 slotArgs Builtin.Frozenset.addrOf Builtin.Frozenset.sizeOf
  show wpAny _ _ ((setEntries S >>= _) >>= _) _ _ s
  refine wpAny_bind (wpAny_bind (wpAny_setEntries_of gS Z.data (fits_at Z.ok) (wpAny_pure ?_)))
  refine wpAny_bind ?_
  unfold setDrawn setsByText
  refine wpAny_bind (wpAny_setState_of gS Z.data (fits_at Z.ok) ?_)
  dsimp only
  refine wpAny_bind (wpAny_bind (wpAny_askSetting (wpAny_pure ?_)))
  refine wpAny_pure ?_
  refine wpAny_ite_split (fun hab => absurd hab ?_) (fun _ => ?_)
  · show ¬ ((!w.params.followText "set-order" && (!t.plain && decide ((es.map (ent prog w)).toArray.size > 1))) = true)
    rw [Z.ok.plain]
    simp
  · refine wpAny_bind (wpAny_pure ?_)
    refine wpAny_bind (wpAny_setEpoch_of gS Z.data (fits_at Z.ok) ?_)
    refine wpAny_bind (wpAny_newObj_type (wpAny_pure ⟨_, rfl, "set_iterator", _, ⟨_, Heap.get?_push_size _ rfl, rfl⟩, slot_si_next.lookup, ?_⟩))
    have : (es.map (ent prog w)).toArray.size = es.length := by simp
    rw [this]
    exact hQ
end
end Sb
end
section
set_option autoImplicit false
set_option linter.all false
set_option maxRecDepth 100000
namespace Sb
open PySem PySem.Spec PyProof.Rows SetTable

/-! ### the order of tuples of ints -/
abbrev itms (k : Ints) : List (Int ⊕ List Nat) := k.map Sum.inl
def ltI (a b : Ints) : Bool := lexLt itemOrd (itms a) (itms b)
theorem itms_inj {a b : Ints} (h : itms a = itms b) : a = b := (List.map_inj_right fun x y e => Sum.inl.inj e).mp h
theorem ltI_irrefl (a : Ints) : ltI a a = false := lex_irrefl _
theorem ltI_trans {a b c : Ints} (h : ltI a b = true) (h' : ltI b c = true) : ltI a c = true := lex_trans _ _ _ h h'
theorem ltI_total {a b : Ints} (h : ltI a b = false) (h' : ltI b a = false) : a = b := itms_inj (lex_total _ _ h h')
theorem perm_map {α β : Type} {g : α → β} : ∀ {l l' : List β}, l.Perm l' → ∀ p : List α, l' = p.map g → ∃ o : List α, o.Perm p ∧ l = o.map g := by
  intro l l' h
  induction h with
  | nil => intro p e; exact ⟨[], by have : p = [] := List.map_eq_nil_iff.mp e.symm; rw [this], rfl⟩
  | cons x _ ih =>
    intro p e
    cases p with
    | nil => cases e
    | cons a p =>
      obtain ⟨e1, e2⟩ := List.cons.inj e
      obtain ⟨o, h1, h2⟩ := ih p e2
      exact ⟨a :: o, h1.cons a, by rw [h2, e1]; rfl⟩
  | swap x y l =>
    intro p e
    match p, e with
    | a :: b :: p, e =>
      obtain ⟨e1, e2⟩ := List.cons.inj e
      obtain ⟨e3, e4⟩ := List.cons.inj e2
      exact ⟨b :: a :: p, List.Perm.swap _ _ _, by rw [e1, e3, e4]; rfl⟩
  | trans _ _ ih1 ih2 =>
    intro p e
    obtain ⟨o, h1, h2⟩ := ih2 p e
    obtain ⟨o', h3, h4⟩ := ih1 o h2
    exact ⟨o', h3.trans h1, h4⟩
section
variable {prog : Program} {w : World} {A : Around} {E : Value → Shared → Prop} {s : Shared}
abbrev sh0 : Nat → Bool := fun _ => false
theorem tupItems_of : ∀ {k : Ints} {vs : List Value} (i : Nat), PySem.ItemsAre (PySem.intKind prog w) k vs → tupItems sh0 i vs = some (itms k)
  | _, _, _, .nil => rfl
  | _, _, i, .cons h1 h2 => by
    obtain ⟨t, rfl⟩ := Value.isInt_shape h1
    show (tupItems sh0 (i + 1) _).map _ = _
    rw [tupItems_of (i + 1) h2]
    rfl
theorem key_tk {h : Heap} {k : Ints} {b : Addr} (x : TK prog w h k b) : G.tupKeyC h sh0 (.ref b) = some (itms k) := by
  obtain ⟨o, items, n, ho, hc, hd, hi⟩ := x
  unfold G.tupKeyC
  rw [if_pos (by simp [G.isTupObj, ho, hc])]
  show (match h.get? b with | some o => _ | none => _) = _
  simp only [tupKey, ho, hd]
  exact tupItems_of 0 hi
theorem first_tk {h : Heap} {k : Ints} {b : Addr} (x : TK prog w h k b) (hk : k ≠ []) : ∃ f, TupOf h sh0 (.ref b) f := by
  obtain ⟨o, items, n, ho, hc, hd, hi⟩ := x
  obtain ⟨xs⟩ := items
  cases hi with
  | nil => exact absurd rfl hk
  | cons h1 h2 =>
    rename_i k0 v ks vs
    obtain ⟨t, rfl⟩ := Value.isInt_shape h1
    exact ⟨_, b, o, _, n, rfl, ho, hc, hd, rfl, fun _ => ⟨_, t, rfl⟩, fun e => by cases e⟩
abbrev refs (es : List (Ints × Addr)) : List Value := es.map fun e => Value.ref e.2
theorem firsts_tk {h : Heap} : ∀ {es : List (Ints × Addr)}, (∀ e ∈ es, TK prog w h e.1 e.2 ∧ e.1 ≠ []) → ∃ fs, TupsOf h sh0 (refs es) fs
  | [], _ => ⟨[], .nil⟩
  | e :: es, hx => by
    obtain ⟨f, hf⟩ := first_tk (hx e (by simp)).1 (hx e (by simp)).2
    obtain ⟨fs, hfs⟩ := firsts_tk (es := es) fun q hq => hx q (by simp [hq])
    exact ⟨f :: fs, .cons hf hfs⟩
/-- sorted: the tuples, none behind a greater -/
theorem sorted_out {h : Heap} {es : List (Ints × Addr)} {arr : Array Keyed} (hx : ∀ e ∈ es, TK prog w h e.1 e.2) (hp : arr.Perm (pairsOf (refs es))) (hs : SortedToK (G.tupKindC h sh0) arr (pairsOf (refs es)).size) :
    ∃ out : List (Ints × Addr), out.Perm es ∧ arr.map (·.2) = (refs out).toArray ∧ out.Pairwise (fun a b => ltI b.1 a.1 = false) := by
  have hp' : arr.toList.Perm ((refs es).zip (refs es)) := by
    have := hp.toList
    rw [pairsOf_toList] at this
    exact this
  have ez : (refs es).zip (refs es) = es.map fun e => ((Value.ref e.2, Value.ref e.2) : Value × Value) := by
    rw [List.zip_map']
  rw [ez] at hp'
  obtain ⟨out, h1, h2⟩ := perm_map hp' es rfl
  refine ⟨out, h1, ?_, ?_⟩
  · apply Array.ext'
    rw [Array.toList_map, h2, List.map_map]
    rfl
  · rw [List.pairwise_iff_getElem]
    intro i j hi hj hij
    have hj' : j < (pairsOf (refs es)).size := by
      rw [pairsOf_size]
      simp only [refs, List.length_map]
      rw [← h1.length_eq]
      exact hj
    have := hs i j (Nat.le_of_lt hij) hj'
    have key : ∀ (m : Nat) (hm : m < out.length), KK (G.tupKindC h sh0) arr m = itms out[m].1 := fun m hm => by
      unfold KK
      rw [← Array.getElem?_toList, h2, List.getElem?_map, List.getElem?_eq_getElem hm]
      dsimp only [Option.map_some]
      show (G.tupKeyC h sh0 (.ref out[m].2)).getD [] = _
      rw [key_tk (hx _ (h1.mem_iff.mp (List.getElem_mem hm)))]
      rfl
    rw [key i hi, key j hj] at this
    exact this
theorem hint_set {S : Addr} {Q : Bool → Shared → Prop} (hT : s.TypeIs (.ref S) "set") (h : Q false s) : wpAny (model prog w) A (Builtin.List.listLengthHint (.ref S)) Q E s := by
  unfold Builtin.List.listLengthHint
  refine wpAny_bind (wpAny_specialOf hT PySem.F.slot_set_len.lookup ?_)
  generalize hid : ("set.__len__" : String) = id0
  wp_delta
  rw [show splitId id0 = some ("set", "__len__") from by subst hid; decide +kernel]
  subst hid
  refine wpAny_bind (wpAny_isInstance (T := "set") (b := true) hT sub_set_self ?_)
  refine wpAny_ite_split (fun q => absurd q (by decide)) (fun _ => wpAny_ite_split (fun _ => ?_) (fun q => absurd (by decide +kernel) q))
  exact wpAny_bind (wpAny_typeOf hT (wpAny_pure h))
theorem src {S : Addr} {o : Obj} {ep : Nat} {t : SetTable} {es ord : List (Ints × Addr)} (Z : Stands prog w S o ep t es ord) :
    PySem.W.KdlSrc prog w "set" S S es.length (fun i v => ∃ e, ord[i]? = some e ∧ v = Value.ref e.2) (fun h => h.get? S = some o) where
  type := fun _ hm => ⟨_, hm, Z.ex.1⟩
  there := fun _ hm => ⟨Heap.lt_size hm, Heap.lt_size hm⟩
  keep := fun _ _ hm hk => hk S (.inl rfl) _ hm
  notList := by decide
  notTuple := by decide
  hint := fun _ _ _ _ hm hq => hint_set ⟨_, hm, Z.ex.1⟩ hq
  iter := fun _ _ hh hm => ⟨_, _, (fun _ _ hq => iter_wp Z hm hq), walks hh (Nat.ne_of_lt (Heap.lt_size hm)) Z, ⟨Heap.get?_push_size _ rfl, Heap.get?_push_of_some _ hm⟩⟩
theorem items_ord {ord : List (Ints × Addr)} {acc : Array Value} (h : ItemsOf (fun i v => ∃ e, ord[i]? = some e ∧ v = Value.ref e.2) acc ord.length) : acc = (refs ord).toArray := by
  apply Array.ext'
  apply List.ext_getElem?
  intro i
  rw [Array.getElem?_toList]
  rcases Nat.lt_or_ge i acc.size with hi | hi
  · obtain ⟨e, h1, h2⟩ := h.2 i _ (Array.getElem?_eq_getElem hi)
    rw [Array.getElem?_eq_getElem hi, h2]
    simp [refs, h1]
  · rw [Array.getElem?_eq_none hi]
    show none = (refs ord)[i]?
    rw [List.getElem?_eq_none (by rw [List.length_map, ← h.1]; exact hi)]
theorem collect_set {S : Addr} {o : Obj} {ep : Nat} {t : SetTable} {es ord : List (Ints × Addr)} {Q : List Value → Shared → Prop} (hh : A.handled = none) (Z : Stands prog w S o ep t es ord) (gS : s.heap.get? S = some o) (hn : es.length ≤ 64)
    (h : ∀ h' tk, (∀ b u, s.heap.get? b = some u → h'.get? b = some u) → s.heap.objs.size < h'.objs.size → Q (refs ord) { s with heap := h', toks := tk }) : wpAny (model prog w) A (collect (.ref S)) Q E s := by
  unfold collect
  refine wpAny_bind (wpAny_runValue (codeAny_builtin PySem.F.entry_proto_collect ?_))
  rw [Around.under_plainId PySem.F.plain_proto_collect _]
  refine wpAny_bind (m := newList []) (wpAny_newObj_type ?_)
  refine wpAny_pure ⟨plainId_quiet PySem.F.plain_list_iadd _, codeAny_builtin PySem.F.entry_list_iadd ?_⟩
  rw [Around.under_plainId PySem.F.plain_list_iadd _]
  have hlt : S ≠ s.heap.objs.size := Nat.ne_of_lt (Heap.lt_size gS)
  have g1 : (s.heap.push { cls := .type "list", data := .seq ([] : List Value).toArray }).get? s.heap.objs.size = some { cls := .type "list", data := .seq #[] } := Heap.get?_push_size _ rfl
  show wpAny _ A.in1 (Builtin.List.listExtendWith (.ref s.heap.objs.size) (.ref S) (.ref s.heap.objs.size)) _ _ _
  refine PySem.W.kdl_extend (R := fun r s' => match r with | .ok (.ret v) => wpAny (model prog w) A (match v with | .ref a => (do match (← load a).data with | .seq xs _ => pure xs.toList | _ => unsupported "internal:collect") | _ => unsupported "internal:collect") Q E s' | .ok _ => False | .error e => E e s') (s := { s with heap := s.heap.push { cls := .type "list", data := .seq ([] : List Value).toArray } }) (src Z) hh (Heap.get?_push_of_some _ gS) s.heap.objs.size (Ne.symm hlt) (Ne.symm hlt) (.ref s.heap.objs.size) _ g1 (fun h' tk acc' c' hk hS' hacc => ?_) (by rw [sizeLine_eq]; omega)
  show wpAny _ _ (load s.heap.objs.size >>= _) _ _ _
  refine wpAny_bind (wpAny_load hS' (wpAny_pure ?_))
  rw [← Z.ord.1.length_eq] at hacc
  rw [items_ord hacc]
  exact h h' tk (fun b u e => hk b u (Nat.ne_of_lt (Heap.lt_size e)) (Heap.get?_push_of_some _ e)) (Heap.lt_size hS')
end
end Sb
end
section
set_option autoImplicit false
set_option linter.all false
set_option maxRecDepth 100000
namespace Sb
open PySem PySem.Spec PyProof.Rows SetTable
section
variable {prog : Program} {w : World} {A : Around} {E : Value → Shared → Prop} {s : Shared}
theorem seqObj_list {h : Heap} {l : List Value} {a : Addr} (e : a = h.objs.size) : (h.push (seqObj "list" l.toArray 0)).get? a = some (seqObj "list" l.toArray 0) := by subst e; exact Heap.get?_push_size _ rfl
/-- sorted(a set of tuples) -/
theorem sorted_set {S : Addr} {bs : List Addr} {ks : List Ints} {es : List (Ints × Addr)} {Q : Value → Shared → Prop} (hh : A.handled = none) (M : Met prog w s.heap S bs ks es) (hne : ∀ k ∈ ks, k ≠ []) (hn : es.length ≤ 64)
    (h : ∀ (h' : Heap) (tk : Nat) (D : Addr) (out : List (Ints × Addr)) (c : Nat), (∀ b u, s.heap.get? b = some u → h'.get? b = some u) → s.heap.objs.size ≤ D → h'.get? D = some (seqObj "list" (refs out).toArray c) → out.Perm es → out.Pairwise (fun a b => ltI b.1 a.1 = false) → Q (.ref D) { s with heap := h', toks := tk }) :
    wpAny (model prog w) A (call (.builtin "sorted") [.ref S]) Q E s := by
  obtain ⟨o, ep, t, ho, hex, hd, T, hled⟩ := M.at_
  obtain ⟨ord, hO⟩ := ord_any (prog := prog) (w := w) S ep es
  have Z : Stands prog w S o ep t es ord := ⟨hex, hd, T, hled, hO⟩
  refine Calls.call_function_entry kind_sorted plain_sorted entry_sorted (args_sorted1 _) ?_
  unfold Builtin.«sorted»
  refine wpAny_bind (m := checkCount "sorted" 1 1 _) (wpAny_pure (wpAny_bind (collect_set (A := A.in1) hh Z ho hn fun h1 tk k1 z1 => ?_)))
  refine wpAny_bind (wpAny_newList ?_ (by simp only [refs, List.length_map]; rw [hO.1.length_eq, sizeLine_eq]; omega))
  have gL : (h1.push (seqObj "list" (refs ord).toArray 0)).get? h1.objs.size = some (seqObj "list" (refs ord).toArray 0) := seqObj_list rfl
  have kp : ∀ b u, s.heap.get? b = some u → (h1.push (seqObj "list" (refs ord).toArray 0)).get? b = some u := fun b u e => Heap.get?_push_of_some _ (k1 b u e)
  have hk : ∀ e ∈ ord, TK prog w (h1.push (seqObj "list" (refs ord).toArray 0)) e.1 e.2 ∧ e.1 ≠ [] := fun e he => by
    have he' := hO.1.mem_iff.mp he
    exact ⟨(M.tk e he').2.same fun o => kp _ o, hne _ ((M.mem _).mp (List.mem_map.mpr ⟨e, he', rfl⟩))⟩
  obtain ⟨fs, hfs⟩ := firsts_tk hk
  refine wpAny_bind (wpAny_holding (wpAny_call_entry slot_list_sort ⟨_, gL, rfl⟩ entry_list_sort (G.list_sort_tups (shape := sh0) gL hfs (fun v hv => ?_) (by simp only [refs, List.length_map]; rw [hO.1.length_eq, sizeLine_eq]; omega) fun st' a1 a2 a3 => ⟨_, rfl, ?_⟩) (args_list_sort _)))
  · obtain ⟨e, he, rfl⟩ := List.mem_map.mp hv
    exact ⟨_, key_tk (hk e he).1⟩
  · obtain ⟨out, p1, p2, p3⟩ := sorted_out (fun e he => (hk e he).1) a1 a2
    rw [p2]
    obtain ⟨c, gc⟩ := sortedHeap_at (vs := refs ord) (out := (refs out).toArray) gL
    refine wpAny_pure ⟨_, rfl, h _ tk _ out c (fun b u e => ?_) ?_ gc (p1.trans hO.1) p3⟩
    · have hlt := Heap.lt_size (k1 b u e)
      rw [sortedHeap_old (Nat.ne_of_lt hlt) (Heap.lt_size (kp b u e))]
      exact kp b u e
    · exact Nat.le_of_lt z1
/-- sorted(a list of tuples) -/
theorem sorted_lst {l : Addr} {es : List (Ints × Addr)} {Q : Value → Shared → Prop} (hl : s.heap.IsList l (refs es).toArray) (hk : ∀ e ∈ es, TK prog w s.heap e.1 e.2 ∧ e.1 ≠ []) (hn : es.length ≤ 64)
    (h : ∀ (h' : Heap) (D : Addr) (out : List (Ints × Addr)) (c : Nat), (∀ b u, s.heap.get? b = some u → h'.get? b = some u) → s.heap.objs.size ≤ D → h'.get? D = some (seqObj "list" (refs out).toArray c) → out.Perm es → out.Pairwise (fun a b => ltI b.1 a.1 = false) → Q (.ref D) { s with heap := h' }) :
    wpAny (model prog w) A (call (.builtin "sorted") [.ref l]) Q E s := by
  obtain ⟨fs, hfs⟩ := firsts_tk hk
  refine G.sorted_tups (shape := sh0) hl hfs (fun v hv => ?_) (by simp only [refs, List.length_map]; rw [sizeLine_eq]; omega) fun st' a1 a2 a3 => ?_
  · obtain ⟨e, he, rfl⟩ := List.mem_map.mp hv
    exact ⟨_, key_tk (hk e he).1⟩
  · obtain ⟨out, p1, p2, p3⟩ := sorted_out (fun e he => (hk e he).1) a1 a2
    rw [p2]
    obtain ⟨c, gc⟩ := sortedAll_at s.heap (refs es) (refs out).toArray
    exact h _ _ out c (fun b u e => sortedAll_old e) (Nat.le_succ _) gc p1 p3
end
end Sb
end
section
set_option autoImplicit false
set_option Elab.async false
set_option linter.all false
set_option maxRecDepth 100000
namespace Pg
open PySem L2 PyProof.Rows

/-! ### tuples of letters -/
def nk (t : List Nat) : Sb.Ints := t.map fun (n : Nat) => (n : Int)
theorem nk_inj {s t : List Nat} (h : nk s = nk t) : s = t := (List.map_inj_right fun a b e => by omega).mp h
theorem vals_iv {prog : Program} {w : World} : ∀ {t : List Nat} {its : List Value}, Vals (iv t) its → PySem.ItemsAre (PySem.intKind prog w) (nk t) its
  | [], _, .nil => .nil
  | n :: t, _, .cons r q => by
    obtain ⟨k, rfl⟩ := r
    exact .cons (PySem.intKind_is _ _ _ _) (vals_iv q)
theorem ltI_before : ∀ {s t : List Nat}, s.length = t.length → Sb.ltI (nk s) (nk t) = Kv168.before s t
  | [], [], _ => rfl
  | [], _ :: _, h => by simp at h
  | _ :: _, [], h => by simp at h
  | a :: s, b :: t, h => by
    have ih := ltI_before (s := s) (t := t) (by simpa using h)
    unfold Sb.ltI at ih ⊢
    show lexLt itemOrd (Sum.inl (a : Int) :: _) (Sum.inl (b : Int) :: _) = _
    rw [lex_cons]
    show (decide ((a : Int) < (b : Int)) || (!decide ((b : Int) < (a : Int)) && lexLt itemOrd (Sb.itms (nk s)) (Sb.itms (nk t)))) = _
    rw [ih, Kv168.before]
    rcases Nat.lt_trichotomy a b with q | q | q
    · have e1 : decide ((a : Int) < (b : Int)) = true := decide_eq_true (by omega)
      have e2 : decide (a < b) = true := decide_eq_true q
      rw [e1, e2]
      rfl
    · subst q
      simp
    · have e1 : decide ((a : Int) < (b : Int)) = false := decide_eq_false (by omega)
      have e2 : decide (a < b) = false := decide_eq_false (by omega)
      have e3 : decide ((b : Int) < (a : Int)) = true := decide_eq_true (by omega)
      have e4 : (a == b) = false := by simp; omega
      rw [e1, e2, e3, e4]
      rfl
/-- a list of tuples, each with its text -/
abbrev rf (es : List (List Nat × Addr)) : List V := es.map fun e => V.ref e.2
def Tl (K : PySem.W.Frag) (H : Hp) (a : Addr) (es : List (List Nat × Addr)) : Prop := SqL K H a (rf es) ∧ ∀ e ∈ es, H e.2 = some (.tup (iv e.1))
theorem Tl.same {K : PySem.W.Frag} {H H' : Hp} {a : Addr} {es : List (List Nat × Addr)} (h : Tl K H a es) (e : Same H H') : Tl K H' a es := ⟨e.seq h.1, fun q hq => e _ _ (h.2 q hq)⟩
abbrev ik (es : List (List Nat × Addr)) : List (Sb.Ints × Addr) := es.map fun e => (nk e.1, e.2)
def SetO (P : Program) (w : World) (S : Addr) (es : List (List Nat × Addr)) : HO := .ext fun h => Sb.SetAt P w h S (ik es)
theorem vals_rf : ∀ {es : List (List Nat × Addr)} {its : List Value}, Vals (rf es) its → its = (es.map (·.2)).map Value.ref
  | [], _, .nil => rfl
  | e :: es, _, .cons r q => by
    have r' : _ = Value.ref e.2 := r
    rw [r', vals_rf q]
    rfl
theorem rf_vals : ∀ es : List (List Nat × Addr), Vals (rf es) ((es.map (·.2)).map Value.ref)
  | [] => .nil
  | _ :: es => .cons rfl (rf_vals es)
theorem sub_map {α β : Type} {g : α → β} {es : List α} : ∀ l0 : List β, (∀ e0 ∈ l0, ∃ e ∈ es, e0 = g e) → ∃ l : List α, (∀ e ∈ l, e ∈ es) ∧ l0 = l.map g
  | [], _ => ⟨[], fun e h => by simp at h, rfl⟩
  | e0 :: l0, h => by
    obtain ⟨e, he, rfl⟩ := h e0 (by simp)
    obtain ⟨l, h1, h2⟩ := sub_map l0 fun q hq => h q (by simp [hq])
    exact ⟨e :: l, fun q hq => by rcases List.mem_cons.mp hq with rfl | hq; exact he; exact h1 q hq, by rw [h2]; rfl⟩
theorem refs_ik (es : List (List Nat × Addr)) : Sb.refs (ik es) = (es.map (·.2)).map Value.ref := by
  simp [Sb.refs, ik]
section
variable {X : Cx} {pins : List (Addr × Obj)} {σ : L2.St} {H : Hp} {s : Shared}
theorem tk_of {b : Addr} {t : List Nat} (I : Inv X pins σ H s) (h : H b = some (.tup (iv t))) : Sb.TK X.prog X.w s.heap (nk t) b := by
  obtain ⟨its, r, ⟨o, ho, hc, n, hd⟩, _⟩ := I.tuple (SqT.of h)
  exact ⟨o, _, n, ho, hc, hd, vals_iv r⟩
theorem tk_any {P P' : Program} {w w' : World} {h : Heap} {k : Sb.Ints} {b : Addr} (x : Sb.TK P w h k b) : Sb.TK P' w' h k b := by
  obtain ⟨o, items, n, ho, hc, hd, hi⟩ := x
  refine ⟨o, items, n, ho, hc, hd, ?_⟩
  generalize items.toList = vs at hi
  induction hi with
  | nil => exact .nil
  | cons h1 _ ih => exact .cons h1 ih
theorem ik_mem {es : List (List Nat × Addr)} {t : List Nat} : nk t ∈ (ik es).map (·.1) ↔ t ∈ es.map (·.1) := by
  constructor
  · intro h
    obtain ⟨e, he, h1⟩ := List.mem_map.mp h
    obtain ⟨q, hq, rfl⟩ := List.mem_map.mp he
    exact List.mem_map.mpr ⟨q, hq, nk_inj h1⟩
  · intro h
    obtain ⟨q, hq, rfl⟩ := List.mem_map.mp h
    exact List.mem_map.mpr ⟨_, List.mem_map.mpr ⟨q, hq, rfl⟩, rfl⟩
theorem ik_nodup {es : List (List Nat × Addr)} : ((ik es).map (·.1)).Nodup ↔ (es.map (·.1)).Nodup := by
  have e : (ik es).map (·.1) = (es.map (·.1)).map nk := by simp [ik]
  rw [e]
  unfold List.Nodup
  rw [List.pairwise_map]
  constructor
  · exact fun h => h.imp fun q z => q (by rw [z])
  · exact fun h => h.imp fun q z => q (nk_inj z)
/-- set(..) -/
def rSetT (P : Program) (w : World) (K : PySem.W.Frag) : List V → Hp → VK → Prop := fun xs H Q => ∃ (a : Addr) (es : List (List Nat × Addr)), xs = [.ref a] ∧ Tl K H a es ∧ es.length ≤ 64 ∧
  ∀ S es', H S = none → (∀ e ∈ es', e ∈ es) → (es'.map (·.1)).Nodup → (∀ t, t ∈ es'.map (·.1) ↔ t ∈ es.map (·.1)) → Q (.ref S) (upd H S (SetO P w S es'))
theorem cr_setT (hc : X.calm = true) (hu : X.A.units + 8 < cLine) : CallR X (.type "set") (rSetT X.prog X.w X.K) := by
  intro pins s σ H xs us Q I r h
  obtain ⟨a, es, rfl, ⟨hl, ht⟩, h64, q⟩ := h
  rw [Vals.ref1 r]
  obtain ⟨its, rv, pl, _⟩ := I.list hl
  have ei := vals_rf rv
  subst ei
  have hT : Sb.Tks X.prog X.w s.heap (es.map fun e => nk e.1) (es.map (·.2)) := by
    refine ⟨by simp, fun j k b h1 h2 => ?_⟩
    rw [List.getElem?_map] at h1 h2
    cases e : es[j]? with
    | none => rw [e] at h1; cases h1
    | some e' =>
      rw [e] at h1 h2
      cases h1; cases h2
      exact tk_of I (ht e' (List.mem_of_getElem? e))
  refine Sb.call_set_tups (I.ok.hd hc) hu pl.isList hT (by simpa using h64) fun h' tk es0 M hk => ?_
  obtain ⟨es', h1, h2⟩ := sub_map (g := fun e : List Nat × Addr => (nk e.1, e.2)) (es := es) es0 fun e0 he0 => by
    obtain ⟨m1, m2⟩ := M.tk e0 he0
    obtain ⟨e, he, e1⟩ := List.mem_map.mp m1
    have x := tk_of I (ht e he)
    have x' : Sb.TK X.prog X.w h' (nk e.1) e.2 := x.same fun o eo => hk _ o (Heap.lt_size eo) eo
    rw [e1] at x'
    exact ⟨e, he, Prod.ext (m2.inj x') e1.symm⟩
  subst h2
  have hk' : ∀ b u, s.heap.get? b = some u → h'.get? b = some u := fun b u e => hk b u (Heap.lt_size e) e
  obtain ⟨o, ep, t, ho, rest⟩ := M.at_
  refine ⟨.ref _, upd H s.heap.objs.size (SetO X.prog X.w _ es'), I.laid (t' := tk) hk' (Nat.le_refl _) ⟨M.at_, ⟨o, ho⟩, fun h1 h2 x y => x.same y⟩, rfl, q _ es' (I.hok.fresh (Nat.le_refl _)) h1 (ik_nodup.mp M.nd) fun t => ?_⟩
  have e2 : (es.map fun e => nk e.1) = (ik es).map (·.1) := by simp [ik]
  rw [← ik_mem, ← ik_mem (es := es), ← e2]
  exact M.mem (nk t)
/-- sorted(a set) -/
def rSortT (P : Program) (w : World) : List V → Hp → VK → Prop := fun xs H Q => ∃ (S : Addr) (es : List (List Nat × Addr)) (n : Nat), xs = [.ref S] ∧ H S = some (SetO P w S es) ∧ (∀ e ∈ es, H e.2 = some (.tup (iv e.1)) ∧ e.1.length = n) ∧ 1 ≤ n ∧ es.length ≤ 64 ∧ (es.map (·.1)).Nodup ∧
  ∀ D out, H D = none → out.Perm es → out.Pairwise (fun a b => Kv168.before a.1 b.1 = true) → Q (.ref D) (upd H D (.lst (rf out)))
theorem out_ik {out : List (Sb.Ints × Addr)} {es : List (List Nat × Addr)} (h : out.Perm (ik es)) : ∃ o : List (List Nat × Addr), o.Perm es ∧ out = ik o := Sb.perm_map h es rfl
theorem ord_ik {o es : List (List Nat × Addr)} {n : Nat} (hp : o.Perm es) (hn : ∀ e ∈ es, e.1.length = n) (h : (ik o).Pairwise (fun a b => Sb.ltI b.1 a.1 = false)) : o.Pairwise (fun a b => Kv168.before b.1 a.1 = false) := by
  rw [List.pairwise_map] at h
  refine List.Pairwise.imp_of_mem ?_ h
  intro a b ha hb q
  rw [← ltI_before (by rw [hn _ (hp.mem_iff.mp ha), hn _ (hp.mem_iff.mp hb)])]
  exact q
theorem laid_list {D : Addr} {out : List (List Nat × Addr)} {h' : Heap} {tk c : Nat} (I : Inv X pins σ H s) (k : ∀ b u, s.heap.get? b = some u → h'.get? b = some u) (hp : s.heap.objs.size ≤ D) (g : h'.get? D = some (seqObj "list" (Sb.refs (ik out)).toArray c)) (hl : out.length ≤ 64) :
    Inv X pins σ (upd H D (.lst (rf out))) { s with heap := h', toks := tk } :=
  I.laid k hp ⟨by rw [List.length_map, sizeLine_eq]; omega, _, c, rf_vals out, by rw [g, refs_ik]⟩
theorem cr_sortT (hc : X.calm = true) : CallR X (.builtin "sorted") (rSortT X.prog X.w) := by
  intro pins s σ H xs us Q I r h
  obtain ⟨S, es, n, rfl, hS, ht, hn, h64, nd, q⟩ := h
  rw [Vals.ref1 r]
  obtain ⟨hat, _, _⟩ := I.hok S _ hS
  have M : Sb.Met X.prog X.w s.heap S (es.map (·.2)) ((ik es).map (·.1)) (ik es) := by
    refine ⟨hat, fun e he => ?_, ik_nodup.mpr nd, fun k => Iff.rfl⟩
    obtain ⟨e1, h1, rfl⟩ := List.mem_map.mp he
    exact ⟨List.mem_map.mpr ⟨e1, h1, rfl⟩, tk_of I (ht e1 h1).1⟩
  refine Sb.sorted_set (I.ok.hd hc) M (fun k hk => ?_) (by simpa using h64) fun h' tk D out c k hp g p1 p2 => ?_
  · obtain ⟨e, he, rfl⟩ := List.mem_map.mp hk
    obtain ⟨e1, h1, rfl⟩ := List.mem_map.mp he
    intro z
    have := (ht e1 h1).2
    have z2 : (nk e1.1).length = 0 := by show (nk e1.1).length = 0; rw [show nk e1.1 = [] from z]; rfl
    simp [nk] at z2
    rw [z2] at this
    simp at this
    omega
  · obtain ⟨o, h1, rfl⟩ := out_ik p1
    refine ⟨.ref D, _, laid_list I k hp g (by rw [h1.length_eq]; exact h64), rfl, q D o (I.hok.fresh hp) h1 ?_⟩
    have h2 := ord_ik h1 (fun e he => (ht e he).2) p2
    have nd2 : (o.map (·.1)).Nodup := (h1.map (·.1)).nodup_iff.mpr nd
    unfold List.Nodup at nd2
    rw [List.pairwise_map] at nd2
    refine List.Pairwise.imp_of_mem ?_ (h2.and nd2)
    intro a b ha hb hab
    rcases Tp.before_total a.1 b.1 (by rw [(ht _ (h1.mem_iff.mp ha)).2, (ht _ (h1.mem_iff.mp hb)).2]) hab.2 with z | z
    · exact z
    · rw [hab.1] at z; cases z
/-- sorted(a list) -/
def rSortL (K : PySem.W.Frag) : List V → Hp → VK → Prop := fun xs H Q => ∃ (a : Addr) (es : List (List Nat × Addr)) (n : Nat), xs = [.ref a] ∧ Tl K H a es ∧ (∀ e ∈ es, e.1.length = n) ∧ 1 ≤ n ∧ es.length ≤ 64 ∧
  ∀ D out, H D = none → out.Perm es → out.Pairwise (fun a b => Kv168.before b.1 a.1 = false) → Q (.ref D) (upd H D (.lst (rf out)))
theorem cr_sortL : CallR X (.builtin "sorted") (rSortL X.K) := by
  intro pins s σ H xs us Q I r h
  obtain ⟨a, es, n, rfl, ⟨hl, ht⟩, hn, h1n, h64, q⟩ := h
  rw [Vals.ref1 r]
  obtain ⟨its, rv, pl, _⟩ := I.list hl
  have ei := vals_rf rv
  rw [← refs_ik] at ei
  subst ei
  refine Sb.sorted_lst pl.isList (fun e he => ?_) (by simpa using h64) fun h' D out c k hp g p1 p2 => ?_
  · obtain ⟨e1, h1, rfl⟩ := List.mem_map.mp he
    refine ⟨tk_of I (ht e1 h1), fun z => ?_⟩
    have := hn e1 h1
    have z2 : (nk e1.1).length = 0 := by rw [show nk e1.1 = [] from z]; rfl
    simp [nk] at z2
    rw [z2] at this
    simp at this
    omega
  · obtain ⟨o, h1, rfl⟩ := out_ik p1
    exact ⟨.ref D, _, laid_list (tk := s.toks) I k hp g (by rw [h1.length_eq]; exact h64), rfl, q D o (I.hok.fresh hp) h1 (ord_ik h1 hn p2)⟩
end
end Pg
end
section
set_option autoImplicit false
set_option Elab.async false
set_option linter.all false
set_option maxRecDepth 100000
namespace Pg
open PySem L2 PyProof.Rows

/-! ### == of tuples of letters, of lists of such -/
abbrev dT (t : List Nat) : PyData := .tuple (t.map fun (n : Nat) => PyData.int (n : Int))
theorem dT_all {K : PySem.W.Frag} {H : Hp} : ∀ t : List Nat, DpAll K H (iv t) (t.map fun (n : Nat) => PyData.int (n : Int))
  | [] => .nil
  | n :: t => .cons (.int _) (dT_all t)
theorem dp_tup {K : PySem.W.Frag} {H : Hp} {b : Addr} {t : List Nat} (h : H b = some (.tup (iv t))) : Dp K H (.ref b) (dT t) := .tup (SqT.of h) (dT_all t)
theorem dp_lst {K : PySem.W.Frag} {H : Hp} {a : Addr} {es : List (List Nat × Addr)} (h : Tl K H a es) : Dp K H (.ref a) (.list (es.map fun e => dT e.1)) := by
  refine .lst h.1 ?_
  have h2 := h.2
  clear h
  induction es with
  | nil => exact .nil
  | cons e es ih => exact .cons (dp_tup (h2 e (by simp))) (ih fun q hq => h2 q (by simp [hq]))
theorem eqv_ints : ∀ s t : List Nat, PyData.eqvAll (s.map fun (n : Nat) => PyData.int (n : Int)) (t.map fun (n : Nat) => PyData.int (n : Int)) = decide (s = t)
  | [], [] => by simp [PyData.eqvAll]
  | [], _ :: _ => by simp [PyData.eqvAll]
  | _ :: _, [] => by simp [PyData.eqvAll]
  | a :: s, b :: t => by
    rw [List.map_cons, List.map_cons, PyData.eqvAll, eqv_ints s t, PyData.eqv]
    by_cases h : a = b
    · subst h
      by_cases h2 : s = t
      · simp [h2]
      · simp [h2]
    · have : ((a : Int) == (b : Int)) = false := by
        rw [beq_eq_false_iff_ne]
        omega
      rw [this]
      simp [h]
theorem eqv_dT (s t : List Nat) : PyData.eqv (dT s) (dT t) = decide (s = t) := by
  rw [PyData.eqv]; exact eqv_ints s t
theorem eqv_dTs : ∀ ss ts : List (List Nat), PyData.eqvAll (ss.map dT) (ts.map dT) = decide (ss = ts)
  | [], [] => by simp [PyData.eqvAll]
  | [], _ :: _ => by simp [PyData.eqvAll]
  | _ :: _, [] => by simp [PyData.eqvAll]
  | a :: s, b :: t => by
    rw [List.map_cons, List.map_cons, PyData.eqvAll, eqv_dTs s t, eqv_dT]
    by_cases h : a = b
    · subst h
      by_cases h2 : s = t
      · simp [h2]
      · simp [h2]
    · simp [h]
theorem lay_ints : ∀ t : List Nat, PyData.canLayAll0 (t.map fun (n : Nat) => PyData.int (n : Int)) = true ∧ PyData.depthAll (t.map fun (n : Nat) => PyData.int (n : Int)) = 0
  | [] => ⟨rfl, rfl⟩
  | a :: t => by
    obtain ⟨h1, h2⟩ := lay_ints t
    rw [List.map_cons, PyData.canLayAll0, PyData.depthAll, h1, h2]
    exact ⟨rfl, rfl⟩
theorem lay_dT (t : List Nat) : (dT t).canLay0 = true ∧ (dT t).depth = 1 := by
  obtain ⟨h1, h2⟩ := lay_ints t
  rw [PyData.canLay0, PyData.depth, h1, h2]
  exact ⟨rfl, rfl⟩
theorem lay_dTs : ∀ ts : List (List Nat), PyData.canLayAll0 (ts.map dT) = true ∧ PyData.depthAll (ts.map dT) ≤ 1
  | [] => ⟨rfl, by rw [List.map_nil, PyData.depthAll]; omega⟩
  | t :: ts => by
    obtain ⟨h1, h2⟩ := lay_dTs ts
    obtain ⟨h3, h4⟩ := lay_dT t
    rw [List.map_cons, PyData.canLayAll0, PyData.depthAll, h1, h3, h4]
    exact ⟨rfl, by omega⟩
theorem shaped_dT (t : List Nat) : SeqAt.shaped (dT t) = true := by
  obtain ⟨h1, h2⟩ := lay_dT t
  unfold SeqAt.shaped
  rw [h1, h2]
  rfl
theorem shaped_dTs (ts : List (List Nat)) : SeqAt.shaped (.list (ts.map dT)) = true := by
  obtain ⟨h1, h2⟩ := lay_dTs ts
  unfold SeqAt.shaped
  rw [PyData.canLay0, PyData.depth, h1]
  simp only [Bool.true_and, decide_eq_true_eq]
  omega
section
variable {X : Cx}
/-- a point == a point -/
def rEqT : R2 := fun x y H Q => ∃ (a b : Addr) (s t : List Nat), x = .ref a ∧ y = .ref b ∧ H a = some (.tup (iv s)) ∧ H b = some (.tup (iv t)) ∧ Q (.bl (decide (s = t))) H
theorem op_eqT (hu : X.A.units + 64 < cLine) : OpR X (compareOp .Eq) rEqT := by
  intro pins s σ H x y v u Q I rx ry h
  obtain ⟨a, b, t1, t2, rfl, rfl, h1, h2, q⟩ := h
  refine op_eqD hu pins s σ H _ _ v u Q I rx ry ⟨_, _, dp_tup h1, dp_tup h2, shaped_dT t1, shaped_dT t2, ?_⟩
  rw [eqv_dT]
  exact q
/-- a list of points == a list of points -/
def rEqL (K : PySem.W.Frag) : R2 := fun x y H Q => ∃ (a b : Addr) (es es' : List (List Nat × Addr)), x = .ref a ∧ y = .ref b ∧ Tl K H a es ∧ Tl K H b es' ∧ Q (.bl (decide (es.map (·.1) = es'.map (·.1)))) H
theorem op_eqL (hu : X.A.units + 64 < cLine) : OpR X (compareOp .Eq) (rEqL X.K) := by
  intro pins s σ H x y v u Q I rx ry h
  obtain ⟨a, b, es, es', rfl, rfl, h1, h2, q⟩ := h
  have e1 : ∀ es : List (List Nat × Addr), (es.map fun e => dT e.1) = (es.map (·.1)).map dT := fun es => by rw [List.map_map]; rfl
  refine op_eqD hu pins s σ H _ _ v u Q I rx ry ⟨_, _, dp_lst h1, dp_lst h2, by rw [e1]; exact shaped_dTs _, by rw [e1]; exact shaped_dTs _, ?_⟩
  rw [PyData.eqv, e1, e1, eqv_dTs]
  exact q
open Classical in
/-- is it the tuple k? -/
noncomputable def isK (P : Program) (w : World) (h : Heap) (k : Sb.Ints) : Value → Bool := fun v => decide (∃ b, v = .ref b ∧ Sb.TK P w h k b)
open Classical in
theorem isK_at {P : Program} {w : World} {h : Heap} {k k' : Sb.Ints} {b : Addr} (x : Sb.TK P w h k' b) : isK P w h k (.ref b) = decide (k' = k) := by
  unfold isK
  by_cases e : k' = k
  · subst e
    rw [decide_eq_true rfl]
    exact decide_eq_true ⟨b, rfl, x⟩
  · rw [decide_eq_false e]
    refine decide_eq_false ?_
    rintro ⟨b', e1, x'⟩
    cases e1
    exact e (x.inj x')
theorem eq_at {A : Around} {s : Shared} {P : Program} {w : World} {k k' : Sb.Ints} {b b' : Addr} (hu : A.units < cLine) (x : Sb.TK P w s.heap k b) (x' : Sb.TK P w s.heap k' b') : SeqAt.EqAt A s (.ref b') (.ref b) (isK P w s.heap k (.ref b')) := by
  intro prog w' E Q hq
  rw [isK_at x'] at hq
  exact wpAny_eqBool_tuple hu (tk_any x' : Sb.TK prog w' s.heap k' b') (tk_any x : Sb.TK prog w' s.heap k b) hq
/-- points.count(point) -/
def rCountT (K : PySem.W.Frag) : V → List V → Hp → VK → Prop := fun x xs H Q => ∃ (a b : Addr) (es : List (List Nat × Addr)) (t : List Nat), x = .ref a ∧ xs = [.ref b] ∧ Tl K H a es ∧ H b = some (.tup (iv t)) ∧ Q (.int ((es.countP fun e => e.1 == t : Nat) : Int)) H
theorem mt_countT (hu : X.A.units + 4 < cLine) : MtR X "list.count" (rCountT X.K) := by
  intro pins s σ H x xs v us Q I rx rxs h
  obtain ⟨a, b, es, t, rfl, rfl, ⟨hl, ht⟩, hb, q⟩ := h
  cases rx
  rw [Vals.ref1 rxs]
  obtain ⟨its, rv, ⟨⟨cls, dd, data, sl⟩, n, ho, hc, hdn, hd⟩, hlen⟩ := I.list hl
  simp only at hc hd
  subst hc hd
  have ei := vals_rf rv
  subst ei
  have xb := tk_of I hb
  refine call_meets PySem.F.slot_list_count ⟨_, ho, rfl⟩ PySem.F.entry_list_count (PySem.F.args_list_count_2 _ _)
    (SeqAt.list_countAt a _ n dd sl (.ref b) (isK X.prog X.w s.heap (nk t))) ⟨ho, fun y hy => ?_, ?_⟩
  · have hy' : y ∈ (es.map (·.2)).map Value.ref := Array.mem_toList_iff.mpr hy
    obtain ⟨b', hb', rfl⟩ := List.mem_map.mp hy'
    obtain ⟨e, he, rfl⟩ := List.mem_map.mp hb'
    exact eq_at (by show X.A.units + 1 < cLine; omega) xb (tk_of I (ht e he))
  · refine ⟨.int _, H, I.tok _, ⟨_, rfl⟩, ?_⟩
    have ec : (List.countP (isK X.prog X.w s.heap (nk t)) ((es.map (·.2)).map Value.ref).toArray.toList) = es.countP fun e => e.1 == t := by
      rw [List.map_map, show ((es.map (Value.ref ∘ fun x => x.2)).toArray.toList) = es.map (Value.ref ∘ fun x => x.2) by simp, List.countP_map]
      refine List.countP_congr fun e he => ?_
      show isK X.prog X.w s.heap (nk t) (.ref e.2) = true ↔ _
      rw [isK_at (tk_of I (ht e he)), decide_eq_true_eq, beq_iff_eq]
      exact ⟨nk_inj, fun z => by rw [z]⟩
    rw [ec]
    exact q
/-- pieces.index(piece) -/
def rIndexT (K : PySem.W.Frag) : V → List V → Hp → VK → Prop := fun x xs H Q => ∃ (a b : Addr) (es : List (List Nat × Addr)) (t : List Nat) (j : Nat) (e : List Nat × Addr), x = .ref a ∧ xs = [.ref b] ∧ Tl K H a es ∧ H b = some (.tup (iv t)) ∧ es[j]? = some e ∧ e.1 = t ∧
  (∀ (m : Nat) e', m < j → es[m]? = some e' → e'.1 ≠ t) ∧ Q (.int (j : Nat)) H
theorem mt_indexT (hu : X.A.units + 4 < cLine) : MtR X "list.index" (rIndexT X.K) := by
  intro pins s σ H x xs v us Q I rx rxs h
  obtain ⟨a, b, es, t, j, e, rfl, rfl, ⟨hl, ht⟩, hb, hj, hje, hno, q⟩ := h
  cases rx
  rw [Vals.ref1 rxs]
  obtain ⟨its, rv, ⟨⟨cls, dd, data, sl⟩, n, ho, hc, hdn, hd⟩, hlen⟩ := I.list hl
  simp only at hc hd
  subst hc hd
  have ei := vals_rf rv
  subst ei
  have xb := tk_of I hb
  have hjl := (List.getElem?_eq_some_iff.mp hj).1
  have hsl := sizeLine_eq
  rw [List.length_map] at hlen
  have at_ : ∀ (m : Nat) (hm : m < ((es.map (·.2)).map Value.ref).toArray.size) (e' : List Nat × Addr), es[m]? = some e' → ((es.map (·.2)).map Value.ref).toArray[m] = .ref e'.2 := fun m hm e' he' => by
    obtain ⟨h1, h2⟩ := List.getElem?_eq_some_iff.mp he'
    simp [h2]
  refine call_meets PySem.F.slot_list_index ⟨_, ho, rfl⟩ PySem.F.entry_list_index (PySem.F.args_list_index_2 _ _)
    (SeqAt.list_indexAt a _ n dd sl (.ref b) (isK X.prog X.w s.heap (nk t)) j (by simpa using hjl) (by omega) ?_ ?_) ⟨ho, fun y hy => ?_, ?_⟩
  · rw [at_ j _ e hj, isK_at (tk_of I (ht e (List.mem_of_getElem? hj))), hje]
    exact decide_eq_true rfl
  · intro m hm hmj
    have hml : m < es.length := by simpa using hm
    have he' := List.getElem?_eq_getElem hml
    rw [at_ m hm _ he', isK_at (tk_of I (ht _ (List.getElem_mem hml)))]
    exact decide_eq_false fun z => hno m _ hmj he' (nk_inj z)
  · have hy' : y ∈ (es.map (·.2)).map Value.ref := Array.mem_toList_iff.mpr hy
    obtain ⟨b', hb', rfl⟩ := List.mem_map.mp hy'
    obtain ⟨e1, he1, rfl⟩ := List.mem_map.mp hb'
    exact eq_at (by show X.A.units + 1 < cLine; omega) xb (tk_of I (ht e1 he1))
  · exact ⟨.int _, H, I.tok _, ⟨_, rfl⟩, q⟩
end
end Pg
end
section
set_option autoImplicit false
namespace Tp
open Kv168 (Text ways from_ many begins before sorted wayOf textOf)

/-! ### how many ways begin at a point -/
/-- pieces of one length, over four letters -/
structure Gd (k : Nat) (ps : List Text) : Prop where
  two : 2 ≤ k
  len : ∀ p ∈ ps, p.length = k
  let_ : ∀ p ∈ ps, ∀ a ∈ p, a < 4
theorem Gd.erase {k : Nat} {ps : List Text} (g : Gd k ps) (p : Text) : Gd k (ps.erase p) := ⟨g.two, fun q hq => g.len q (List.mem_of_mem_erase hq), fun q hq => g.let_ q (List.mem_of_mem_erase hq)⟩
def nb (ps : List Text) (v : Text) : Nat := ps.countP fun p => bg p == v
def ne (ps : List Text) (v : Text) : Nat := ps.countP fun p => fi p == v
def Even (ps : List Text) : Prop := ∀ v, nb ps v = ne ps v
theorem nb_out {ps : List Text} {v : Text} (hv : v ∈ pts [] ps) : out (np ps) (tab (ix ps) ps) (ix ps v) = nb ps v := by
  rw [out_tab (fun p hp => ix_lt (fi_in hp))]
  refine List.countP_congr fun p hp => ?_
  simp only [beq_iff_eq]
  exact ⟨fun e => ix_inj (bg_in hp) hv e, fun e => by rw [e]⟩
theorem ne_inn {ps : List Text} {v : Text} (hv : v ∈ pts [] ps) : inn (np ps) (tab (ix ps) ps) (ix ps v) = ne ps v := by
  rw [inn_tab (fun p hp => ix_lt (bg_in hp))]
  refine List.countP_congr fun p hp => ?_
  simp only [beq_iff_eq]
  exact ⟨fun e => ix_inj (fi_in hp) hv e, fun e => by rw [e]⟩
theorem pt_of {ps : List Text} {x : Nat} (hx : x < np ps) : ∃ v, v ∈ pts [] ps ∧ ix ps v = x := by
  refine ⟨(pts [] ps)[x]'hx, List.getElem_mem hx, ?_⟩
  unfold ix
  exact (nodup_pts List.nodup_nil).idxOf_getElem x hx
theorem not_pt {ps : List Text} {v : Text} (hv : v ∉ pts [] ps) : nb ps v = 0 ∧ ne ps v = 0 := by
  constructor
  · refine List.countP_eq_zero.mpr fun p hp => ?_
    simp only [beq_iff_eq]
    intro e; exact hv (e ▸ bg_in hp)
  · refine List.countP_eq_zero.mpr fun p hp => ?_
    simp only [beq_iff_eq]
    intro e; exact hv (e ▸ fi_in hp)
theorem ways_none {ps : List Text} {v : Text} {f : Nat} (h : ∀ p ∈ ps, bg p ≠ v) : ways (f + 1) ps v = 0 := by
  rw [ways, sum_range]
  refine sn_zero fun a _ => ?_
  rw [if_neg]
  intro hc
  exact h _ (List.contains_iff_mem.mp hc) (bg_snoc v a)
/-- what the program reckons -/
def cfrom (ps : List Text) (v : Text) (ev : Bool) : Nat := if ev then many ps * nb ps v / ps.length else if nb ps v > ne ps v then many ps else 0
theorem cfrom_even {k : Nat} {ps : List Text} (g : Gd k ps) (h0 : ps ≠ []) (he : Even ps) (v : Text) : many ps * nb ps v / ps.length = ways ps.length ps v := by
  have hn : 0 < ps.length := List.length_pos_iff.mpr h0
  by_cases hv : v ∈ pts [] ps
  · have hx := ix_lt hv
    have hev : ∀ x, x < np ps → out (np ps) (tab (ix ps) ps) x = inn (np ps) (tab (ix ps) ps) x := fun x hx => by
      obtain ⟨u, hu, rfl⟩ := pt_of hx
      rw [nb_out hu, ne_inn hu]; exact he u
    have hp : ∀ x, x < np ps → 0 < out (np ps) (tab (ix ps) ps) x := fun x hx => by
      have := touched hx
      rw [← hev x hx] at this
      omega
    have w1 := ways_eq (numd g.two g.len) ps.length ps v (pcs g.len g.let_) hv
    have w2 := many_ps g.two h0 g.len g.let_
    have t := tot_ps ps
    have key : wy (np ps) (tot (np ps) (tab (ix ps) ps)) (tab (ix ps) ps) (ix ps v) * ps.length = nb ps v * many ps := by
      have hsw := swp_pos (np ps) (tab (ix ps) ps)
      have a1 := ways_even_at hx hp hev
      have a2 : ((many ps * swp (np ps) (tab (ix ps) ps) : Nat) : Int) = ((ps.length : Nat) : Int) * rounds (np ps) (tab (ix ps) ps) := by
        rw [w2]
        have : ∀ x, x < np ps → ((wy (np ps) (tot (np ps) (tab (ix ps) ps)) (tab (ix ps) ps) x * swp (np ps) (tab (ix ps) ps) : Nat) : Int) = (out (np ps) (tab (ix ps) ps) x : Int) * rounds (np ps) (tab (ix ps) ps) := fun x hx => ways_even_at hx hp hev
        rw [Nat.mul_comm, ← sn_mul, sn_cast]
        have e2 : ((ps.length : Nat) : Int) = sm (np ps) (fun x => (out (np ps) (tab (ix ps) ps) x : Int)) := by rw [← t, ← sn_cast]; rfl
        rw [e2, Int.mul_comm, ← sm_mul]
        refine sm_congr fun x hx => ?_
        rw [Nat.mul_comm, this x hx, Int.mul_comm]
      rw [nb_out hv] at a1
      have a3 : ((wy (np ps) (tot (np ps) (tab (ix ps) ps)) (tab (ix ps) ps) (ix ps v) * ps.length * swp (np ps) (tab (ix ps) ps) : Nat) : Int) = ((nb ps v * many ps * swp (np ps) (tab (ix ps) ps) : Nat) : Int) := by
        rw [show wy (np ps) (tot (np ps) (tab (ix ps) ps)) (tab (ix ps) ps) (ix ps v) * ps.length * swp (np ps) (tab (ix ps) ps) = ps.length * (wy (np ps) (tot (np ps) (tab (ix ps) ps)) (tab (ix ps) ps) (ix ps v) * swp (np ps) (tab (ix ps) ps)) by rw [Nat.mul_comm (wy _ _ _ _), Nat.mul_assoc],
          show nb ps v * many ps * swp (np ps) (tab (ix ps) ps) = nb ps v * (many ps * swp (np ps) (tab (ix ps) ps)) by rw [Nat.mul_assoc], Int.natCast_mul, a1, Int.natCast_mul, a2]
        grind
      exact Nat.eq_of_mul_eq_mul_right hsw (by omega)
    rw [t] at key
    rw [w1, Nat.mul_comm, ← key, Nat.mul_div_cancel _ hn]
  · rw [(not_pt hv).1, Nat.mul_zero, Nat.zero_div]
    obtain ⟨f, hf⟩ : ∃ f, ps.length = f + 1 := ⟨ps.length - 1, by omega⟩
    rw [hf, ways_none (v := v) fun p hp e => hv (e ▸ bg_in hp)]
theorem bal_of_ways {k : Nat} {ps : List Text} (g : Gd k ps) {v : Text} (hv : v ∈ pts [] ps) (hw : ways ps.length ps v ≠ 0) : ∃ u, u ∈ pts [] ps ∧ ∀ y, y ∈ pts [] ps → nb ps y + (if y = u then 1 else 0) = ne ps y + (if y = v then 1 else 0) := by
  rw [ways_eq (numd g.two g.len) ps.length ps v (pcs g.len g.let_) hv] at hw
  obtain ⟨u, hu, hb⟩ := wy_bal (np ps) ps.length (tab (ix ps) ps) (ix ps v) (ix_lt hv) (tot_ps ps) hw
  obtain ⟨u', hu', rfl⟩ := pt_of hu
  refine ⟨u', hu', fun y hy => ?_⟩
  have := hb (ix ps y) (ix_lt hy)
  rw [nb_out hy, ne_inn hy] at this
  have e1 : (ix ps y = ix ps u') ↔ y = u' := ⟨fun e => ix_inj hy hu' e, fun e => by rw [e]⟩
  have e2 : (ix ps y = ix ps v) ↔ y = v := ⟨fun e => ix_inj hy hv e, fun e => by rw [e]⟩
  simp only [e1, e2] at this
  exact this
theorem cfrom_odd {k : Nat} {ps : List Text} (g : Gd k ps) (h0 : ps ≠ []) (he : ¬ Even ps) (v : Text) : (if nb ps v > ne ps v then many ps else 0) = ways ps.length ps v := by
  have hn : 0 < ps.length := List.length_pos_iff.mpr h0
  obtain ⟨f, hf⟩ : ∃ f, ps.length = f + 1 := ⟨ps.length - 1, by omega⟩
  have out_of : ∀ y, y ∉ pts [] ps → ways ps.length ps y = 0 := fun y hy => by rw [hf, ways_none (v := y) fun p hp e => hy (e ▸ bg_in hp)]
  -- where a way begins one more begins than ends; elsewhere not
  have one : ∀ x, x ∈ pts [] ps → ways ps.length ps x ≠ 0 → nb ps x = ne ps x + 1 ∧ ∀ y, y ∈ pts [] ps → y ≠ x → nb ps y ≤ ne ps y := fun x hx hw => by
    obtain ⟨u, hu, hb⟩ := bal_of_ways g hx hw
    have hux : x ≠ u := fun e => by
      subst e
      apply he
      intro y
      by_cases hy : y ∈ pts [] ps
      · have := hb y hy; omega
      · rw [(not_pt hy).1, (not_pt hy).2]
    refine ⟨?_, fun y hy hyx => ?_⟩
    · have := hb x hx
      rw [if_neg hux, if_pos rfl] at this
      omega
    · have := hb y hy
      rw [if_neg hyx] at this
      omega
  have hmany : many ps = sn (np ps) (fun x => wy (np ps) ps.length (tab (ix ps) ps) x) := by
    rw [many_ps g.two h0 g.len g.let_, tot_ps ps]
  have wyw : ∀ y, y ∈ pts [] ps → wy (np ps) ps.length (tab (ix ps) ps) (ix ps y) = ways ps.length ps y := fun y hy => (ways_eq (numd g.two g.len) ps.length ps y (pcs g.len g.let_) hy).symm
  split
  · rename_i hgt
    have hv : v ∈ pts [] ps := Classical.byContradiction fun h => by rw [(not_pt h).1, (not_pt h).2] at hgt; omega
    rw [hmany, sn_one (k := ix ps v) (ix_lt hv)]
    · exact wyw v hv
    · intro x hx hne
      obtain ⟨y, hy, rfl⟩ := pt_of hx
      rw [wyw y hy]
      refine Classical.byContradiction fun hw => ?_
      have := (one y hy hw).2 v hv (fun e => hne (by rw [e]))
      omega
  · rename_i hle
    symm
    refine Classical.byContradiction fun hw => ?_
    have hv : v ∈ pts [] ps := Classical.byContradiction fun h => hw (out_of v h)
    have := (one v hv hw).1
    omega
theorem cfrom_eq {k : Nat} {ps : List Text} (g : Gd k ps) (h0 : ps ≠ []) (v : Text) (ev : Bool) (he : ev = true ↔ Even ps) : cfrom ps v ev = ways ps.length ps v := by
  unfold cfrom
  cases ev with
  | true => exact cfrom_even g h0 (he.mp rfl) v
  | false => exact cfrom_odd g h0 (fun h => by have := he.mpr h; cases this) v

/-! ### how great they are -/
theorem sn_le_mul {f : Nat → Nat} {c : Nat} : ∀ n, (∀ i, i < n → f i ≤ c) → sn n f ≤ n * c
  | 0, _ => by simp [sn]
  | n + 1, h => by
    have ih := sn_le_mul n fun i hi => h i (by omega)
    have := h n (by omega)
    rw [sn, Nat.succ_mul]
    omega
theorem ways_le : ∀ (f : Nat) (ps : List Text) (v : Text), ways f ps v ≤ 4 ^ f
  | 0, _, _ => by simp [ways]
  | f + 1, ps, v => by
    rw [ways, sum_range]
    refine Nat.le_trans (sn_le_mul (c := 4 ^ f) 4 fun a _ => ?_) (by rw [Nat.pow_succ]; omega)
    split
    · exact ways_le f _ _
    · exact Nat.zero_le _
theorem sum_le {c : Nat} : ∀ {l : List Nat}, (∀ x ∈ l, x ≤ c) → Kv168.sum l ≤ l.length * c
  | [], _ => by simp [sum_nil]
  | x :: l, h => by
    have ih := sum_le (c := c) (l := l) fun y hy => h y (by simp [hy])
    have := h x (by simp)
    rw [sum_cons, List.length_cons, Nat.succ_mul]
    omega
end Tp
end
section
set_option autoImplicit false
namespace Tp
open Kv168 (Text ways from_ many begins before sorted wayOf textOf)

theorem srt_unique : ∀ {l r : List Text}, Srt l → Srt r → (∀ y, y ∈ l ↔ y ∈ r) → l = r
  | [], [], _, _, _ => rfl
  | [], b :: r, _, _, h => by have := (h b).mpr (by simp); simp at this
  | a :: l, [], _, _, h => by have := (h a).mp (by simp); simp at this
  | a :: l, b :: r, hl, hr, h => by
    have hl' := hl; have hr' := hr
    unfold Srt at hl' hr'
    rw [List.pairwise_cons] at hl' hr'
    have e : a = b := Classical.byContradiction fun hne => by
      have h1 : a ∈ r := by rcases List.mem_cons.mp ((h a).mp (by simp)) with q | q; exact absurd q hne; exact q
      have h2 : b ∈ l := by rcases List.mem_cons.mp ((h b).mpr (by simp)) with q | q; exact absurd q.symm hne; exact q
      have := before_trans _ _ _ (hl'.1 b h2) (hr'.1 a h1)
      rw [before_irrefl] at this
      cases this
    subst e
    have nl := (List.nodup_cons.mp hl.nodup).1
    have nr := (List.nodup_cons.mp hr.nodup).1
    rw [srt_unique (l := l) (r := r) hl'.2 hr'.2 fun y => ?_]
    constructor
    · intro hy
      rcases List.mem_cons.mp ((h y).mp (by simp [hy])) with q | q
      · exact absurd (q ▸ hy) nl
      · exact q
    · intro hy
      rcases List.mem_cons.mp ((h y).mpr (by simp [hy])) with q | q
      · exact absurd (q ▸ hy) nr
      · exact q

/-! ### picked by a number -/
section
variable {α : Type}
def pickL (c : α → Nat) : List α → Nat → Option (α × Nat)
  | [], _ => none
  | a :: L, n => if n < c a then some (a, n) else pickL c L (n - c a)
theorem fold_done (c : α → Nat) (d : α → Bool) (F : α → Nat → Text) (t : Text) (m : Nat) : ∀ L : List α, L.foldl (fun (x : Option Text × Nat) a => match x.1 with
    | some _ => x
    | none => if d a then (if x.2 < c a then (some (F a x.2), 0) else (none, x.2 - c a)) else x) (some t, m) = (some t, m)
  | [] => rfl
  | a :: L => by rw [List.foldl_cons]; exact fold_done c d F t m L
theorem fold_pick (c : α → Nat) (d : α → Bool) (F : α → Nat → Text) : ∀ (L : List α) (n : Nat), (L.foldl (fun (x : Option Text × Nat) a => match x.1 with
    | some _ => x
    | none => if d a then (if x.2 < c a then (some (F a x.2), 0) else (none, x.2 - c a)) else x) (none, n)).1 = (pickL c (L.filter d) n).map fun q => F q.1 q.2
  | [], n => rfl
  | a :: L, n => by
    rw [List.foldl_cons]
    dsimp only
    by_cases hd : d a = true
    · rw [if_pos hd, List.filter_cons_of_pos hd, pickL]
      by_cases hn : n < c a
      · rw [if_pos hn, if_pos hn, fold_done]
        rfl
      · rw [if_neg hn, if_neg hn]
        exact fold_pick c d F L (n - c a)
    · rw [if_neg hd, List.filter_cons_of_neg hd]
      exact fold_pick c d F L n
theorem pick_none (c : α → Nat) : ∀ (L : List α) (n : Nat), Kv168.sum (L.map c) ≤ n → pickL c L n = none
  | [], _, _ => rfl
  | a :: L, n, h => by
    rw [List.map_cons, sum_cons] at h
    rw [pickL, if_neg (by omega)]
    exact pick_none c L (n - c a) (by omega)
theorem pick_at (c : α → Nat) : ∀ (L : List α) (n g : Nat) (a : α), L[g]? = some a → Kv168.sum ((L.take g).map c) ≤ n → n < Kv168.sum ((L.take g).map c) + c a → pickL c L n = some (a, n - Kv168.sum ((L.take g).map c))
  | [], _, g, a, h, _, _ => by simp at h
  | b :: L, n, 0, a, h, h1, h2 => by
    simp only [List.getElem?_cons_zero, Option.some.injEq] at h
    subst h
    simp only [List.take_zero, List.map_nil, sum_nil, Nat.zero_add, Nat.sub_zero] at h2 ⊢
    rw [pickL, if_pos h2]
  | b :: L, n, g + 1, a, h, h1, h2 => by
    simp only [List.getElem?_cons_succ] at h
    rw [List.take_succ_cons, List.map_cons, sum_cons] at h1 h2 ⊢
    rw [pickL, if_neg (by omega), pick_at c L (n - c b) g a h (by omega) (by omega), Nat.sub_sub]
end
theorem sum_filter (d : Nat → Bool) (c : Nat → Nat) : ∀ L : List Nat, Kv168.sum (L.map fun a => if d a then c a else 0) = Kv168.sum ((L.filter d).map c)
  | [] => rfl
  | a :: L => by
    rw [List.map_cons, sum_cons, sum_filter d c L]
    by_cases h : d a = true
    · rw [if_pos h, List.filter_cons_of_pos h, List.map_cons, sum_cons]
    · rw [if_neg h, List.filter_cons_of_neg h]; omega

/-! ### the letter behind a point -/
def nxt (ps : List Text) (v : Text) : List Nat := (List.range 4).filter fun a => ps.contains (v ++ [a])
def cnt (f : Nat) (ps : List Text) (p : Text) : Nat := ways f (ps.erase p) (fi p)
def la (p : Text) : Nat := p.getLastD 0
theorem la_snoc (v : Text) (a : Nat) : la (v ++ [a]) = a := by simp [la]
theorem wayOf_pick (f : Nat) (ps : List Text) (v : Text) (n : Nat) :
    wayOf (f + 1) ps v n = ((pickL (fun a => cnt f ps (v ++ [a])) (nxt ps v) n).map fun q => q.1 :: wayOf f (ps.erase (v ++ [q.1])) (fi (v ++ [q.1])) q.2).getD [] := by
  rw [wayOf]
  exact congrArg (fun o => Option.getD o []) (fold_pick (fun a => cnt f ps (v ++ [a])) (fun a => ps.contains (v ++ [a])) (fun a r => a :: wayOf f (ps.erase (v ++ [a])) (fi (v ++ [a])) r) (List.range 4) n)
theorem ways_nxt (f : Nat) (ps : List Text) (v : Text) : ways (f + 1) ps v = Kv168.sum ((nxt ps v).map fun a => cnt f ps (v ++ [a])) := by
  rw [ways]
  exact sum_filter (fun a => ps.contains (v ++ [a])) (fun a => cnt f ps (v ++ [a])) (List.range 4)
theorem before_snoc (v : Text) {a b : Nat} : before (v ++ [a]) (v ++ [b]) = decide (a < b) := by
  induction v with
  | nil => simp [before]
  | cons x v ih => simp [before, ih]
theorem nxt_srt (ps : List Text) (v : Text) : Srt ((nxt ps v).map fun a => v ++ [a]) := by
  unfold Srt
  rw [List.pairwise_map]
  have : (nxt ps v).Pairwise (· < ·) := List.pairwise_lt_range.filter _
  exact this.imp fun h => by rw [before_snoc]; exact decide_eq_true h
theorem nxt_mem {k : Nat} {ps : List Text} (g : Gd k ps) {v p : Text} : p ∈ (nxt ps v).map (fun a => v ++ [a]) ↔ p ∈ ps ∧ bg p = v := by
  constructor
  · intro h
    obtain ⟨a, ha, rfl⟩ := List.mem_map.mp h
    exact ⟨List.contains_iff_mem.mp (List.mem_filter.mp ha).2, bg_snoc v a⟩
  · rintro ⟨h1, h2⟩
    have hl := g.len p h1
    obtain ⟨a, ha, e⟩ := piece_of (p := p) (by intro h; rw [h] at hl; have := g.two; simp at hl; omega)
    rw [h2] at e
    refine List.mem_map.mpr ⟨a, List.mem_filter.mpr ⟨List.mem_range.mpr (g.let_ p h1 a ha), ?_⟩, e.symm⟩
    rw [← e]
    exact List.contains_iff_mem.mpr h1
/-- the choices as the program lists them -/
theorem choices_are {k : Nat} {ps O : List Text} (g : Gd k ps) {v : Text} (hs : Srt O) (hm : ∀ p, p ∈ O ↔ p ∈ ps ∧ bg p = v) : O = (nxt ps v).map fun a => v ++ [a] :=
  srt_unique hs (nxt_srt ps v) fun y => by rw [hm, nxt_mem g]
theorem ways_choices {k f : Nat} {ps O : List Text} (g : Gd k ps) {v : Text} (hs : Srt O) (hm : ∀ p, p ∈ O ↔ p ∈ ps ∧ bg p = v) : ways (f + 1) ps v = Kv168.sum (O.map (cnt f ps)) := by
  rw [choices_are g hs hm, ways_nxt, List.map_map]
  rfl
theorem way_step {k f n gi : Nat} {ps O : List Text} {v p : Text} (g : Gd k ps) (hs : Srt O) (hm : ∀ p, p ∈ O ↔ p ∈ ps ∧ bg p = v) (hp : O[gi]? = some p) (h1 : Kv168.sum ((O.take gi).map (cnt f ps)) ≤ n) (h2 : n < Kv168.sum ((O.take gi).map (cnt f ps)) + cnt f ps p) :
    wayOf (f + 1) ps v n = la p :: wayOf f (ps.erase p) (fi p) (n - Kv168.sum ((O.take gi).map (cnt f ps))) ∧ n - Kv168.sum ((O.take gi).map (cnt f ps)) < ways f (ps.erase p) (fi p) := by
  have e := choices_are g hs hm
  subst e
  rw [List.getElem?_map] at hp
  cases ha : (nxt ps v)[gi]? with
  | none => rw [ha] at hp; cases hp
  | some a =>
    rw [ha] at hp
    have hp : v ++ [a] = p := Option.some.inj hp
    subst hp
    have es : Kv168.sum ((((nxt ps v).map fun a => v ++ [a]).take gi).map (cnt f ps)) = Kv168.sum (((nxt ps v).take gi).map fun a => cnt f ps (v ++ [a])) := by
      rw [← List.map_take, List.map_map]
      rfl
    rw [es] at h1 h2 ⊢
    rw [wayOf_pick, pick_at (fun a => cnt f ps (v ++ [a])) (nxt ps v) n gi a ha h1 h2, la_snoc]
    refine ⟨rfl, ?_⟩
    show _ < cnt f ps (v ++ [a])
    omega
/-! ### the first point -/
theorem textOf_pick (ps : List Text) (n : Nat) : textOf ps n = (pickL (ways ps.length ps) (begins ps) n).map fun q => q.1 ++ wayOf ps.length ps q.1 q.2 := by
  have h := fold_pick (ways ps.length ps) (fun _ => true) (fun v r => v ++ wayOf ps.length ps v r) (begins ps) n
  rw [List.filter_eq_self.mpr (fun _ _ => rfl)] at h
  rw [← h]
  rfl
theorem text_none {ps : List Text} {n : Nat} (h : many ps ≤ n) : textOf ps n = none := by
  rw [textOf_pick, pick_none _ _ _ h]
  rfl
theorem begins_are {k : Nat} {ps O : List Text} (g : Gd k ps) (hs : Srt O) (hm : ∀ p, p ∈ O ↔ p ∈ ps.map bg) : O = begins ps := by
  have hl : ∀ y ∈ ps.map from_, y.length = k - 1 := by
    intro y hy
    obtain ⟨p, hp, rfl⟩ := List.mem_map.mp hy
    have := g.len p hp
    unfold from_
    rw [List.length_take]
    omega
  obtain ⟨h1, h2⟩ := sorted_spec hl
  exact srt_unique hs h1 fun y => (hm y).trans (h2 y).symm
theorem text_step {k n gi : Nat} {ps O : List Text} {v : Text} (g : Gd k ps) (hs : Srt O) (hm : ∀ p, p ∈ O ↔ p ∈ ps.map bg) (hv : O[gi]? = some v) (h1 : Kv168.sum ((O.take gi).map (ways ps.length ps)) ≤ n) (h2 : n < Kv168.sum ((O.take gi).map (ways ps.length ps)) + ways ps.length ps v) :
    textOf ps n = some (v ++ wayOf ps.length ps v (n - Kv168.sum ((O.take gi).map (ways ps.length ps)))) ∧ n - Kv168.sum ((O.take gi).map (ways ps.length ps)) < ways ps.length ps v := by
  have e := begins_are g hs hm
  subst e
  rw [textOf_pick, pick_at _ _ _ _ _ hv h1 h2]
  exact ⟨rfl, by omega⟩
theorem many_sum {k : Nat} {ps O : List Text} (g : Gd k ps) (hs : Srt O) (hm : ∀ p, p ∈ O ↔ p ∈ ps.map bg) : many ps = Kv168.sum (O.map (ways ps.length ps)) := by
  rw [begins_are g hs hm]
  rfl
theorem many_le {k : Nat} {ps : List Text} (g : Gd k ps) (h64 : ps.length ≤ 64) : many ps ≤ 64 * 4 ^ 64 := by
  obtain ⟨h1, h2⟩ := sorted_spec (n := k - 1) (l := ps.map from_) (by
    intro y hy
    obtain ⟨p, hp, rfl⟩ := List.mem_map.mp hy
    have := g.len p hp
    unfold from_
    rw [List.length_take]
    omega)
  have hw : ∀ x ∈ (begins ps).map (ways ps.length ps), x ≤ 4 ^ 64 := fun x hx => by
    obtain ⟨v, _, rfl⟩ := List.mem_map.mp hx
    exact Nat.le_trans (ways_le _ _ _) (Nat.pow_le_pow_right (by decide) h64)
  have hb : (begins ps).length ≤ 64 := by
    have : ∀ {l r : List Text}, l.Nodup → (∀ x ∈ l, x ∈ r) → l.length ≤ r.length := by
      intro l
      induction l with
      | nil => intro r _ _; exact Nat.zero_le _
      | cons a l ih =>
        intro r hn hs
        have ha := hs a (by simp)
        have ih := ih (r := r.erase a) (List.nodup_cons.mp hn).2 fun x hx => by
          have hxa : x ≠ a := fun e => (List.nodup_cons.mp hn).1 (e ▸ hx)
          exact (List.mem_erase_of_ne hxa).mpr (hs x (by simp [hx]))
        rw [List.length_erase_of_mem ha] at ih
        have := List.length_pos_of_mem ha
        rw [List.length_cons]
        omega
    have := this h1.nodup fun x hx => (h2 x).mp hx
    rw [List.length_map] at this
    exact Nat.le_trans this h64
  have := sum_le hw
  rw [List.length_map] at this
  exact Nat.le_trans this (Nat.mul_le_mul_right _ hb)
end Tp
end
section
set_option Elab.async false
set_option linter.all false
set_option maxRecDepth 100000
set_option exponentiation.threshold 10
namespace Pg
open PySem L2 PyProof.Rows
abbrev sGrp : Stmt := top 29
abbrev sWo : Stmt := top 32
/-- more names that the text leans on -/
structure Txt2 (mg : Str → Option Value) : Prop where
  set : mg "set" = none
  sorted : mg "sorted" = none
  noSuch : ∃ u, mg "NO_SUCH_NUMBER" = some u ∧ RelV (.int (-33)) u
theorem sum_take {cs : List Nat} {g x : Nat} (h : cs[g]? = some x) : Kv168.sum (cs.take (g + 1)) = Kv168.sum (cs.take g) + x := by
  rw [List.take_add_one, h, Tp.sum_append]
  show _ + Kv168.sum [x] = _
  rw [Tp.sum_cons, Tp.sum_nil, Nat.add_zero]
theorem iv_get {cs : List Nat} {g x : Nat} (h : cs[g]? = some x) : (iv cs)[g]? = some (V.int (x : Int)) := by
  unfold iv; rw [List.getElem?_map, h]; rfl
def spGrp (K : PySem.W.Frag) : Sp := fun vs H Q _ => ∃ (n : Nat) (a : Addr) (cs : List Nat), vs = [.int n, .ref a] ∧ SqL K H a (iv cs) ∧ n < Kv168.sum cs ∧ cs.length ≤ 64 ∧
  ∀ g : Nat, g < cs.length → Kv168.sum (cs.take g) ≤ n → n < Kv168.sum (cs.take (g + 1)) → Q (.int g) H
/-- what stays of the pieces when one of a kind is taken -/
def spWo (K : PySem.W.Frag) : Sp := fun vs H Q _ => ∃ (a b : Addr) (es : List (List Nat × Addr)) (t : List Nat), vs = [.ref a, .ref b] ∧ Tl K H a es ∧ H b = some (.tup (iv t)) ∧ t ∈ es.map (·.1) ∧ es.length ≤ 64 ∧
  ∀ H' D es', Same H H' → H D = none → H' D = some (.lst (rf es')) → es'.map (·.1) = (es.map (·.1)).erase t → (∀ e ∈ es', e ∈ es) → Q (.ref D) H'
section
variable {P : Program} {w : World} {K : PySem.W.Frag} {mg : Str → Option Value} {base : Heap}
theorem scGrp : FnScope ["number", "counts", "group", "passed"] ["number", "counts"] (defScope sGrp) := ⟨rfl, rfl, rfl, by decide +kernel, rfl, by decide +kernel, by decide +kernel⟩
theorem ok_grp {f : Addr} {fd : FuncData} (F : Fun K "group_of" "group_of" sGrp f fd) : FnOk P w K mg base CX0 1 f fd ["number", "counts"] (spGrp K) := by
  refine F.ok scGrp (fun vs H Q E h => ?_) (fun cdv Ar outer s H vs Q E hr h => ?_)
  · obtain ⟨n, a, cs, rfl, _⟩ := h
    rfl
  · obtain ⟨n, a, cs, rfl, hl, hn, h64, k⟩ := h
    have h0 : 0 < cs.length := by
      cases cs with
      | nil => rw [Tp.sum_nil] at hn; omega
      | cons _ _ => simp
    refine ⟨_, pss_cons (ps_set (i := 2) scGrp.nd rfl (Or.inl rfl) pe_int) (pss_cons (ps_set (i := 3) scGrp.nd rfl (Or.inl rfl) (pe_ix ix_list (pv 1) pe_int (fun _ _ => rfl)))
      (pss_cons (ps_while PassesOwn.never (pt_cmpR op_le (pv 3) (pv 0) (nomark _))
        (pss_cons (ps_aug (i := 2) scGrp.nd rfl (Or.inl rfl) pe_int iop_add) (pss_one (ps_aug (i := 3) scGrp.nd rfl (Or.inl rfl) (pe_ix ix_list (pv 1) (pv 2) (fun _ _ => rfl)) iop_add))))
      (pss_one (ps_ret (pv 2))))), ?_⟩
    have e0 : cs[0]? = some cs[0] := List.getElem?_eq_getElem h0
    refine ⟨_, rfl, a, _, _, _, rfl, rfl, hl, at_of (j := 0) rfl (iv_get e0), ?_⟩
    refine ⟨(fun m σ H2 => ∃ g : Nat, σ = [some (.int n), some (.ref a), some (.int g), some (.int (Kv168.sum (cs.take (g + 1)) : Nat))] ∧ H2 = H ∧ g < cs.length ∧ Kv168.sum (cs.take g) ≤ n ∧ m = cs.length - g),
      ⟨cs.length, 0, ?_, rfl, h0, by rw [List.take_zero, Tp.sum_nil]; omega, rfl⟩, ?_⟩
    · have := sum_take e0
      rw [List.take_zero, Tp.sum_nil, Nat.zero_add] at this
      rw [Nat.zero_add] at this ⊢
      rw [this]
      rfl
    · rintro m σ H2 ⟨g, rfl, rfl, hg, hs, rfl⟩
      refine ⟨_, rfl, _, rfl, _, _, rfl, rfl, _, rfl, ?_⟩
      refine ite2 (fun h => ?_) (fun h => ?_)
      · have h := of_decide_eq_true h
        have hle : Kv168.sum (cs.take (g + 1)) ≤ n := by omega
        have hg1 : g + 1 < cs.length := Classical.byContradiction fun hx => by
          rw [List.take_of_length_le (by omega)] at hle
          omega
        have e1 : cs[g + 1]? = some cs[g + 1] := List.getElem?_eq_getElem hg1
        refine ⟨_, fun σ' H' h => h, ?_⟩
        refine ⟨_, rfl, _, _, rfl, rfl, ?_⟩
        refine ⟨_, rfl, _, rfl, _, rfl, a, _, _, _, rfl, rfl, hl, at_of (j := g + 1) (by omega) (iv_get e1), _, _, rfl, rfl, ?_⟩
        refine ⟨cs.length - (g + 1), by omega, g + 1, ?_, rfl, hg1, hle, rfl⟩
        rw [sum_take e1]
        rfl
      · have h : ¬ ((((Kv168.sum (cs.take (g + 1)) : Nat) : Int)) ≤ (n : Int)) := fun q => h (decide_eq_true q)
        exact ⟨_, rfl, k g hg hs (by omega)⟩
theorem cut_to (xs : List V) (j : Nat) (hj : j ≤ xs.length) : cutV xs none (some (j : Int)) = xs.take j := by
  unfold cutV
  rw [HT.sIx_nat, HT.sIx_none, Nat.min_eq_left hj]
  simp
theorem cut_from (xs : List V) (j : Nat) (hj : j ≤ xs.length) : cutV xs (some (j : Int)) none = xs.drop j := by
  unfold cutV
  rw [HT.sIx_nat, HT.sIx_none, Nat.min_eq_left hj, List.take_of_length_le (by simp)]
theorem erase_cut {t : List Nat} : ∀ {l : List (List Nat)}, t ∈ l → l.erase t = l.take (l.idxOf t) ++ l.drop (l.idxOf t + 1)
  | [], h => by simp at h
  | a :: l, h => by
    by_cases e : a = t
    · subst e
      simp
    · have h' : t ∈ l := by rcases List.mem_cons.mp h with q | q; exact absurd q.symm e; exact q
      rw [idx_ne l e, List.erase_cons_tail (by simpa using e), erase_cut h']
      rfl
theorem idx_at {t : List Nat} : ∀ {l : List (List Nat)}, t ∈ l → l[l.idxOf t]? = some t ∧ ∀ m : Nat, m < l.idxOf t → l[m]? ≠ some t
  | [], h => by simp at h
  | a :: l, h => by
    by_cases e : a = t
    · subst e
      rw [List.idxOf_cons_self]
      exact ⟨rfl, fun m hm => by omega⟩
    · have h' : t ∈ l := by rcases List.mem_cons.mp h with q | q; exact absurd q.symm e; exact q
      obtain ⟨h1, h2⟩ := idx_at h'
      rw [idx_ne l e]
      refine ⟨h1, fun m hm => ?_⟩
      cases m with
      | zero => exact fun z => e (Option.some.inj z)
      | succ m => exact h2 m (by omega)
theorem hu4_of {A : Around} {k : Nat} (hr : Room k A) : A.units + 4 < cLine := by have := hr.units; omega
theorem hu8_of {A : Around} {k : Nat} (hr : Room k A) : A.units + 8 < cLine := by have := hr.units; omega
theorem scWo : FnScope ["pieces", "piece", "place"] ["pieces", "piece"] (defScope sWo) := ⟨rfl, rfl, rfl, by decide +kernel, rfl, by decide +kernel, by decide +kernel⟩
theorem ok_wo {f : Addr} {fd : FuncData} (F : Fun K "without_piece" "without_piece" sWo f fd) : FnOk P w K mg base CX0 1 f fd ["pieces", "piece"] (spWo K) := by
  refine F.ok scWo (fun vs H Q E h => ?_) (fun cdv Ar outer s H vs Q E hr h => ?_)
  · obtain ⟨a, b, es, t, rfl, _⟩ := h
    rfl
  · obtain ⟨a, b, es, t, rfl, hT, hb, ht, h64, k⟩ := h
    have hu := hu4_of hr
    refine ⟨_, pss_cons (ps_set (i := 2) scWo.nd rfl (Or.inl rfl) (pe_bm PySem.F.plainAttrs_list PySem.F.slot_list_index PySem.F.type_list_index (mt_indexT hu) (pv 0) (pa_cons (pv 1) pa_nil)))
      (pss_one (ps_ret (pe_op op_cat (pe_slice sl_list (pv 0) po_none (po_some (pv 2))) (pe_slice sl_list (pv 0) (po_some (pe_op op_add (pv 2) pe_int)) po_none)))), ?_⟩
    have hj : (es.map (·.1)).idxOf t < es.length := by
      have := List.idxOf_lt_length_of_mem ht
      rw [List.length_map] at this
      exact this
    generalize hjj : (es.map (·.1)).idxOf t = j at hj
    have ej : es[j]? = some es[j] := List.getElem?_eq_getElem hj
    have hjt : es[j].1 = t := by
      have h1 : (es.map (·.1))[j]? = some t := by
        rw [← hjj]
        exact (idx_at ht).1
      rw [List.getElem?_map, ej] at h1
      exact Option.some.inj h1
    have hno : ∀ (m : Nat) e', m < j → es[m]? = some e' → e'.1 ≠ t := fun m e' hm he' z => by
      refine (idx_at ht).2 m (by rw [hjj]; exact hm) ?_
      rw [List.getElem?_map, he', ← z]
      rfl
    refine ⟨_, rfl, .inl ⟨rfl, _, hT.1⟩, _, rfl, a, b, es, t, j, es[j], rfl, rfl, hT, hb, ej, hjt, hno, ?_⟩
    refine ⟨_, rfl, _, rfl, _, rfl, a, _, rfl, hT.1, fun p hp => ?_⟩
    have s1 : Same H (upd H p (.lst (cutV (rf es) none (some (j : Int))))) := Same.new hp
    refine ⟨_, rfl, _, rfl, _, _, rfl, rfl, _, rfl, a, _, rfl, s1.seq hT.1, fun q hq => ?_⟩
    have s2 : Same (upd H p (.lst (cutV (rf es) none (some (j : Int))))) _ := Same.new (o := HO.lst (cutV (rf es) (some ((j : Int) + 1)) none)) hq
    have hl : (rf es).length = es.length := by rw [List.length_map]
    have c1 : cutV (rf es) none (some (j : Int)) = rf (es.take j) := by rw [cut_to _ _ (by rw [hl]; omega)]; exact List.map_take.symm
    have c2 : cutV (rf es) (some ((j : Int) + 1)) none = rf (es.drop (j + 1)) := by
      have := cut_from (rf es) (j + 1) (by rw [hl]; omega)
      exact this.trans List.map_drop.symm
    refine ⟨p, q, _, _, rfl, rfl, s2 _ _ upd_same, upd_same, ?_, fun r hr2 => ?_⟩
    · rw [c1, c2, sizeLine_eq]
      simp only [List.length_map, List.length_take, List.length_drop]
      omega
    · refine k _ r (es.take j ++ es.drop (j + 1)) (s1.trans (s2.trans (Same.new hr2))) (s1.free (s2.free hr2)) ?_ ?_ ?_
      · rw [upd_same, c1, c2]; exact congrArg (fun z => some (HO.lst z)) List.map_append.symm
      · rw [erase_cut ht, hjj, List.map_append, List.map_take, List.map_drop]
      · intro e he
        rcases List.mem_append.mp he with h1 | h1
        · exact List.mem_of_mem_take h1
        · exact List.mem_of_mem_drop h1
end
end Pg
end
section
set_option Elab.async false
set_option linter.all false
set_option maxRecDepth 100000
set_option exponentiation.threshold 10
namespace Pg
open PySem L2 PyProof.Rows
abbrev sCho : Stmt := top 28
def spCho (K : PySem.W.Frag) : Sp := fun vs H Q _ => ∃ (a b : Addr) (es : List (List Nat × Addr)) (v : List Nat) (k : Nat), vs = [.ref b, .ref a] ∧ Tl K H a es ∧ H b = some (.tup (iv v)) ∧ 2 ≤ k ∧ (∀ e ∈ es, e.1.length = k) ∧ es.length ≤ 64 ∧
  ∀ H' D out, Same H H' → H D = none → H' D = some (.lst (rf out)) → (∀ e ∈ out, e ∈ es) → Tp.Srt (out.map (·.1)) → (∀ p, p ∈ out.map (·.1) ↔ p ∈ es.map (·.1) ∧ Tp.bg p = v) → out.length ≤ 64 → Q (.ref D) H'
section
variable {P : Program} {w : World} {K : PySem.W.Frag} {mg : Str → Option Value} {base : Heap}
theorem fil_take {es : List (List Nat × Addr)} {i : Nat} {e : List Nat × Addr} (d : List Nat × Addr → Bool) (h : es[i]? = some e) : (es.take (i + 1)).filter d = (es.take i).filter d ++ (if d e then [e] else []) := by
  rw [List.take_add_one, h, List.filter_append]
  congr 1
  show List.filter d [e] = _
  by_cases hd : d e = true
  · rw [if_pos hd]; simp [hd]
  · rw [if_neg hd]; simp [hd]
theorem rf_snoc (es : List (List Nat × Addr)) (e : List Nat × Addr) : rf (es ++ [e]) = rf es ++ [V.ref e.2] := by simp [rf]
theorem rf_at {es : List (List Nat × Addr)} {i : Nat} {y : V} (h : (rf es)[i]? = some y) : ∃ e, es[i]? = some e ∧ e ∈ es ∧ y = V.ref e.2 := by
  rw [List.getElem?_map] at h
  cases q : es[i]? with
  | none => rw [q] at h; cases h
  | some e => rw [q] at h; exact ⟨e, rfl, List.mem_of_getElem? q, (Option.some.inj h).symm⟩
theorem scCho : FnScope ["point", "pieces", "piece"] ["point", "pieces"] (defScope sCho) := ⟨rfl, rfl, rfl, by decide +kernel, rfl, by decide +kernel, by decide +kernel⟩
theorem ok_cho {f : Addr} {fd : FuncData} (F : Fun K "choices_at" "choices_at" sCho f fd) (T2 : Txt2 mg) (Gb : Fc P w K mg base 1 "beginning_of" ["piece"] (spBeg K)) : FnOk P w K mg base CX0 2 f fd ["point", "pieces"] (spCho K) := by
  refine F.ok scCho (fun vs H Q E h => ?_) (fun cdv Ar outer s H vs Q E hr h => ?_)
  · obtain ⟨a, b, es, v, kk, rfl, _⟩ := h
    rfl
  · obtain ⟨a, b, es, v, kk, rfl, hT, hb, hk2, hlen, h64, k⟩ := h
    have hu := hr.units
    refine ⟨_, pss_one (ps_ret (pe_callB (r := rSortT P w) (cr_sortT rfl) rfl T2.sorted boot_sorted (pa_cons (pe_callTy (r := rSetT P w K) (cr_setT rfl (hu8_of hr)) rfl T2.set boot_set
      (pa_cons (pe_lc rfl scCho.nd (pi_list (pv 1)) (blkOk_by (own := [("piece", 2)]) (by show blkC ["point", "pieces", "piece"] (defScope sCho) _ _ = true; decide +kernel))
      (fun s H C cl fp => pg_name (i := 2) scCho.nd rfl (Or.inl rfl)) (fun s H C cl fp => pts_one (pt_cmpR (op_eqT hu) (pe_fc Gb hr rfl (pa_cons (pv 2) pa_nil)) (pv 0) (nomark _)))
      (fun s H C cl fp => pv 2)) pa_nil)) pa_nil))), ?_⟩
    have hne : ∀ e ∈ es, e.1 ≠ [] := fun e he z => by have := hlen e he; rw [z] at this; simp at this; omega
    refine ⟨_, rfl, a, rfl, ⟨_, hT.1⟩, fun D hD => lc_list (K := K) (a := a) (xs := rf es) (fun i H2 => Same H H2 ∧ H2 D = some (.lst (rf ((es.take i).filter fun e => decide (Tp.bg e.1 = v)))))
      ⟨Same.new hD, upd_same⟩ (fun i H2 _ h2 => h2.1.seq hT.1) ?_ ?_⟩
    · rintro i y H2 hi ⟨sm2, hD2⟩
      obtain ⟨e, he, hem, rfl⟩ := rf_at hi
      refine ⟨rfl, ?_⟩
      refine ⟨_, rfl, e.2, e.1, rfl, .inr ⟨sm2 _ _ (hT.2 e hem), hne e hem⟩, fun H3 q sm3 hq0 hq3 => ?_⟩
      refine ⟨_, rfl, q, b, _, _, rfl, rfl, hq3, sm3 _ _ (sm2 _ _ hb), _, rfl, ?_⟩
      have hlt : ((es.take i).filter fun e => decide (Tp.bg e.1 = v)).length ≤ 64 := by
        have h1 := List.length_filter_le (fun e : List Nat × Addr => decide (Tp.bg e.1 = v)) (es.take i)
        have h2 := List.length_take_le i es
        rw [List.length_take] at h1
        omega
      refine ite2 (fun hd => ?_) (fun hd => ?_)
      · refine ⟨_, rfl, _, sm3 _ _ hD2, small1000 (by rw [List.length_map]; omega), Same.put (sm2.trans sm3) hD, ?_⟩
        rw [upd_same, fil_take _ he, if_pos hd]
        exact congrArg (fun z => some (HO.lst z)) (rf_snoc _ e).symm
      · refine ⟨sm2.trans sm3, ?_⟩
        rw [fil_take _ he, if_neg hd, List.append_nil]
        exact sm3 _ _ hD2
    · rintro H2 ⟨sm2, hD2⟩
      rw [List.length_map, List.take_length] at hD2
      have hf64 : (es.filter fun e => decide (Tp.bg e.1 = v)).length ≤ 64 := Nat.le_trans (List.length_filter_le _ _) h64
      have hsub : ∀ e ∈ es.filter (fun e => decide (Tp.bg e.1 = v)), e ∈ es := fun e he => (List.mem_filter.mp he).1
      refine ⟨D, _, rfl, ⟨SqL.of hD2, fun e he => sm2 _ _ (hT.2 e (hsub e he))⟩, hf64, fun S es' hS h1 h2 h3 => ?_⟩
      have s3 : Same H2 (upd H2 S (SetO P w S es')) := Same.new hS
      have hl' : es'.length ≤ 64 := by
        have := Sb.len_le_of_sub h2 fun t ht => (h3 t).mp ht
        rw [List.length_map, List.length_map] at this
        omega
      refine ⟨S, es', kk, rfl, upd_same, fun e he => ⟨s3 _ _ (sm2 _ _ (hT.2 e (hsub e (h1 e he)))), hlen e (hsub e (h1 e he))⟩, by omega, hl', h2, fun D2 out hD2' p1 p2 => ?_⟩
      have hD0 : H D2 = none := sm2.free (s3.free hD2')
      refine k _ D2 out (sm2.trans (s3.trans (Same.new hD2'))) hD0 upd_same (fun e he => hsub e (h1 e (p1.mem_iff.mp he))) ?_ (fun p => ?_) (by rw [p1.length_eq]; exact hl')
      · unfold Tp.Srt
        rw [List.pairwise_map]
        exact p2
      · rw [(p1.map (·.1)).mem_iff, h3 p]
        constructor
        · intro h
          obtain ⟨e, he, rfl⟩ := List.mem_map.mp h
          exact ⟨List.mem_map.mpr ⟨e, (List.mem_filter.mp he).1, rfl⟩, of_decide_eq_true (List.mem_filter.mp he).2⟩
        · rintro ⟨h, hv⟩
          obtain ⟨e, he, rfl⟩ := List.mem_map.mp h
          exact List.mem_map.mpr ⟨e, List.mem_filter.mpr ⟨he, decide_eq_true hv⟩, rfl⟩
end
end Pg
end
section
set_option Elab.async false
set_option linter.all false
set_option maxRecDepth 100000
set_option exponentiation.threshold 10
namespace Pg
open PySem L2 PyProof.Rows
abbrev sFrm : Stmt := top 31
/-! ### points, in order, are the same if they are the same points -/
theorem eq_of_order {n : Nat} : ∀ {l r : List (List Nat)}, l.Pairwise (fun a b => Kv168.before b a = false) → r.Pairwise (fun a b => Kv168.before b a = false) → (∀ x ∈ l, x.length = n) → l.Perm r → l = r
  | [], r, _, _, _, p => (List.nil_perm.mp p).symm
  | a :: l, [], _, _, _, p => by have := p.length_eq; simp at this
  | a :: l, b :: r, hl, hr, hn, p => by
    rw [List.pairwise_cons] at hl hr
    by_cases e : a = b
    · subst e
      rw [eq_of_order (l := l) (r := r) hl.2 hr.2 (fun x hx => hn x (by simp [hx])) ((List.perm_cons a).mp p)]
    · have h1 : a ∈ r := by rcases List.mem_cons.mp (p.mem_iff.mp (by simp : a ∈ a :: l)) with q | q; exact absurd q e; exact q
      have h2 : b ∈ l := by rcases List.mem_cons.mp (p.mem_iff.mpr (by simp : b ∈ b :: r)) with q | q; exact absurd q.symm e; exact q
      have h3 := hl.1 b h2
      have h4 := hr.1 a h1
      rcases Tp.before_total a b (by rw [hn a (by simp), hn b (by simp [h2])]) e with q | q
      · rw [q] at h4; cases h4
      · rw [q] at h3; cases h3
theorem perm_even {ps : List (List Nat)} : (ps.map Tp.bg).Perm (ps.map Tp.fi) ↔ Tp.Even ps := by
  rw [List.perm_iff_count]
  have h1 : ∀ v, List.count v (ps.map Tp.bg) = Tp.nb ps v := fun v => by rw [List.count_eq_countP, List.countP_map]; rfl
  have h2 : ∀ v, List.count v (ps.map Tp.fi) = Tp.ne ps v := fun v => by rw [List.count_eq_countP, List.countP_map]; rfl
  constructor
  · intro h v; rw [← h1, ← h2]; exact h v
  · intro h v; rw [h1, h2]; exact h v
theorem count_of {es : List (List Nat × Addr)} {ps : List (List Nat)} {g : List Nat → List Nat} (h : es.map (·.1) = ps.map g) (v : List Nat) : (es.countP fun e => e.1 == v) = ps.countP fun p => g p == v := by
  have e1 : (es.countP fun e => e.1 == v) = List.countP (fun x => x == v) (es.map (·.1)) := by rw [List.countP_map]; rfl
  rw [e1, h, List.countP_map]
  rfl
def spFrm (K : PySem.W.Frag) : Sp := fun vs H Q _ => ∃ (a b : Addr) (ps : List (List Nat)) (v : List Nat) (k : Nat), vs = [.ref b, .int (Kv168.many ps : Nat), .ref a] ∧ Pr K H a ps ∧ H b = some (.tup (iv v)) ∧ Tp.Gd k ps ∧ ps ≠ [] ∧ ps.length ≤ 64 ∧
  ∀ H', Same H H' → Q (.int (Kv168.ways ps.length ps v : Nat)) H'
/-- a list of new tuples grows -/
def Gr (H H2 : Hp) (D : Addr) (ts : List (List Nat)) : Prop := Same H H2 ∧ ∃ es : List (List Nat × Addr), H2 D = some (.lst (rf es)) ∧ es.map (·.1) = ts ∧ ∀ e ∈ es, H2 e.2 = some (.tup (iv e.1))
theorem Gr.start {H : Hp} {D : Addr} (hD : H D = none) : Gr H (upd H D (.lst [])) D [] := ⟨Same.new hD, [], upd_same, rfl, fun e h => by simp at h⟩
theorem Gr.more {H H2 H3 : Hp} {D q : Addr} {ts : List (List Nat)} {t : List Nat} (hD : H D = none) (g : Gr H H2 D ts) (s : Same H2 H3) (hq : H3 q = some (.tup (iv t))) (h64 : ts.length ≤ 64) :
    ∃ acc, H3 D = some (.lst acc) ∧ acc.length < sizeLine ∧ Gr H (upd H3 D (.lst (acc ++ [V.ref q]))) D (ts ++ [t]) := by
  obtain ⟨sm, es, h1, h2, h3⟩ := g
  have hD3 := s _ _ h1
  have tup_ne : ∀ b xs, H3 b = some (.tup xs) → b ≠ D := fun b xs h z => by rw [z, hD3] at h; cases h
  refine ⟨_, hD3, small1000 (by rw [List.length_map]; rw [← h2, List.length_map] at h64; omega), Same.put (sm.trans s) hD, es ++ [(t, q)], ?_, ?_, fun e he => ?_⟩
  · rw [upd_same, rf_snoc]
  · rw [List.map_append, h2]; rfl
  · rcases List.mem_append.mp he with h | h
    · have := s _ _ (h3 e h)
      rw [upd_ne (tup_ne _ _ this)]; exact this
    · rw [List.mem_singleton.mp h, upd_ne (tup_ne _ _ hq)]; exact hq
theorem Gr.tl {K : PySem.W.Frag} {H H2 : Hp} {D : Addr} {ts : List (List Nat)} (g : Gr H H2 D ts) : ∃ es, Tl K H2 D es ∧ es.map (·.1) = ts := by
  obtain ⟨_, es, h1, h2, h3⟩ := g
  exact ⟨es, ⟨SqL.of h1, h3⟩, h2⟩
section
variable {P : Program} {w : World} {K : PySem.W.Frag} {mg : Str → Option Value} {base : Heap}
theorem scFrm : FnScope ["point", "many", "pieces", "beginnings", "ends", "piece"] ["point", "many", "pieces"] (defScope sFrm) := ⟨rfl, rfl, rfl, by decide +kernel, rfl, by decide +kernel, by decide +kernel⟩
theorem many_bits {k : Nat} {ps : List (List Nat)} (g : Tp.Gd k ps) (h64 : ps.length ≤ 64) : (((Kv168.many ps : Nat) : Int)).natAbs < 2 ^ 200 := by
  rw [Int.natAbs_natCast]
  refine Nat.lt_of_le_of_lt (Tp.many_le g h64) ?_
  decide +kernel
theorem fdiv_nat (a b : Nat) : ((a : Int)).fdiv (b : Int) = ((a / b : Nat) : Int) := by
  rw [Int.fdiv_eq_ediv_of_nonneg _ (by omega)]
  exact (Int.natCast_ediv a b).symm
theorem ok_frm {f : Addr} {fd : FuncData} (F : Fun K "count_from" "count_from" sFrm f fd) (T : Txt mg) (T2 : Txt2 mg) (Gb : Fc P w K mg base 1 "beginning_of" ["piece"] (spBeg K)) (Ge : Fc P w K mg base 1 "end_of" ["piece"] (spEnd K)) :
    FnOk P w K mg base CX0 2 f fd ["point", "many", "pieces"] (spFrm K) := by
  refine F.ok scFrm (fun vs H Q E h => ?_) (fun cdv Ar outer s H vs Q E hr h => ?_)
  · obtain ⟨a, b, ps, v, kk, rfl, _⟩ := h
    rfl
  · obtain ⟨a, b, ps, v, kk, rfl, hPr, hb, hG, h0, h64, k⟩ := h
    obtain ⟨rs, hl, hrs, hrow⟩ := id hPr
    have hu := hr.units
    have hu4 := hu4_of hr
    refine ⟨_, pss_cons (ps_setLc (i := 3) rfl scFrm.nd rfl rfl (sw_true rfl rfl rfl (by decide +kernel)) (pi_list (pv 2))
        (blkOk_by (own := [("piece", 5)]) (by show blkC ["point", "many", "pieces", "beginnings", "ends", "piece"] (defScope sFrm) _ _ = true; decide +kernel))
        (fun s H C cl fp => pg_name (i := 5) scFrm.nd rfl (Or.inl rfl)) (fun _ _ _ _ _ => pts_nil) (fun s H C cl fp => pe_fc Gb hr rfl (pa_cons (pv 5) pa_nil)))
      (pss_cons (ps_setLc (i := 4) rfl scFrm.nd rfl rfl (sw_true rfl rfl rfl (by decide +kernel)) (pi_list (pv 2))
        (blkOk_by (own := [("piece", 5)]) (by show blkC ["point", "many", "pieces", "beginnings", "ends", "piece"] (defScope sFrm) _ _ = true; decide +kernel))
        (fun s H C cl fp => pg_name (i := 5) scFrm.nd rfl (Or.inl rfl)) (fun _ _ _ _ _ => pts_nil) (fun s H C cl fp => pe_fc Ge hr rfl (pa_cons (pv 5) pa_nil)))
      (pss_cons (ps_if (pt_cmpR (op_eqL hu) (pe_callB (r := rSortL K) cr_sortL rfl T2.sorted boot_sorted (pa_cons (pv 3) pa_nil)) (pe_callB (r := rSortL K) cr_sortL rfl T2.sorted boot_sorted (pa_cons (pv 4) pa_nil)) (nomark _))
        (pss_one (ps_ret (pe_op op_fdivB (pe_op op_mulB (pv 1) (pe_bm PySem.F.plainAttrs_list PySem.F.slot_list_count PySem.F.type_list_count (mt_countT hu4) (pv 3) (pa_cons (pv 0) pa_nil))) (pe_callB call_len_seq rfl T.len PySem.boot_len (pa_cons (pv 2) pa_nil))))) pss_nil)
      (pss_one (ps_ret (pe_ifExp (pt_cmpR op_gt (pe_bm PySem.F.plainAttrs_list PySem.F.slot_list_count PySem.F.type_list_count (mt_countT hu4) (pv 3) (pa_cons (pv 0) pa_nil)) (pe_bm PySem.F.plainAttrs_list PySem.F.slot_list_count PySem.F.type_list_count (mt_countT hu4) (pv 4) (pa_cons (pv 0) pa_nil)) (nomark _)) (pv 1) pe_int))))), ?_⟩
    -- beginnings
    refine ⟨_, rfl, a, rfl, ⟨_, hl⟩, fun D hD => lc_list (K := K) (a := a) (xs := rs.map V.ref) (fun i H2 => Gr H H2 D ((ps.take i).map Tp.bg)) (Gr.start hD) (fun i H2 _ h2 => h2.1.seq hl) ?_ ?_⟩
    · rintro i y H2 hi g2
      obtain ⟨r, hr', rfl⟩ := ref_of hi
      obtain ⟨p, hp, hpm⟩ := ps_at hrs hr'
      refine ⟨rfl, yes ?_⟩
      refine ⟨_, rfl, r, p, rfl, (hrow i r p hr' hp).same g2.1, fun H3 q sm3 hq0 hq3 => ?_⟩
      have := g2.more hD sm3 hq3 (by rw [List.length_map, List.length_take]; omega)
      rw [List.take_add_one, hp, List.map_append]
      exact this
    · rintro H1 g1
      rw [List.length_map, hrs, List.take_length] at g1
      have sm1 := g1.1
      -- ends
      refine ⟨_, rfl, a, rfl, ⟨_, sm1.seq hl⟩, fun D2 hD2 => lc_list (K := K) (a := a) (xs := rs.map V.ref) (fun i H2 => Gr H1 H2 D2 ((ps.take i).map Tp.fi)) (Gr.start hD2) (fun i H2 _ h2 => (sm1.trans h2.1).seq hl) ?_ ?_⟩
      · rintro i y H2 hi g2
        obtain ⟨r, hr', rfl⟩ := ref_of hi
        obtain ⟨p, hp, hpm⟩ := ps_at hrs hr'
        refine ⟨rfl, yes ?_⟩
        refine ⟨_, rfl, r, p, rfl, (hrow i r p hr' hp).same (sm1.trans g2.1), fun H3 q sm3 hq0 hq3 => ?_⟩
        have := g2.more hD2 sm3 hq3 (by rw [List.length_map, List.length_take]; omega)
        rw [List.take_add_one, hp, List.map_append]
        exact this
      · rintro H2 g2
        rw [List.length_map, hrs, List.take_length] at g2
        obtain ⟨es1, tl1, e1⟩ := g1.tl (K := K)
        obtain ⟨es2, tl2, e2⟩ := g2.tl (K := K)
        have tl1 := tl1.same g2.1
        have hn1 : ∀ e ∈ es1, e.1.length = kk - 1 := fun e he => by
          have : e.1 ∈ es1.map (·.1) := List.mem_map.mpr ⟨e, he, rfl⟩
          rw [e1] at this
          obtain ⟨p, hp, hpe⟩ := List.mem_map.mp this
          have := hG.len p hp
          rw [← hpe]
          unfold Tp.bg
          rw [List.length_take]
          omega
        have hn2 : ∀ e ∈ es2, e.1.length = kk - 1 := fun e he => by
          have : e.1 ∈ es2.map (·.1) := List.mem_map.mpr ⟨e, he, rfl⟩
          rw [e2] at this
          obtain ⟨p, hp, hpe⟩ := List.mem_map.mp this
          have := hG.len p hp
          rw [← hpe]
          unfold Tp.fi
          rw [List.length_drop]
          omega
        have l1 : es1.length ≤ 64 := by have := congrArg List.length e1; rw [List.length_map, List.length_map] at this; omega
        have l2 : es2.length ≤ 64 := by have := congrArg List.length e2; rw [List.length_map, List.length_map] at this; omega
        have h2k := hG.two
        have sm2 : Same H H2 := sm1.trans g2.1
        have hb2 := sm2 _ _ hb
        refine ⟨_, rfl, D, es1, kk - 1, rfl, tl1, hn1, by omega, l1, fun S1 o1 hS1 p1 q1 => ?_⟩
        have s3 : Same H2 (upd H2 S1 (.lst (rf o1))) := Same.new hS1
        refine ⟨_, rfl, D2, es2, kk - 1, rfl, tl2.same s3, hn2, by omega, l2, fun S2 o2 hS2 p2 q2 => ?_⟩
        have s4 := s3.trans (Same.new (o := HO.lst (rf o2)) hS2)
        refine ⟨S1, S2, o1, o2, rfl, rfl, ⟨SqL.of ((Same.new hS2) _ _ upd_same), fun e he => s4 _ _ (tl1.2 e (p1.mem_iff.mp he))⟩, ⟨SqL.of upd_same, fun e he => s4 _ _ (tl2.2 e (p2.mem_iff.mp he))⟩, _, rfl, ?_⟩
        generalize upd (upd H2 S1 (.lst (rf o1))) S2 (.lst (rf o2)) = H4 at s4 ⊢
        have sm4 : Same H H4 := sm2.trans s4
        have tl1 := tl1.same s4
        have tl2 := tl2.same s4
        have c1 : (es1.countP fun e => e.1 == v) = Tp.nb ps v := count_of e1 v
        have c2 : (es2.countP fun e => e.1 == v) = Tp.ne ps v := count_of e2 v
        have hev : o1.map (·.1) = o2.map (·.1) ↔ Tp.Even ps := by
          rw [← perm_even, ← e1, ← e2]
          constructor
          · intro h
            exact ((p1.map (·.1)).symm.trans (List.Perm.of_eq h)).trans (p2.map (·.1))
          · intro h
            refine eq_of_order (n := kk - 1) (by rw [List.pairwise_map]; exact q1) (by rw [List.pairwise_map]; exact q2) (fun x hx => ?_) (((p1.map (·.1)).trans h).trans (p2.map (·.1)).symm)
            obtain ⟨e, he, rfl⟩ := List.mem_map.mp hx
            exact hn1 e (p1.mem_iff.mp he)
        refine ite2 (fun h => ?_) (fun h => ?_)
        · have hE := hev.mp (of_decide_eq_true h)
          refine ⟨_, rfl, _, rfl, .inl ⟨rfl, _, tl1.1⟩, _, rfl, D, b, es1, v, rfl, rfl, tl1, sm4 _ _ hb, ?_⟩
          refine ⟨_, _, rfl, rfl, mulOk (m := 200) (n := 64) (many_bits hG h64) ?_ (by decide), _, rfl, a, _, rfl, .inl (sm4.seq hl), _, _, rfl, rfl, ⟨?_, ?_⟩, ?_⟩
          · rw [Int.natAbs_natCast]
            refine Nat.lt_of_le_of_lt List.countP_le_length (Nat.lt_of_le_of_lt l1 (by decide +kernel))
          · rw [List.length_map, hrs]
            have := List.length_pos_iff.mpr h0
            omega
          · rw [List.length_map, hrs]
            refine log2_lt_of ?_
            rw [Int.natAbs_natCast]
            exact Nat.lt_of_le_of_lt h64 (by decide +kernel)
          · rw [List.length_map, hrs, c1, ← Int.natCast_mul]
            show Q (V.int (((Kv168.many ps * Tp.nb ps v : Nat) : Int).fdiv ((ps.length : Nat) : Int))) H4
            rw [fdiv_nat, Tp.cfrom_even hG h0 hE]
            exact k H4 sm4
        · have hE : ¬ Tp.Even ps := fun q => h (decide_eq_true (hev.mpr q))
          refine ⟨_, rfl, .inl ⟨rfl, _, tl1.1⟩, _, rfl, D, b, es1, v, rfl, rfl, tl1, sm4 _ _ hb, ?_⟩
          refine ⟨_, rfl, .inl ⟨rfl, _, tl2.1⟩, _, rfl, D2, b, es2, v, rfl, rfl, tl2, sm4 _ _ hb, ?_⟩
          refine ⟨_, _, rfl, rfl, _, rfl, ?_⟩
          have hw := Tp.cfrom_odd hG h0 hE v
          have kk4 := k H4 sm4
          refine ite2 (fun h => ?_) (fun h => ?_)
          · have h := of_decide_eq_true h
            rw [c1, c2] at h
            rw [if_pos (by omega)] at hw
            rw [← hw] at kk4
            exact ⟨_, rfl, kk4⟩
          · have h : ¬ ((((es2.countP fun e => e.1 == v) : Nat) : Int) < (((es1.countP fun e => e.1 == v) : Nat) : Int)) := fun q => h (decide_eq_true q)
            rw [c1, c2] at h
            rw [if_neg (by omega)] at hw
            rw [← hw] at kk4
            exact kk4
end
end Pg
end
section
set_option Elab.async false
set_option linter.all false
set_option maxRecDepth 100000
set_option exponentiation.threshold 10
namespace Pg
open PySem L2 PyProof.Rows
abbrev sBeh : Stmt := top 30
def spBeh (K : PySem.W.Frag) : Sp := fun vs H Q _ => ∃ (a b : Addr) (es : List (List Nat × Addr)) (t : List Nat) (k : Nat), vs = [.ref b, .ref a] ∧ Tl K H a es ∧ H b = some (.tup (iv t)) ∧ t ∈ es.map (·.1) ∧ Tp.Gd k (es.map (·.1)) ∧ es.length ≤ 64 ∧
  ∀ H', Same H H' → Q (.int (Tp.cnt (es.length - 1) (es.map (·.1)) t : Nat)) H'
theorem Tl.pr {K : PySem.W.Frag} {H : Hp} {a : Addr} {es : List (List Nat × Addr)} {k : Nat} (h : Tl K H a es) (g : Tp.Gd k (es.map (·.1))) : Pr K H a (es.map (·.1)) := by
  refine ⟨es.map (·.2), ?_, by simp, fun i r p hr hp => ?_⟩
  · have : (es.map (·.2)).map V.ref = rf es := by simp [rf]
    rw [this]; exact h.1
  · rw [List.getElem?_map] at hr hp
    cases e : es[i]? with
    | none => rw [e] at hr; cases hr
    | some q =>
      rw [e] at hr hp
      cases hr; cases hp
      have hm := List.mem_of_getElem? e
      refine .inr ⟨h.2 q hm, fun z => ?_⟩
      have := g.len q.1 (List.mem_map.mpr ⟨q, hm, rfl⟩)
      have h2 := g.two
      have z : q.1 = [] := z
      rw [z] at this
      simp at this
      omega
section
variable {P : Program} {w : World} {K : PySem.W.Frag} {mg : Str → Option Value} {base : Heap}
theorem scBeh : FnScope ["piece", "pieces", "rest"] ["piece", "pieces"] (defScope sBeh) := ⟨rfl, rfl, rfl, by decide +kernel, rfl, by decide +kernel, by decide +kernel⟩
theorem ok_beh {f : Addr} {fd : FuncData} (F : Fun K "count_behind" "count_behind" sBeh f fd) (T : Txt mg) (Gw : Fc P w K mg base 1 "without_piece" ["pieces", "piece"] (spWo K)) (Ge : Fc P w K mg base 1 "end_of" ["piece"] (spEnd K))
    (Gs : Fc P w K mg base 3 "street_table" ["pieces"] (spTab K)) (Gc : Fc P w K mg base 5 "count_texts" ["streets"] (spTexts K)) (Gf : Fc P w K mg base 2 "count_from" ["point", "many", "pieces"] (spFrm K)) :
    FnOk P w K mg base CX0 6 f fd ["piece", "pieces"] (spBeh K) := by
  refine F.ok scBeh (fun vs H Q E h => ?_) (fun cdv Ar outer s H vs Q E hr h => ?_)
  · obtain ⟨a, b, es, t, kk, rfl, _⟩ := h
    rfl
  · obtain ⟨a, b, es, t, kk, rfl, hT, hb, ht, hG, h64, k⟩ := h
    have hr1 : Room 1 _ := hr.mono (by decide)
    have hr2 : Room 2 _ := hr.mono (by decide)
    have hr3 : Room 3 _ := hr.mono (by decide)
    refine ⟨_, pss_cons (ps_set (i := 2) scBeh.nd rfl (Or.inl rfl) (pe_fc Gw hr1 rfl (pa_cons (pv 1) (pa_cons (pv 0) pa_nil))))
      (pss_cons (ps_if (pt_cmpR op_eq (pe_callB call_len_seq rfl T.len PySem.boot_len (pa_cons (pv 2) pa_nil)) pe_int (nomark _)) (pss_one (ps_ret pe_int)) pss_nil)
      (pss_one (ps_ret (pe_fc Gf hr2 rfl (pa_cons (pe_fc Ge hr1 rfl (pa_cons (pv 0) pa_nil)) (pa_cons (pe_fc Gc hr rfl (pa_cons (pe_fc Gs hr3 rfl (pa_cons (pv 2) pa_nil)) pa_nil)) (pa_cons (pv 2) pa_nil))))))), ?_⟩
    refine ⟨_, rfl, _, rfl, a, b, es, t, rfl, hT, hb, ht, h64, fun H1 D es' sm1 hD0 hD1 he1 hsub => ?_⟩
    have hlen : es'.length = es.length - 1 := by
      have := congrArg List.length he1
      rw [List.length_map, List.length_erase_of_mem ht, List.length_map] at this
      exact this
    have tl1 : Tl K H1 D es' := ⟨SqL.of hD1, fun e he => sm1 _ _ (hT.2 e (hsub e he))⟩
    refine ⟨_, rfl, D, _, rfl, .inl tl1.1, rfl, _, rfl, ?_⟩
    refine ite2 (fun h => ?_) (fun h => ?_)
    · have h := of_decide_eq_true h
      injection h with h
      rw [List.length_map] at h
      have h0 : es.length - 1 = 0 := by omega
      have := k H1 sm1
      rw [h0] at this
      exact this
    · have hne : es' ≠ [] := fun z => h (by rw [z]; rfl)
      have hG' : Tp.Gd kk (es'.map (·.1)) := by rw [he1]; exact hG.erase t
      have htn : t ≠ [] := fun z => by
        have := hG.len t ht
        have h2 := hG.two
        rw [z] at this
        simp at this
        omega
      have h0 : es'.map (·.1) ≠ [] := fun z => hne (List.map_eq_nil_iff.mp z)
      have hl64 : (es'.map (·.1)).length ≤ 64 := by rw [List.length_map]; omega
      refine ⟨_, rfl, b, t, rfl, .inr ⟨sm1 _ _ hb, htn⟩, fun H2 q sm2 hq0 hq2 => ?_⟩
      have tl2 := tl1.same sm2
      refine ⟨_, rfl, D, _, rfl, tl2.pr hG', hl64, fun H3 M sm3 hM => ?_⟩
      refine ⟨M, Tp.np (es'.map (·.1)), _, rfl, hM, Tp.np_pos h0, by have := Tp.np_le (es'.map (·.1)); omega, by rw [Tp.tot_ps]; omega, fun x hx => Tp.touched hx, fun H4 sm4 => ?_⟩
      have tl4 := (tl2.same sm3).same sm4
      refine ⟨_, rfl, D, q, es'.map (·.1), Tp.fi t, kk, ?_, tl4.pr hG', sm4 _ _ (sm3 _ _ hq2), hG', h0, hl64, fun H5 sm5 => ?_⟩
      · rw [Tp.many_ps hG'.two h0 hG'.len hG'.let_]; rfl
      · have := k H5 (sm1.trans (sm2.trans (sm3.trans (sm4.trans sm5))))
        unfold Tp.cnt at this
        rw [List.length_map, hlen, he1]
        exact this
end
end Pg
end
section
set_option Elab.async false
set_option linter.all false
set_option maxRecDepth 100000
set_option exponentiation.threshold 10
namespace Pg
open PySem L2 PyProof.Rows
abbrev sLet : Stmt := top 27
def spLet (K : PySem.W.Frag) : Sp := fun vs H Q _ => ∃ (a b : Addr) (n : Nat) (ps : List (List Nat)) (v : List Nat) (k : Nat), vs = [.ref b, .int n, .ref a] ∧ Pl K H a ps ∧ H b = some (.tup (iv v)) ∧ Tp.Gd k ps ∧ ps.length ≤ 64 ∧ n < Kv168.ways ps.length ps v ∧
  ∀ H' D, Same H H' → H D = none → H' D = some (.lst (iv (Kv168.wayOf ps.length ps v n))) → Q (.ref D) H'
def rTup (K : PySem.W.Frag) : List V → Hp → VK → Prop := fun xs H Q => ∃ p ys, xs = [.ref p] ∧ ((SqL K H p ys ∧ ∀ l, H l = none → Q (.ref l) (upd H l (.tup ys))) ∨ (SqT K H p ys ∧ Q (.ref p) H))
theorem cr_tup {X : Cx} : CallR X (.type "tuple") (rTup X.K) := call_tuple_of
theorem iv_last {p : List Nat} (h : p ≠ []) : atI (iv p) (-1) = some (V.int (Tp.la p : Nat)) := by
  have e : p = p.dropLast ++ [p.getLast h] := (List.dropLast_concat_getLast h).symm
  have e2 : Tp.la p = p.getLast h := by unfold Tp.la; rw [List.getLastD_eq_getLast?, List.getLast?_eq_some_getLast h]; rfl
  rw [e2]
  have e3 : iv p = iv p.dropLast ++ [V.int ((p.getLast h : Nat) : Int)] := by
    unfold iv
    rw [← List.map_singleton (f := fun (n : Nat) => V.int (n : Int)), ← List.map_append, ← e]
  rw [e3]
  exact atI_last _ _
theorem ints_sum : ∀ cs : List Nat, (cs.map fun (n : Nat) => (n : Int)).sum = ((Kv168.sum cs : Nat) : Int)
  | [] => rfl
  | c :: cs => by
    rw [List.map_cons, List.sum_cons, ints_sum cs, Tp.sum_cons, Int.natCast_add]
theorem iv_take (cs : List Nat) (g : Nat) (h : g ≤ cs.length) : cutV (iv cs) none (some (g : Int)) = ((cs.take g).map fun (n : Nat) => (n : Int)).map V.int := by
  rw [cut_to _ _ (by rw [iv_len]; exact h), ← iv_ints]
  unfold iv
  exact List.map_take.symm
theorem iv_snoc (l : List Nat) (x : Nat) : iv (l ++ [x]) = iv l ++ [V.int (x : Int)] := by simp [iv]
section
variable {P : Program} {w : World} {K : PySem.W.Frag} {mg : Str → Option Value} {base : Heap}
theorem scLet : FnScope ["start", "number", "pieces", "letters", "point", "left", "rest", "choices", "counts", "group", "piece"] ["start", "number", "pieces"] (defScope sLet) := ⟨rfl, rfl, rfl, by decide +kernel, rfl, by decide +kernel, by decide +kernel⟩
theorem ok_let {f : Addr} {fd : FuncData} (F : Fun K "letters_onward" "letters_onward" sLet f fd) (T : Txt mg) (Gch : Fc P w K mg base 2 "choices_at" ["point", "pieces"] (spCho K)) (Gbh : Fc P w K mg base 6 "count_behind" ["piece", "pieces"] (spBeh K))
    (Gg : Fc P w K mg base 1 "group_of" ["number", "counts"] (spGrp K)) (Ge : Fc P w K mg base 1 "end_of" ["piece"] (spEnd K)) (Gw : Fc P w K mg base 1 "without_piece" ["pieces", "piece"] (spWo K)) :
    FnOk P w K mg base CX0 7 f fd ["start", "number", "pieces"] (spLet K) := by
  refine F.ok scLet (fun vs H Q E h => ?_) (fun cdv Ar outer s H vs Q E hr h => ?_)
  · obtain ⟨a, b, n, ps, v, kk, rfl, _⟩ := h
    rfl
  · obtain ⟨a, b, n, ps, v, kk, rfl, ⟨rs, hl, hrs, hrow⟩, hb, hG, h64, hn, k⟩ := h
    have hr1 : Room 1 _ := hr.mono (by decide)
    have hr2 : Room 2 _ := hr.mono (by decide)
    refine ⟨_, (pss_cons (ps_set (i := 3) scLet.nd rfl (Or.inl rfl) (pe_lst pa_nil)) (pss_cons (ps_set (i := 4) scLet.nd rfl (Or.inl rfl) (pv 0)) (pss_cons (ps_set (i := 5) scLet.nd rfl (Or.inl rfl) (pv 1)) (pss_cons (ps_set (i := 6) scLet.nd rfl (Or.inr rfl) (pe_lc rfl scLet.nd (pi_list (pv 2)) (blkOk_by (own := [("piece", 10)]) (by show blkC ["start", "number", "pieces", "letters", "point", "left", "rest", "choices", "counts", "group", "piece"] (defScope sLet) _ _ = true; decide +kernel)) (fun s H C cl fp => pg_name (i := 10) scLet.nd rfl (Or.inl rfl)) (fun _ _ _ _ _ => pts_nil) (fun s H C cl fp => pe_callTy (r := rTup K) cr_tup rfl T.tuple boot_tuple (pa_cons (pv 10) pa_nil)))) (pss_cons (ps_while PassesOwn.never (pt_cmpR op_gt (pe_callB call_len_seq rfl T.len PySem.boot_len (pa_cons (pv 6) pa_nil)) pe_int (nomark _)) (pss_cons (ps_set (i := 7) scLet.nd rfl (Or.inl rfl) (pe_fc Gch hr2 rfl (pa_cons (pv 4) (pa_cons (pv 6) pa_nil)))) (pss_cons (ps_setLc (i := 8) rfl scLet.nd rfl rfl (sw_true rfl rfl rfl (by decide +kernel)) (pi_list (pv 7)) (blkOk_by (own := [("piece", 10)]) (by show blkC ["start", "number", "pieces", "letters", "point", "left", "rest", "choices", "counts", "group", "piece"] (defScope sLet) _ _ = true; decide +kernel)) (fun s H C cl fp => pg_name (i := 10) scLet.nd rfl (Or.inl rfl)) (fun _ _ _ _ _ => pts_nil) (fun s H C cl fp => pe_fc Gbh hr rfl (pa_cons (pv 10) (pa_cons (pv 6) pa_nil)))) (pss_cons (ps_set (i := 9) scLet.nd rfl (Or.inl rfl) (pe_fc Gg hr1 rfl (pa_cons (pv 5) (pa_cons (pv 8) pa_nil)))) (pss_cons (ps_aug (i := 5) scLet.nd rfl (Or.inl rfl) (pe_callB (cr_sum rfl) rfl T.sum boot_sum (pa_cons (pe_slice sl_list (pv 8) po_none (po_some (pv 9))) pa_nil)) iop_sub) (pss_cons (ps_expr (pe_bm PySem.F.plainAttrs_list PySem.F.slot_list_append PySem.F.type_list_append mt_append (pv 3) (pa_cons (pe_ix ix_tup (pe_ix ix_list (pv 7) (pv 9) (fun _ _ => rfl)) (pe_un un_neg pe_int) (fun _ _ => rfl)) pa_nil))) (pss_cons (ps_set (i := 4) scLet.nd rfl (Or.inl rfl) (pe_fc Ge hr1 rfl (pa_cons (pe_ix ix_list (pv 7) (pv 9) (fun _ _ => rfl)) pa_nil))) (pss_one (ps_set (i := 6) scLet.nd rfl (Or.inr rfl) (pe_fc Gw hr1 rfl (pa_cons (pv 6) (pa_cons (pe_ix ix_list (pv 7) (pv 9) (fun _ _ => rfl)) pa_nil)))))))))))) (pss_one (ps_ret (pv 3)))))))), ?_⟩
    refine ⟨by decide, fun L hL => ?_⟩
    have sL : Same H (upd H L (.lst [])) := Same.new hL
    refine ⟨_, rfl, _, rfl, ?_⟩
    -- rest = [tuple(piece) for piece in pieces]
    refine ⟨_, rfl, a, rfl, ⟨_, sL.seq hl⟩, fun D hD => lc_list (K := K) (a := a) (xs := rs.map V.ref) (fun i H2 => Gr (upd H L (.lst [])) H2 D (ps.take i)) (Gr.start hD) (fun i H2 _ h2 => (sL.trans h2.1).seq hl) ?_ ?_⟩
    · rintro i y H2 hi g2
      obtain ⟨r, hr', rfl⟩ := ref_of hi
      obtain ⟨p, hp, hpm⟩ := ps_at hrs hr'
      refine ⟨rfl, yes ?_⟩
      refine ⟨_, rfl, r, _, rfl, .inl ⟨(sL.trans g2.1).seq (hrow i r p hr' hp), fun q hq => ?_⟩⟩
      have := g2.more hD (Same.new (o := HO.tup (iv p)) hq) upd_same (by rw [List.length_take]; omega)
      rw [List.take_add_one, hp]
      exact this
    · rintro H1 g1
      rw [List.length_map, hrs, List.take_length] at g1
      obtain ⟨es0, tl0, e0⟩ := g1.tl (K := K)
      have sm1 : Same H H1 := sL.trans g1.1
      have hL1 : H1 L = some (.lst []) := g1.1 _ _ upd_same
      have hDL : D ≠ L := fun z => by rw [z, upd_same] at hD; cases hD
      refine ⟨(fun m σ H2 => ∃ (es : List (List Nat × Addr)) (v' ls : List Nat) (n' : Nat) (b' a' : Addr) (v7 v8 v9 : Option V), σ = [some (.ref b), some (.int n), some (.ref a), some (.ref L), some (.ref b'), some (.int n'), some (.ref a'), v7, v8, v9, none] ∧
        Same H H2 ∧ H2 L = some (.lst (iv ls)) ∧ a' ≠ L ∧ Tl K H2 a' es ∧ H2 b' = some (.tup (iv v')) ∧ Tp.Gd kk (es.map (·.1)) ∧ es.length = m ∧ m ≤ 64 ∧ ls.length + m ≤ 64 ∧ n' < Kv168.ways m (es.map (·.1)) v' ∧ ls ++ Kv168.wayOf m (es.map (·.1)) v' n' = Kv168.wayOf ps.length ps v n),
        ⟨ps.length, es0, v, [], n, b, D, none, none, none, rfl, sm1, hL1, hDL, tl0, sm1 _ _ hb, by rw [e0]; exact hG, by rw [← e0, List.length_map], h64, by simpa using h64, by rw [e0]; exact hn, by rw [e0]; rfl⟩, ?_⟩
      rintro m σ H2 ⟨es, v', ls, n', b', a', v7, v8, v9, rfl, sm2, hL2, haL, tl2, hb2, hG2, hlen, hm64, hls, hn', hw⟩
      refine ⟨_, rfl, a', _, rfl, .inl tl2.1, _, _, rfl, rfl, _, rfl, ?_⟩
      cases m with
      | zero =>
        have e : decide ((0 : Int) < (((rf es).length : Nat) : Int)) = false := decide_eq_false (by rw [List.length_map, hlen]; decide)
        show if decide _ = true then _ else _
        rw [e, if_neg Bool.false_ne_true]
        refine ⟨_, rfl, k H2 L sm2 hL ?_⟩
        rw [hL2, ← hw]
        show some (HO.lst (iv ls)) = some (HO.lst (iv (ls ++ [])))
        rw [List.append_nil]
      | succ f =>
        have e : decide ((0 : Int) < (((rf es).length : Nat) : Int)) = true := decide_eq_true (by rw [List.length_map, hlen]; omega)
        show if decide _ = true then _ else _
        rw [e, if_pos rfl]
        refine ⟨_, fun σ' H' h => h, ?_⟩
        have hk2 := hG2.two
        have hlen1 : ∀ e ∈ es, e.1.length = kk := fun e he => hG2.len e.1 (List.mem_map.mpr ⟨e, he, rfl⟩)
        -- choices = choices_at(point, rest)
        refine ⟨_, rfl, _, rfl, a', b', es, v', kk, rfl, tl2, hb2, hk2, hlen1, by omega, fun H3 C out sm3 hC0 hC3 hsub hSrt hmem hl64 => ?_⟩
        have tl3 := tl2.same sm3
        have hL3 := sm3 _ _ hL2
        have hCL : C ≠ L := fun z => by rw [z, hL2] at hC0; cases hC0
        -- counts = [count_behind(piece, rest) for piece in choices]
        refine ⟨_, rfl, C, rfl, ⟨_, SqL.of hC3⟩, fun D2 hD2 => lc_list (K := K) (a := C) (xs := rf out) (fun i H4 => Same H3 H4 ∧ H4 D2 = some (.lst (iv ((out.take i).map fun e => Tp.cnt f (es.map (·.1)) e.1))))
          ⟨Same.new hD2, upd_same⟩ (fun i H4 _ h4 => h4.1.seq (SqL.of hC3)) ?_ ?_⟩
        · rintro i y H4 hi ⟨sm4, hD4⟩
          obtain ⟨e, he, hem, rfl⟩ := rf_at hi
          have hee := hsub e hem
          refine ⟨rfl, yes ?_⟩
          refine ⟨_, rfl, _, rfl, a', e.2, es, e.1, kk, rfl, tl3.same sm4, sm4 _ _ (tl3.2 e hee), List.mem_map.mpr ⟨e, hee, rfl⟩, hG2, by omega, fun H5 sm5 => ?_⟩
          refine ⟨_, sm5 _ _ hD4, small1000 (by rw [iv_len, List.length_map, List.length_take]; omega), Same.put (sm4.trans sm5) hD2, ?_⟩
          rw [upd_same, List.take_add_one, he, List.map_append, hlen]
          exact congrArg (fun z => some (HO.lst z)) (iv_snoc _ _).symm
        · rintro H4 ⟨sm4, hD4⟩
          rw [List.length_map, List.take_length] at hD4
          have eO : (out.map fun e => Tp.cnt f (es.map (·.1)) e.1) = (out.map (·.1)).map (Tp.cnt f (es.map (·.1))) := by rw [List.map_map]; rfl
          have hsum := Tp.ways_choices (f := f) hG2 hSrt hmem
          rw [← eO] at hsum
          generalize hcs : (out.map fun e => Tp.cnt f (es.map (·.1)) e.1) = cs at hD4 hsum eO
          have hcl : cs.length = out.length := by rw [← hcs, List.length_map]
          have tl4 := tl3.same sm4
          have hL4 := sm4 _ _ hL3
          have hC4 := sm4 _ _ hC3
          -- group = group_of(left, counts)
          refine ⟨_, rfl, _, rfl, n', D2, cs, rfl, SqL.of hD4, by rw [← hsum]; exact hn', by omega, fun g hg h1 h2 => ?_⟩
          have hgo : out[g]? = some out[g] := List.getElem?_eq_getElem (by omega)
          generalize out[g] = e at hgo
          have hem := List.mem_of_getElem? hgo
          have hee := hsub e hem
          have hgt : (out.map (·.1))[g]? = some e.1 := by rw [List.getElem?_map, hgo]; rfl
          have hcg : cs[g]? = some (Tp.cnt f (es.map (·.1)) e.1) := by rw [← hcs, List.getElem?_map, hgo]; rfl
          have hen : e.1 ≠ [] := fun z => by have := hlen1 e hee; rw [z] at this; simp at this; omega
          have htk : ((out.map (·.1)).take g).map (Tp.cnt f (es.map (·.1))) = cs.take g := by rw [eO, List.map_take]
          obtain ⟨w1, w2⟩ := Tp.way_step (f := f) (n := n') hG2 hSrt hmem hgt (by rw [htk]; exact h1) (by rw [htk, ← sum_take hcg]; exact h2)
          rw [htk] at w1 w2
          -- left -= sum(counts[:group])
          refine ⟨_, rfl, _, rfl, _, rfl, _, rfl, D2, _, rfl, SqL.of hD4, fun p5 hp5 => ?_⟩
          have s5 : Same H4 (upd H4 p5 (.lst (cutV (iv cs) none (some (g : Int))))) := Same.new hp5
          have hp5' : (upd H4 p5 (.lst (cutV (iv cs) none (some (g : Int))))) p5 = some (.lst (((cs.take g).map fun (n : Nat) => (n : Int)).map V.int)) := by rw [upd_same, iv_take cs g (by omega)]
          generalize upd H4 p5 (.lst (cutV (iv cs) none (some (g : Int)))) = H5 at s5 hp5' ⊢
          refine ⟨p5, _, rfl, SqL.of hp5', _, _, rfl, rfl, ?_⟩
          have hz : ((n' : Int) - ((cs.take g).map fun (n : Nat) => (n : Int)).sum) = ((n' - Kv168.sum (cs.take g) : Nat) : Int) := by rw [ints_sum]; omega
          have hL5 := s5 _ _ hL4
          have hC5 := s5 _ _ hC4
          have tl5 := tl4.same s5
          -- letters.append(choices[group][-1])
          refine ⟨_, rfl, .inl ⟨rfl, _, SqL.of hL5⟩, _, rfl, _, rfl, C, _, _, _, rfl, rfl, SqL.of hC5, at_of (j := g) rfl (by rw [List.getElem?_map, hgo]; rfl), _, rfl, e.2, _, _, _, rfl, rfl, SqT.of (tl5.2 e hee), iv_last hen, L, _, _, rfl, rfl, hL5, small1000 (by rw [iv_len]; omega), ?_⟩
          have s6 : Same H (upd H5 L (.lst (iv ls ++ [V.int (Tp.la e.1 : Nat)]))) := Same.put (sm2.trans (sm3.trans (sm4.trans s5))) hL
          have hL6 : (upd H5 L (.lst (iv ls ++ [V.int (Tp.la e.1 : Nat)]))) L = some (.lst (iv (ls ++ [Tp.la e.1]))) := by rw [upd_same, iv_snoc]
          have ne_tup : ∀ c xs, H5 c = some (.tup xs) → c ≠ L := fun c xs h z => by rw [z, hL5] at h; cases h
          have hC6 : (upd H5 L (.lst (iv ls ++ [V.int (Tp.la e.1 : Nat)]))) C = some (.lst (rf out)) := by rw [upd_ne hCL]; exact hC5
          have tl6 : Tl K (upd H5 L (.lst (iv ls ++ [V.int (Tp.la e.1 : Nat)]))) a' es := by
            refine ⟨?_, fun q hq => by have := tl5.2 q hq; rw [upd_ne (ne_tup _ _ this)]; exact this⟩
            rcases tl5.1 with (h | ⟨o, h⟩) | h
            · exact .inl (.inl (by rw [upd_ne haL]; exact h))
            · exact .inl (.inr ⟨o, by rw [upd_ne haL]; exact h⟩)
            · exact .inr h
          generalize upd H5 L (.lst (iv ls ++ [V.int (Tp.la e.1 : Nat)])) = H6 at s6 hL6 hC6 tl6 ⊢
          -- point = end_of(choices[group])
          refine ⟨_, rfl, _, rfl, C, _, _, _, rfl, rfl, SqL.of hC6, at_of (j := g) rfl (by rw [List.getElem?_map, hgo]; rfl), e.2, e.1, rfl, .inr ⟨tl6.2 e hee, hen⟩, fun H7 q sm7 hq0 hq7 => ?_⟩
          have tl7 := tl6.same sm7
          -- rest = without_piece(rest, choices[group])
          refine ⟨_, rfl, _, rfl, _, rfl, C, _, _, _, rfl, rfl, SqL.of (sm7 _ _ hC6), at_of (j := g) rfl (by rw [List.getElem?_map, hgo]; rfl), a', e.2, es, e.1, rfl, tl7, tl7.2 e hee, List.mem_map.mpr ⟨e, hee, rfl⟩, by omega, fun H8 D8 es' sm8 hD80 hD8 he8 hsub8 => ?_⟩
          have hmem1 : e.1 ∈ es.map (·.1) := List.mem_map.mpr ⟨e, hee, rfl⟩
          have hl8 : es'.length = f := by
            have := congrArg List.length he8
            rw [List.length_map, List.length_erase_of_mem hmem1, List.length_map] at this
            omega
          have hL7 := sm7 _ _ hL6
          refine ⟨f, by omega, es', Tp.fi e.1, ls ++ [Tp.la e.1], n' - Kv168.sum (cs.take g), q, D8, _, _, _, congrArg (fun z => [some (V.ref b), some (V.int n), some (V.ref a), some (V.ref L), some (V.ref q), some (V.int z), some (V.ref D8), some (V.ref C), some (V.ref D2), some (V.int (g : Int)), none]) hz, s6.trans (sm7.trans sm8), sm8 _ _ hL7, fun z => ?_, ⟨SqL.of hD8, fun q hq => sm8 _ _ (tl7.2 q (hsub8 q hq))⟩, sm8 _ _ hq7, by rw [he8]; exact hG2.erase _, hl8, by omega, ?_, by rw [he8]; exact w2, ?_⟩
          · rw [z, hL7] at hD80; cases hD80
          · rw [List.length_append, List.length_singleton]; omega
          · rw [he8, List.append_assoc, ← hw, w1]
            rfl
end
end Pg
end
section
set_option Elab.async false
set_option linter.all false
set_option maxRecDepth 100000
set_option exponentiation.threshold 10
namespace Pg
open PySem L2 PyProof.Rows
abbrev sOf : Stmt := top 26
def spOf (K : PySem.W.Frag) : Sp := fun vs H Q _ => ∃ (a : Addr) (n : Nat) (ps : List (List Nat)) (k : Nat), vs = [.int n, .int (Kv168.many ps : Nat), .ref a] ∧ Pl K H a ps ∧ Tp.Gd k ps ∧ ps ≠ [] ∧ ps.length ≤ 64 ∧ k ≤ 48 ∧ n < Kv168.many ps ∧
  ∀ H' D t, Same H H' → H' D = some (.lst (iv t)) → Kv168.textOf ps n = some t → t.length ≤ 200 → Q (.ref D) H'
theorem wayOf_len (f : Nat) : ∀ (ps : List (List Nat)) (v : List Nat) (n : Nat), (Kv168.wayOf f ps v n).length ≤ f := by
  induction f with
  | zero => intro ps v n; rw [Kv168.wayOf]; simp
  | succ f ih =>
    intro ps v n
    rw [Tp.wayOf_pick]
    cases e : Tp.pickL (fun a => Tp.cnt f ps (v ++ [a])) (Tp.nxt ps v) n with
    | none => simp
    | some q =>
      show (q.1 :: Kv168.wayOf f _ _ q.2).length ≤ f + 1
      rw [List.length_cons]
      have := ih (ps.erase (v ++ [q.1])) (Tp.fi (v ++ [q.1])) q.2
      omega
section
variable {P : Program} {w : World} {K : PySem.W.Frag} {mg : Str → Option Value} {base : Heap}
theorem scOf : FnScope ["number", "many", "pieces", "points", "counts", "group", "piece", "point"] ["number", "many", "pieces"] (defScope sOf) := ⟨rfl, rfl, rfl, by decide +kernel, rfl, by decide +kernel, by decide +kernel⟩
theorem ok_of {f : Addr} {fd : FuncData} (F : Fun K "text_of_number" "text_of_number" sOf f fd) (T : Txt mg) (T2 : Txt2 mg) (Gb : Fc P w K mg base 1 "beginning_of" ["piece"] (spBeg K)) (Gf : Fc P w K mg base 2 "count_from" ["point", "many", "pieces"] (spFrm K))
    (Gg : Fc P w K mg base 1 "group_of" ["number", "counts"] (spGrp K)) (Gl : Fc P w K mg base 7 "letters_onward" ["start", "number", "pieces"] (spLet K)) : FnOk P w K mg base CX0 8 f fd ["number", "many", "pieces"] (spOf K) := by
  refine F.ok scOf (fun vs H Q E h => ?_) (fun cdv Ar outer s H vs Q E hr h => ?_)
  · obtain ⟨a, n, ps, kk, rfl, _⟩ := h
    rfl
  · obtain ⟨a, n, ps, kk, rfl, hPl, hG, h0, h64, h48, hn, k⟩ := h
    obtain ⟨rs, hl, hrs, hrow⟩ := id hPl
    have hr1 : Room 1 _ := hr.mono (by decide)
    have hr2 : Room 2 _ := hr.mono (by decide)
    have hk2 := hG.two
    refine ⟨_, (pss_cons (ps_set (i := 3) scOf.nd rfl (Or.inl rfl) (pe_callB (r := rSortT P w) (cr_sortT rfl) rfl T2.sorted boot_sorted (pa_cons (pe_callTy (r := rSetT P w K) (cr_setT rfl (hu8_of hr)) rfl T2.set boot_set (pa_cons (pe_lc rfl scOf.nd (pi_list (pv 2)) (blkOk_by (own := [("piece", 6)]) (by show blkC ["number", "many", "pieces", "points", "counts", "group", "piece", "point"] (defScope sOf) _ _ = true; decide +kernel)) (fun s H C cl fp => pg_name (i := 6) scOf.nd rfl (Or.inl rfl)) (fun _ _ _ _ _ => pts_nil) (fun s H C cl fp => pe_fc Gb hr1 rfl (pa_cons (pv 6) pa_nil))) pa_nil)) pa_nil))) (pss_cons (ps_setLc (i := 4) rfl scOf.nd rfl rfl (sw_true rfl rfl rfl (by decide +kernel)) (pi_list (pv 3)) (blkOk_by (own := [("point", 7)]) (by show blkC ["number", "many", "pieces", "points", "counts", "group", "piece", "point"] (defScope sOf) _ _ = true; decide +kernel)) (fun s H C cl fp => pg_name (i := 7) scOf.nd rfl (Or.inl rfl)) (fun _ _ _ _ _ => pts_nil) (fun s H C cl fp => pe_fc Gf hr2 rfl (pa_cons (pv 7) (pa_cons (pv 1) (pa_cons (pv 2) pa_nil))))) (pss_cons (ps_set (i := 5) scOf.nd rfl (Or.inl rfl) (pe_fc Gg hr1 rfl (pa_cons (pv 0) (pa_cons (pv 4) pa_nil)))) (pss_one (ps_ret (pe_op op_cat (pe_callTy call_list_of rfl T.list boot_list (pa_cons (pe_ix ix_list (pv 3) (pv 5) (fun _ _ => rfl)) pa_nil)) (pe_fc Gl hr rfl (pa_cons (pe_ix ix_list (pv 3) (pv 5) (fun _ _ => rfl)) (pa_cons (pe_op op_sub (pv 0) (pe_callB (cr_sum rfl) rfl T.sum boot_sum (pa_cons (pe_slice sl_list (pv 4) po_none (po_some (pv 5))) pa_nil))) (pa_cons (pv 2) pa_nil)))))))))), ?_⟩
    -- the beginnings
    refine ⟨_, rfl, a, rfl, ⟨_, hl⟩, fun D hD => lc_list (K := K) (a := a) (xs := rs.map V.ref) (fun i H2 => Gr H H2 D ((ps.take i).map Tp.bg)) (Gr.start hD) (fun i H2 _ h2 => h2.1.seq hl) ?_ ?_⟩
    · rintro i y H2 hi g2
      obtain ⟨r, hr', rfl⟩ := ref_of hi
      obtain ⟨p, hp, hpm⟩ := ps_at hrs hr'
      refine ⟨rfl, yes ?_⟩
      refine ⟨_, rfl, r, p, rfl, .inl (g2.1.seq (hrow i r p hr' hp)), fun H3 q sm3 hq0 hq3 => ?_⟩
      have := g2.more hD sm3 hq3 (by rw [List.length_map, List.length_take]; omega)
      rw [List.take_add_one, hp, List.map_append]
      exact this
    · rintro H1 g1
      rw [List.length_map, hrs, List.take_length] at g1
      have sm1 := g1.1
      obtain ⟨es1, tl1, e1⟩ := g1.tl (K := K)
      have l1 : es1.length ≤ 64 := by have := congrArg List.length e1; rw [List.length_map, List.length_map] at this; omega
      have hn1 : ∀ e ∈ es1, e.1.length = kk - 1 := fun e he => by
        have : e.1 ∈ es1.map (·.1) := List.mem_map.mpr ⟨e, he, rfl⟩
        rw [e1] at this
        obtain ⟨p, hp, hpe⟩ := List.mem_map.mp this
        have := hG.len p hp
        rw [← hpe]
        unfold Tp.bg
        rw [List.length_take]
        omega
      refine ⟨D, es1, rfl, tl1, l1, fun S es' hS h1 h2 h3 => ?_⟩
      have s2 : Same H1 (upd H1 S (SetO P w S es')) := Same.new hS
      have l2 : es'.length ≤ 64 := by
        have := Sb.len_le_of_sub h2 fun t ht => (h3 t).mp ht
        rw [List.length_map, List.length_map] at this
        omega
      refine ⟨S, es', kk - 1, rfl, upd_same, fun e he => ⟨s2 _ _ (tl1.2 e (h1 e he)), hn1 e (h1 e he)⟩, by omega, l2, h2, fun C out hC p1 p2 => ?_⟩
      have s3 := s2.trans (Same.new (o := HO.lst (rf out)) hC)
      have hC3 : (upd (upd H1 S (SetO P w S es')) C (.lst (rf out))) C = some (.lst (rf out)) := upd_same
      generalize upd (upd H1 S (SetO P w S es')) C (.lst (rf out)) = H3 at s3 hC3 ⊢
      have sm3 : Same H H3 := sm1.trans s3
      have hsub : ∀ e ∈ out, e ∈ es1 := fun e he => h1 e (p1.mem_iff.mp he)
      have ht3 : ∀ e ∈ out, H3 e.2 = some (.tup (iv e.1)) := fun e he => s3 _ _ (tl1.2 e (hsub e he))
      have hSrt : Tp.Srt (out.map (·.1)) := by unfold Tp.Srt; rw [List.pairwise_map]; exact p2
      have hmem : ∀ p, p ∈ out.map (·.1) ↔ p ∈ ps.map Tp.bg := fun p => by rw [(p1.map (·.1)).mem_iff, h3 p, e1]
      have lo : out.length ≤ 64 := by rw [p1.length_eq]; exact l2
      -- counts
      refine ⟨_, rfl, C, rfl, ⟨_, SqL.of hC3⟩, fun D2 hD2 => lc_list (K := K) (a := C) (xs := rf out) (fun i H4 => Same H3 H4 ∧ H4 D2 = some (.lst (iv ((out.take i).map fun e => Kv168.ways ps.length ps e.1))))
        ⟨Same.new hD2, upd_same⟩ (fun i H4 _ h4 => h4.1.seq (SqL.of hC3)) ?_ ?_⟩
      · rintro i y H4 hi ⟨sm4, hD4⟩
        obtain ⟨e, he, hem, rfl⟩ := rf_at hi
        refine ⟨rfl, yes ?_⟩
        refine ⟨_, rfl, _, rfl, _, rfl, a, e.2, ps, e.1, kk, rfl, (hPl.same (sm3.trans sm4)).pr, sm4 _ _ (ht3 e hem), hG, h0, h64, fun H5 sm5 => ?_⟩
        refine ⟨_, sm5 _ _ hD4, small1000 (by rw [iv_len, List.length_map, List.length_take]; omega), Same.put (sm4.trans sm5) hD2, ?_⟩
        rw [upd_same, List.take_add_one, he, List.map_append]
        exact congrArg (fun z => some (HO.lst z)) (iv_snoc _ _).symm
      · rintro H4 ⟨sm4, hD4⟩
        rw [List.length_map, List.take_length] at hD4
        have eO : (out.map fun e => Kv168.ways ps.length ps e.1) = (out.map (·.1)).map (Kv168.ways ps.length ps) := by rw [List.map_map]; rfl
        have hsum := Tp.many_sum hG hSrt hmem
        rw [← eO] at hsum
        generalize hcs : (out.map fun e => Kv168.ways ps.length ps e.1) = cs at hD4 hsum eO
        have hcl : cs.length = out.length := by rw [← hcs, List.length_map]
        have hC4 := sm4 _ _ hC3
        -- group
        refine ⟨_, rfl, _, rfl, n, D2, cs, rfl, SqL.of hD4, by rw [← hsum]; exact hn, by omega, fun g hg g1' g2' => ?_⟩
        have hgo : out[g]? = some out[g] := List.getElem?_eq_getElem (by omega)
        generalize out[g] = e at hgo
        have hem := List.mem_of_getElem? hgo
        have hgt : (out.map (·.1))[g]? = some e.1 := by rw [List.getElem?_map, hgo]; rfl
        have hcg : cs[g]? = some (Kv168.ways ps.length ps e.1) := by rw [← hcs, List.getElem?_map, hgo]; rfl
        have htk : ((out.map (·.1)).take g).map (Kv168.ways ps.length ps) = cs.take g := by rw [eO, List.map_take]
        obtain ⟨w1, w2⟩ := Tp.text_step (n := n) hG hSrt hmem hgt (by rw [htk]; exact g1') (by rw [htk, ← sum_take hcg]; exact g2')
        rw [htk] at w1 w2
        have te4 := sm4 _ _ (ht3 e hem)
        -- list(points[group])
        refine ⟨_, rfl, _, rfl, C, _, _, _, rfl, rfl, SqL.of hC4, at_of (j := g) rfl (by rw [List.getElem?_map, hgo]; rfl), e.2, _, rfl, .inr (SqT.of te4), fun l hl5 => ?_⟩
        have s5 : Same H4 (upd H4 l (.lst (iv e.1))) := Same.new hl5
        have hl5' : (upd H4 l (.lst (iv e.1))) l = some (.lst (iv e.1)) := upd_same
        generalize upd H4 l (.lst (iv e.1)) = H5 at s5 hl5' ⊢
        -- letters_onward(..)
        refine ⟨_, rfl, _, rfl, C, _, _, _, rfl, rfl, SqL.of (s5 _ _ hC4), at_of (j := g) rfl (by rw [List.getElem?_map, hgo]; rfl), _, rfl, _, rfl, _, rfl, _, rfl, D2, _, rfl, SqL.of (s5 _ _ hD4), fun p6 hp6 => ?_⟩
        have s6 : Same H5 (upd H5 p6 (.lst (cutV (iv cs) none (some (g : Int))))) := Same.new hp6
        have hp6' : (upd H5 p6 (.lst (cutV (iv cs) none (some (g : Int))))) p6 = some (.lst (((cs.take g).map fun (n : Nat) => (n : Int)).map V.int)) := by rw [upd_same, iv_take cs g (by omega)]
        generalize upd H5 p6 (.lst (cutV (iv cs) none (some (g : Int)))) = H6 at s6 hp6' ⊢
        have hz : ((n : Int) - ((cs.take g).map fun (n : Nat) => (n : Int)).sum) = ((n - Kv168.sum (cs.take g) : Nat) : Int) := by rw [ints_sum]; omega
        have sm6 : Same H H6 := sm3.trans (sm4.trans (s5.trans s6))
        refine ⟨p6, _, rfl, SqL.of hp6', _, _, rfl, rfl, _, rfl, a, e.2, n - Kv168.sum (cs.take g), ps, e.1, kk, congrArg (fun z => [V.ref e.2, V.int z, V.ref a]) hz, hPl.same sm6, s6 _ _ (s5 _ _ te4), hG, h64, w2, fun H7 D7 sm7 hD70 hD7 => ?_⟩
        have hlv : e.1.length ≤ 48 := by have := hn1 e (hsub e hem); omega
        have hlw := wayOf_len ps.length ps e.1 (n - Kv168.sum (cs.take g))
        refine ⟨l, D7, _, _, rfl, rfl, sm7 _ _ (s6 _ _ hl5'), hD7, ?_, fun r hr8 => k _ r (e.1 ++ Kv168.wayOf ps.length ps e.1 (n - Kv168.sum (cs.take g))) (sm6.trans (sm7.trans (Same.new hr8))) ?_ w1 ?_⟩
        · rw [iv_len, iv_len, sizeLine_eq]; omega
        · rw [upd_same]
          exact congrArg (fun z => some (HO.lst z)) List.map_append.symm
        · rw [List.length_append]; omega
end
end Pg
end
section
set_option Elab.async false
set_option linter.all false
set_option maxRecDepth 100000
set_option exponentiation.threshold 10
namespace Pg
open PySem L2 PyProof.Rows
abbrev sText : Stmt := top 7
/-- what tp_text owes -/
def owed (k n : Nat) (ps : List (List Nat)) : List Int := if (Kv168.okSize ps.length k && ps.all Kv168.isText) = true then (match Kv168.textOf ps n with | some t => 0 :: t.map fun (x : Nat) => (x : Int) | none => [-33]) else [-22]
def spText (K : PySem.W.Frag) : Sp := fun vs H Q _ => ∃ (a : Addr) (k n : Nat) (ps : List (List Nat)), vs = [.int k, .int n, .ref a] ∧ Pl K H a ps ∧ ps.length ≤ 70 ∧ (Kv168.okSize ps.length k = true → ∀ p ∈ ps, p.length = k) ∧
  ∀ H' D ns, H' D = some (.lst (ns.map V.int)) → ns = owed k n ps → Q (.ref D) H'
section
variable {P : Program} {w : World} {K : PySem.W.Frag} {mg : Str → Option Value} {base : Heap}
theorem scText : FnScope ["k", "number", "pieces", "many"] ["k", "number", "pieces"] (defScope sText) := ⟨rfl, rfl, rfl, by decide +kernel, rfl, by decide +kernel, by decide +kernel⟩
theorem ok_text {f : Addr} {fd : FuncData} (F : Fun K "tp_text" "tp_text" sText f fd) (T : Txt mg) (T2 : Txt2 mg) (Gt : Fc P w K mg base 2 "pieces_are_as_told" ["k", "pieces"] (spTold K)) (Gs : Fc P w K mg base 3 "street_table" ["pieces"] (spTab K))
    (Gc : Fc P w K mg base 5 "count_texts" ["streets"] (spTexts K)) (Go : Fc P w K mg base 8 "text_of_number" ["number", "many", "pieces"] (spOf K)) : FnOk P w K mg base CX0 9 f fd ["k", "number", "pieces"] (spText K) := by
  refine F.ok scText (fun vs H Q E h => ?_) (fun cdv Ar outer s H vs Q E hr h => ?_)
  · obtain ⟨a, k, n, ps, rfl, _⟩ := h
    rfl
  · obtain ⟨a, kk, n, ps, rfl, hPl, h70, hlen, k⟩ := h
    obtain ⟨u1, m1, r1⟩ := T.notTold
    obtain ⟨u2, m2, r2⟩ := T2.noSuch
    have hr2 : Room 2 _ := hr.mono (by decide)
    have hr3 : Room 3 _ := hr.mono (by decide)
    have hr5 : Room 5 _ := hr.mono (by decide)
    refine ⟨_, pss_cons (ps_if (pt_not (pt_val (pe_fc Gt hr2 rfl (pa_cons (pv 0) (pa_cons (pv 2) pa_nil))))) (pss_one (ps_ret (pe_lst (pa_cons (pe_glob rfl m1 r1) pa_nil)))) pss_nil)
      (pss_cons (ps_set (i := 3) scText.nd rfl (Or.inl rfl) (pe_fc Gc hr5 rfl (pa_cons (pe_fc Gs hr3 rfl (pa_cons (pv 2) pa_nil)) pa_nil)))
      (pss_cons (ps_if (pt_cmpR op_ge (pv 1) (pv 3) (nomark _)) (pss_one (ps_ret (pe_lst (pa_cons (pe_glob rfl m2 r2) pa_nil)))) pss_nil)
      (pss_one (ps_ret (pe_op op_cat (pe_lst (pa_cons pe_int pa_nil)) (pe_fc Go hr rfl (pa_cons (pv 1) (pa_cons (pv 3) (pa_cons (pv 2) pa_nil))))))))), ?_⟩
    refine ⟨_, rfl, _, rfl, a, kk, ps, rfl, hPl, h70, fun ho p hp e => ?_, fun H1 sm1 => ⟨_, rfl, ?_⟩⟩
    · have h1 := hlen ho p hp
      have h2 := (Tp.okSize_iff.mp ho).2.1
      rw [e] at h1
      simp at h1
      omega
    · refine ite2 (fun hb => ?_) (fun hb => ?_)
      · have hb' : (Kv168.okSize ps.length kk && ps.all Kv168.isText) = false := by
          cases e : (Kv168.okSize ps.length kk && ps.all Kv168.isText) with
          | false => rfl
          | true => rw [e] at hb; exact absurd hb (by decide)
        refine ⟨by decide, fun D hD => k _ D [-22] upd_same ?_⟩
        unfold owed
        rw [hb', if_neg Bool.false_ne_true]
      · have hb' : (Kv168.okSize ps.length kk && ps.all Kv168.isText) = true := by
          cases e : (Kv168.okSize ps.length kk && ps.all Kv168.isText) with
          | true => rfl
          | false => rw [e] at hb; exact absurd rfl hb
        have hb2 := Bool.and_eq_true_iff.mp hb'
        have hsz := Tp.okSize_iff.mp hb2.1
        have hla := hlen hb2.1
        have hal : ∀ p ∈ ps, ∀ x ∈ p, x < 4 := (Tp.good_iff.mp (show Kv168.good ps.length kk ps = true from hb')).2
        have hG : Tp.Gd kk ps := ⟨hsz.2.1, hla, hal⟩
        have h0 : ps ≠ [] := fun e => by rw [e] at hsz; simp at hsz
        refine ⟨_, rfl, a, ps, rfl, (hPl.same sm1).pr, by omega, fun H2 D sm2 hM => ?_⟩
        refine ⟨D, Tp.np ps, _, rfl, hM, Tp.np_pos h0, by have := Tp.np_le ps; omega, by rw [Tp.tot_ps]; omega, fun x hx => Tp.touched hx, fun H3 sm3 => ?_⟩
        have hmany := Tp.many_ps hsz.2.1 h0 hla hal
        rw [← hmany]
        refine ⟨_, rfl, _, rfl, _, _, rfl, rfl, _, rfl, ?_⟩
        refine ite2 (fun h => ?_) (fun h => ?_)
        · have h := of_decide_eq_true h
          refine ⟨by decide, fun D2 hD2 => k _ D2 [-33] upd_same ?_⟩
          unfold owed
          rw [if_pos hb', Tp.text_none (by omega)]
        · have h : ¬ (((Kv168.many ps : Nat) : Int) ≤ (n : Int)) := fun q => h (decide_eq_true q)
          refine ⟨by decide, fun D2 hD2 => ?_⟩
          have s4 : Same H3 (upd H3 D2 (.lst [V.int 0])) := Same.new hD2
          have sm4 : Same H (upd H3 D2 (.lst [V.int 0])) := sm1.trans (sm2.trans (sm3.trans s4))
          refine ⟨_, rfl, _, rfl, _, rfl, a, n, ps, kk, rfl, hPl.same sm4, hG, h0, by omega, by omega, by omega, fun H5 D5 t sm5 hD5 ht htl => ?_⟩
          refine ⟨D2, D5, _, _, rfl, rfl, sm5 _ _ upd_same, hD5, ?_, fun r hr6 => k _ r (0 :: t.map fun (x : Nat) => (x : Int)) ?_ ?_⟩
          · rw [iv_len, sizeLine_eq]
            show 1 + t.length ≤ _
            omega
          · rw [upd_same, iv_ints]
            rfl
          · unfold owed
            rw [if_pos hb', ht]
end
end Pg
namespace Tp
open Kv168
theorem due_text {k number : Int} {pieces : List (List Int)} :
    PyKv168.tp_text k number pieces = if good pieces.length k.toNat (Kv168Neutral.piecesOf (pieces.map Kv168Neutral.nats) k.toNat) then (match textOf (Kv168Neutral.piecesOf (pieces.map Kv168Neutral.nats) k.toNat) number.toNat with | some t => 0 :: t.map fun (x : Nat) => (x : Int) | none => [-33]) else [-22] := by
  have e : PyKv168.tp_text k number pieces = Kv168Neutral.row (ans (.text (Kv168Neutral.piecesOf (pieces.map Kv168Neutral.nats) k.toNat) (pieces.map Kv168Neutral.nats).length k.toNat number.toNat)) := rfl
  rw [e, List.length_map]
  have e2 : ∀ (ps : List Text) (n k x : Nat), ans (.text ps n k x) = if good n k ps then (match textOf ps x with | some t => { value := 0, text := some t } | none => no EDOM) else no EINVAL := fun _ _ _ _ => rfl
  rw [e2]
  by_cases h : good pieces.length k.toNat (Kv168Neutral.piecesOf (pieces.map Kv168Neutral.nats) k.toNat) = true
  · rw [if_pos h, if_pos h]
    cases textOf (Kv168Neutral.piecesOf (pieces.map Kv168Neutral.nats) k.toNat) number.toNat with
    | none => rfl
    | some t => rfl
  · rw [if_neg h, if_neg h]
    rfl
theorem asked_text {k number : Int} {pieces : List (List Int)} (h : PyKv168.tp_text_asked k number pieces = true) (hs : okSize pieces.length k.toNat = true) : ∀ p ∈ pieces, p.length = k.toNat := by
  unfold PyKv168.tp_text_asked Kv168Neutral.asked Kv168Neutral.askedOne at h
  simp only [Bool.and_eq_true] at h
  have h2 : Kv168Neutral.askedCall (.text (Kv168Neutral.piecesOf (pieces.map Kv168Neutral.nats) k.toNat) (pieces.map Kv168Neutral.nats).length k.toNat number.toNat) = true := h.2
  have h3 : (decide ((pieces.map Kv168Neutral.nats).length < 2 ^ 32 ∧ k.toNat < 2 ^ 32 ∧ number.toNat < 2 ^ 256) && Kv168Neutral.piecesOk (pieces.map Kv168Neutral.nats).length k.toNat (Kv168Neutral.piecesOf (pieces.map Kv168Neutral.nats) k.toNat)) = true := h2
  simp only [Bool.and_eq_true] at h3
  have h4 := h3.2
  unfold Kv168Neutral.piecesOk Kv168Neutral.piecesOf at h4
  rw [List.length_map, if_pos hs] at h4
  simp only [Bool.and_eq_true, List.all_eq_true] at h4
  intro p hp
  have := (h4.2 (Kv168Neutral.nats p) (List.mem_map.mpr ⟨p, hp, rfl⟩)).1
  simpa [Kv168Neutral.nats] using this
end Tp
end
section
set_option Elab.async false
set_option linter.all false
set_option maxRecDepth 100000
namespace Hd
open PySem PySem.Spec PyProof.Rows L2

/-! ### a spec's call, from the promise of its def -/
/-- a plain list of the heap that is none of the module's -/
def PlainAt (K : PySem.W.Frag) (h : Heap) (a : Addr) (q : Obj × List V) : Prop :=
  K.lookup a = none ∧ q.2.length ≤ sizeLine ∧ h.get? a = some q.1 ∧ ∃ (its : List Value) (n : Nat), Vals q.2 its ∧ q.1 = { cls := .type "list", data := .seq its.toArray n }
open Classical in
/-- all plain lists of the heap, known to the object -/
noncomputable def frozen (K : PySem.W.Frag) (h : Heap) : Hp := fun a => if e : ∃ q, PlainAt K h a q then some (.frz e.choose.1 (.lst e.choose.2)) else none
theorem frozen_of {K : PySem.W.Frag} {h : Heap} {a : Addr} {o : HO} (e : frozen K h a = some o) : ∃ q, PlainAt K h a q ∧ o = .frz q.1 (.lst q.2) := by
  unfold frozen at e
  split at e
  · rename_i hx
    exact ⟨hx.choose, hx.choose_spec, (Option.some.inj e).symm⟩
  · cases e
theorem frozen_at {K : PySem.W.Frag} {h : Heap} {a : Addr} {ob : Obj} {xs : List V} (p : PlainAt K h a (ob, xs)) : frozen K h a = some (.frz ob (.lst xs)) := by
  have hx : ∃ q, PlainAt K h a q := ⟨_, p⟩
  unfold frozen
  rw [dif_pos hx]
  obtain ⟨h1, h2, h3, its, n, h4, h5⟩ := hx.choose_spec
  obtain ⟨p1, p2, p3, its', n', p4, p5⟩ := p
  have e1 : hx.choose.1 = ob := Option.some.inj (h3.symm.trans p3)
  have e2 : its = its' := by
    have e3 := h5.symm.trans (e1.trans p5)
    have e4 := congrArg Obj.data e3
    have e5 : its.toArray = its'.toArray := by injection e4
    have e6 := congrArg Array.toList e5
    simpa using e6
  subst e2
  have e3 : hx.choose.2 = xs := Vals.inj h4 p4
  rw [e1, e3]
theorem seq_at {K : PySem.W.Frag} {h : Heap} (KX : K.In h) {a : Addr} {its : List Value} {xs : List V} (e : h.get? a = some { cls := .type "list", data := .seq its.toArray }) (r : Vals xs its) (hl : xs.length ≤ sizeLine) : SqL K (frozen K h) a xs := by
  cases q : K.lookup a with
  | none => exact .inl (.inr ⟨_, frozen_at ⟨q, hl, e, its, _, r, rfl⟩⟩)
  | some o =>
    have e2 := KX a o q
    rw [e] at e2
    cases e2
    refine .inr ⟨_, its.toArray, _, q, rfl, rfl, rfl, ?_, by simpa using r⟩
    rw [List.size_toArray, ← r.length]
    exact hl
theorem reads_ints {R : PySem.W.WRecords} {cl : Str → Option Addr} {h : Heap} : ∀ {ns : List Int} {us : List Value}, Vals (ns.map V.int) us → PySem.W.ReadsAllW R cl h us (ns.map PySem.W.WData.int) []
  | [], _, .nil => .nil
  | n :: ns, _, .cons r t => by
    obtain ⟨k, rfl⟩ := r
    exact .cons (as := []) (bs := []) (.int n k) (reads_ints t)
theorem pre_dec {r : PySem.W.OpenSpec} {args : List PySem.W.WData} (h : r.pre args = true) : ∃ a, PySem.W.Codec.decAll r.args args = some a ∧ PySem.W.Codec.app r.args r.asked a = true := by
  unfold PySem.W.OpenSpec.pre at h
  cases e : PySem.W.Codec.decAll r.args args with
  | none => rw [e] at h; cases h
  | some a =>
    rw [e] at h
    exact ⟨a, rfl, h⟩
theorem post_dec {r : PySem.W.OpenSpec} {args : List PySem.W.WData} {a : PySem.W.Codec.denoteAll r.args} {d : PySem.W.WData} (e : PySem.W.Codec.decAll r.args args = some a) (h : d = r.ret.enc (PySem.W.Codec.app r.args r.f a)) : r.post args d = true := by
  unfold PySem.W.OpenSpec.post
  rw [e, h]
  exact PySem.W.same_self _
/-- what the arguments are, by values -/
def Given (K : PySem.W.Frag) (H : Hp) (P : Params) (h : Heap) : Prop := ∀ (a : Addr) (its : List Value) (xs : List V), h.get? a = some { cls := .type "list", data := .seq its.toArray } → Vals xs its → xs.length ≤ sizeLine → SqL K H a xs
theorem spec_walk {r : PySem.W.OpenSpec} {q : Program} {loose : List Str} {XP : (Str → Option Value) → Heap → Prop} {YP : World → Heap → Prop} {d : DefRec} {K : Params → PySem.W.Frag} {k : Nat} {xs : List Str} {sp : PySem.W.Frag → Sp}
    (hdf : d.params.defaults = []) (hr : Room k callerA) (hY : ∀ (w : World) (h : Heap), YP w h → (K w.params).In h)
    (F : ∀ (w : World) (mg : Str → Option Value) (fa : Addr) (h : Heap), (K w.params).In h → h.Ns mainGlobals mg → mg d.name = some (.ref fa) →
      ∃ fd : FuncData, Binds (K w.params) fd xs [] ∧ ∀ base : Heap, (K w.params).In base → base.Ns mainGlobals mg → FnOk r.prog w (K w.params) mg base CX0 k fa fd xs (sp (K w.params)))
    (hsp : ∀ (K : PySem.W.Frag) (P : Params) (h : Heap) (H : Hp) (args : List PySem.W.WData) (vals : List Value), r.pre args = true → PySem.W.WellAll P h vals args → Given K H P h →
      ∃ vs, Vals vs vals ∧ vs.length = xs.length ∧ sp K vs H (fun v H' => ∃ (D : Addr) (ns : List Int), v = .ref D ∧ H' D = some (.lst (ns.map V.int)) ∧ r.post args (.list (ns.map PySem.W.WData.int)) = true) E0) :
    PySem.W.WalkOS q loose XP YP r d [] (fun f vs => PySem.call f vs) := by
  intro w s₀ s₁ mg mb G Y fa o pm cd doc dV kV ho hd hcd hD hmg hg args vals as hpre hlay hrd hwl hlo
  have KX := hY w _ Y
  obtain ⟨fd, hb, hF⟩ := F w mg fa _ KX G.T.g hmg
  have hok : HOk r.prog w (frozen (K w.params) s₁.heap) s₁.heap := fun b u z => by
    obtain ⟨⟨ob, ys⟩, ⟨h1, h2, h3, its, n, h4, h5⟩, rfl⟩ := frozen_of z
    refine ⟨h3, h2, its, n, h4, ?_⟩
    rw [h3]
    exact congrArg some h5
  obtain ⟨vs, rv, hlen, hS⟩ := hsp (K w.params) w.params s₁.heap (frozen (K w.params) s₁.heap) args vals hpre hwl fun a its ys e r hl => seq_at KX e r hl
  have base_of : ∀ {b : Addr} {o : Obj}, s₁.heap.get? b = some o → frozen (K w.params) s₁.heap b = none → (hidT s₁.heap (frozen (K w.params) s₁.heap)).get? b = some o := fun e n => hidT_get e n
  have noA : ∀ {b : Addr} {o : Obj} {es : Array DictEntry} {ep : Nat}, s₁.heap.get? b = some o → o.data = .dict es ep → frozen (K w.params) s₁.heap b = none := fun {b o es ep} e dd => by
    cases z : frozen (K w.params) s₁.heap b with
    | none => rfl
    | some u =>
      obtain ⟨⟨ob, ys⟩, ⟨h1, h2, h3, its, n, h4, h5⟩, rfl⟩ := frozen_of z
      have e1 : o = ob := Option.some.inj (e.symm.trans h3)
      have h5 : ob = { cls := .type "list", data := .seq its.toArray n } := h5
      rw [e1, h5] at dd
      cases dd
  have nsK : ∀ {b : Addr} {m : Str → Option Value}, s₁.heap.Ns b m → (hidT s₁.heap (frozen (K w.params) s₁.heap)).Ns b m := fun {b m} ⟨o, es, ep, e, dd, rr⟩ => ⟨o, es, ep, base_of e (noA e dd), dd, rr⟩
  have hKb : (K w.params).In (hidT s₁.heap (frozen (K w.params) s₁.heap)) := fun b o e => base_of (KX b o e) (by
    cases z : frozen (K w.params) s₁.heap b with
    | none => rfl
    | some u =>
      obtain ⟨⟨ob, ys⟩, ⟨h1, _⟩, rfl⟩ := frozen_of z
      rw [h1] at e
      cases e)
  have hlim := G.T.nolimit
  have hM : Mod (K w.params) mg (hidT s₁.heap (frozen (K w.params) s₁.heap)) := ⟨hKb, nsK G.T.g, ⟨mb, nsK G.T.b, G.T.builtins⟩, let ⟨mc, h1, h2⟩ := hlim; ⟨mc, nsK h1, h2⟩⟩
  have e0 : Env0 r.prog w (K w.params) mg (hidT s₁.heap (frozen (K w.params) s₁.heap)) callerA [] s₁ (frozen (K w.params) s₁.heap) :=
    ⟨rfl, hM, fun b o e => of_hidT e, Nat.le_of_eq (hidT_size _ _), trivial, fun b hb => absurd (show b ∈ ([] : List Addr) from hb) (by simp), hok, .of_eq hg⟩
  have hbd : BindsTo s₁ fd ⟨vals, []⟩ (xs.zip vals) := by
    have := hb s₁ vals KX (by rw [List.append_nil, ← rv.length, hlen])
    simpa using this
  refine PySem.W.enter_call (codeAny_mono ((hF _ hKb (nsK G.T.g)).run callerA [] s₁ (frozen (K w.params) s₁.heap) ⟨vals, []⟩ vals vs _ _ hr e0 hbd rv hS) fun rr s' h => ?_)
  cases rr with
  | error e => exact h.elim
  | ok fl =>
    cases fl with
    | next => exact h.elim
    | brk => exact h.elim
    | cont => exact h.elim
    | ret u =>
      obtain ⟨v, H', os, bare, un, hok', r', D, ns, rfl, hD', hpost⟩ := h
      obtain rfl : u = Value.ref D := r'
      obtain ⟨hz, its, n, rits, hget⟩ := hok' D _ hD'
      refine ⟨.inl ⟨.ref D, .list (ns.map PySem.W.WData.int), [D], rfl, fun _ => rfl, .list hget rfl rfl (by simpa using reads_ints rits), hpost, fun hu => absurd hu Bool.false_ne_true⟩, ?_, os, bare⟩
      refine .of_keep fun b o e => ?_
      cases z : frozen (K w.params) s₁.heap b with
      | none => exact un.keep b o e z (by intro y; exact absurd (show b ∈ ([] : List Addr) from y) (by simp)) (by simp)
      | some uu =>
        obtain ⟨⟨ob, ys⟩, ⟨h1, h2, h3, _⟩, rfl⟩ := frozen_of z
        have z2 := un.frzs b ob _ z
        obtain ⟨e2, _⟩ := hok' b _ z2
        rw [e] at h3
        cases h3
        exact e2
end Hd
end
section
set_option Elab.async false
set_option linter.all false
set_option maxRecDepth 100000
namespace Pg
open PySem L2 PyProof.Rows
/-- a def of the text as the top has made it -/
structure Dn (K : PySem.W.Frag) (x : Str) (st : Stmt) (f : Addr) : Prop where
  at_ : PySem.W.nsIn K mainGlobals x = some (some (.ref f))
  fn : ∃ fd, Fun K x x st f fd
theorem dn_mk {K : PySem.W.Frag} {x : Str} {st : Stmt} {f : Addr} {oc : Value} {od an : Option Addr} {osl : Array (Option Value)} {kV doc pm cdv ct : Value} (a : PySem.W.nsIn K mainGlobals x = some (some (.ref f)))
    (l : K.lookup f = some ⟨oc, od, .func (PySem.W.fnOf x x (defArgs st) (defBody st) (defScope st) .none kV doc pm an cdv ct), osl⟩) (c : PySem.W.codeIn K cdv x = true) (k : PySem.W.keepIn K (.ref f) = true) : Dn K x st f :=
  ⟨a, _, fun_mk l c k⟩
theorem Dn.fc {P : Program} {w : World} {K : PySem.W.Frag} {mg : Str → Option Value} {base h : Heap} {x : Str} {st : Stmt} {f : Addr} {k : Nat} {ps : List Str} {sp : Sp} (D : Dn K x st f) (X : K.In h) (G : h.Ns mainGlobals mg)
    (hb : ∀ (kV doc pm : Value) (an : Option Addr) (cdv ct : Value) (us : List Value), us.length = ps.length → bindArgs (PySem.W.fnOf x x (defArgs st) (defBody st) (defScope st) .none kV doc pm an cdv ct) ⟨us, []⟩ = pure (ps.zip us))
    (F : ∀ fd, Fun K x x st f fd → FnOk P w K mg base CX0 k f fd ps sp) : Fc P w K mg base k x ps sp := by
  obtain ⟨fd, hf⟩ := D.fn
  exact ⟨f, fd, F fd hf, PySem.W.mg_of X G D.at_, hf.kp, hf.binds hb⟩
theorem iv_nats {p : List Int} (h : ∀ z ∈ p, 0 ≤ z) : iv (Kv168Neutral.nats p) = p.map V.int := by
  unfold iv Kv168Neutral.nats
  rw [List.map_map]
  refine List.map_congr_left fun z hz => ?_
  show V.int ((z.toNat : Nat) : Int) = V.int z
  rw [Int.toNat_of_nonneg (h z hz)]
end Pg
end
section
set_option Elab.async false
set_option linter.all false
set_option maxRecDepth 100000
namespace Pg
open PySem L2 PyProof.Rows
/-! ### what is handed in -/
open PySem.W in
theorem rows_of {K : PySem.W.Frag} {P : Params} {h : Heap} {H : Hp} (g : Hd.Given K H P h) : ∀ {pieces : List (List Int)} {us : List Value}, WellAll P h us (pieces.map fun p => WData.list (p.map WData.int)) → (∀ p ∈ pieces, p.length ≤ 60) →
    ∃ rs : List Addr, us = rs.map Value.ref ∧ rs.length = pieces.length ∧ ∀ (i : Nat) (r : Addr) (p : List Int), rs[i]? = some r → pieces[i]? = some p → SqL K H r (p.map V.int)
  | [], _, .nil, _ => ⟨[], rfl, rfl, fun i r p h => by simp at h⟩
  | p :: pieces, _, .cons w1 w2, hl => by
    obtain ⟨rs, e, el, hr⟩ := rows_of g w2 fun q hq => hl q (by simp [hq])
    cases w1 with
    | list ho hall =>
      rename_i a vs
      have hi := Att.ints_of_wellAll p vs hall
      refine ⟨a :: rs, by rw [e]; rfl, by simp [el], fun i r q h1 h2 => ?_⟩
      cases i with
      | zero =>
        have e1 : a = r := Option.some.inj h1
        have e2 : p = q := Option.some.inj h2
        subst e1; subst e2
        exact g a vs _ ho (vals_ints hi) (by rw [List.length_map]; exact Nat.le_of_lt (small1000 (by have := hl p (by simp); omega)))
      | succ j => exact hr j r q h1 h2
theorem vals_refs : ∀ rs : List Addr, Vals (rs.map V.ref) (rs.map Value.ref)
  | [] => .nil
  | _ :: rs => .cons rfl (vals_refs rs)
/-- pieces within their bounds are pieces that can be read -/
theorem pl_of {K : PySem.W.Frag} {P : Params} {h : Heap} {H : Hp} (g : Hd.Given K H P h) {pieces : List (List Int)} {a : Addr} {us : List Value} (ho : h.get? a = some { cls := .type "list", data := .seq us.toArray })
    (hall : PySem.W.WellAll P h us (pieces.map fun p => PySem.W.WData.list (p.map PySem.W.WData.int))) (h70 : pieces.length ≤ 70) (h60 : ∀ p ∈ pieces, p.length ≤ 60) (h0 : ∀ p ∈ pieces, ∀ z ∈ p, 0 ≤ z) : Pl K H a (pieces.map Kv168Neutral.nats) := by
  obtain ⟨rs, e, el, hr⟩ := rows_of g hall h60
  subst e
  refine ⟨rs, g a _ _ ho (vals_refs rs) (by rw [List.length_map, el]; exact Nat.le_of_lt (small1000 (by omega))), by rw [List.length_map]; exact el, fun i r p h1 h2 => ?_⟩
  rw [List.getElem?_map] at h2
  cases e2 : pieces[i]? with
  | none => rw [e2] at h2; cases h2
  | some q =>
    rw [e2] at h2
    have e3 : Kv168Neutral.nats q = p := Option.some.inj h2
    rw [← e3, iv_nats (h0 q (List.mem_of_getElem? e2))]
    exact hr i r q h1 e2
open PySem.W in
theorem bounds_of {pieces : List (List Int)} (h : Codec.inList 0 70 (Codec.inList 0 60 (Codec.inInt 0 255)) pieces = true) : pieces.length ≤ 70 ∧ ∀ p ∈ pieces, p.length ≤ 60 ∧ ∀ z ∈ p, 0 ≤ z := by
  unfold Codec.inList Codec.inLen Codec.inNat at h
  simp only [Bool.and_eq_true, decide_eq_true_eq, List.all_eq_true] at h
  refine ⟨h.1.2, fun p hp => ⟨(h.2 p hp).1.2, fun z hz => ?_⟩⟩
  have := (h.2 p hp).2 z hz
  unfold Codec.inInt at this
  simp only [Bool.and_eq_true, decide_eq_true_eq] at this
  exact this.1
end Pg
end
section
set_option Elab.async false
set_option linter.all false
set_option maxRecDepth 100000
namespace Pg
open PySem L2 PyProof.Rows
theorem all_mk {P : Program} {w : World} {K : PySem.W.Frag} {h : Heap} {mg : Str → Option Value} {fa f0 f1 f2 f3 f4 f5 f6 f7 f8 f9 f10 f11 f12 f13 f14 f15 f16 f17 f18 f19 f20 f21 f22 f23 f24 f25 : Addr} {u0 u1 u2 u3 u4 u5 : Value} (X : K.In h) (G : h.Ns mainGlobals mg) (hfa : mg "tp_text" = some (.ref fa))
    (d0 : Dn K "tp_text" sText f0)
    (d1 : Dn K "pieces_are_as_told" sTold f1)
    (d2 : Dn K "length_is_as_told" sLen f2)
    (d3 : Dn K "amount_is_as_told" sAmt f3)
    (d4 : Dn K "letters_are_as_told" sLtr f4)
    (d5 : Dn K "beginning_of" sBeg f5)
    (d6 : Dn K "end_of" sEnd f6)
    (d7 : Dn K "number_points" sNum f7)
    (d8 : Dn K "street_table" sTab f8)
    (d9 : Dn K "count_texts" sTexts f9)
    (d10 : Dn K "surplus_at" sSurplus f10)
    (d11 : Dn K "count_streets" sStreets f11)
    (d12 : Dn K "with_street" sWith f12)
    (d13 : Dn K "count_rounds" sRounds f13)
    (d14 : Dn K "count_swaps" sSwaps f14)
    (d15 : Dn K "count_trees" sTrees f15)
    (d16 : Dn K "tree_determinant" sDet f16)
    (d17 : Dn K "reduced_row" sRed f17)
    (d18 : Dn K "factorial" sFac f18)
    (d19 : Dn K "text_of_number" sOf f19)
    (d20 : Dn K "letters_onward" sLet f20)
    (d21 : Dn K "choices_at" sCho f21)
    (d22 : Dn K "group_of" sGrp f22)
    (d23 : Dn K "count_behind" sBeh f23)
    (d24 : Dn K "count_from" sFrm f24)
    (d25 : Dn K "without_piece" sWo f25)
    (c0 : PySem.W.nsIn K mainGlobals "NOT_AS_TOLD" = some (some u0)) (r0 : RelV (.int (-22)) u0)
    (c1 : PySem.W.nsIn K mainGlobals "NO_SUCH_NUMBER" = some (some u1)) (r1 : RelV (.int (-33)) u1)
    (c2 : PySem.W.nsIn K mainGlobals "MOST_PIECES" = some (some u2)) (r2 : RelV (.int (64)) u2)
    (c3 : PySem.W.nsIn K mainGlobals "LEAST_LENGTH" = some (some u3)) (r3 : RelV (.int (2)) u3)
    (c4 : PySem.W.nsIn K mainGlobals "MOST_LENGTH" = some (some u4)) (r4 : RelV (.int (48)) u4)
    (c5 : PySem.W.nsIn K mainGlobals "MOST_LETTER" = some (some u5)) (r5 : RelV (.int (3)) u5)
    (z0 : PySem.W.nsIn K mainGlobals "len" = some none)
    (z1 : PySem.W.nsIn K mainGlobals "sum" = some none)
    (z2 : PySem.W.nsIn K mainGlobals "range" = some none)
    (z3 : PySem.W.nsIn K mainGlobals "max" = some none)
    (z4 : PySem.W.nsIn K mainGlobals "all" = some none)
    (z5 : PySem.W.nsIn K mainGlobals "abs" = some none)
    (z6 : PySem.W.nsIn K mainGlobals "tuple" = some none)
    (z7 : PySem.W.nsIn K mainGlobals "list" = some none)
    (z8 : PySem.W.nsIn K mainGlobals "set" = some none)
    (z9 : PySem.W.nsIn K mainGlobals "sorted" = some none)
    : ∃ fd : FuncData, Binds K fd ["k", "number", "pieces"] [] ∧ ∀ base : Heap, K.In base → base.Ns mainGlobals mg → FnOk P w K mg base CX0 9 fa fd ["k", "number", "pieces"] (spText K) := by
  have e := hfa.symm.trans (PySem.W.mg_of X G d0.at_)
  cases e
  have T : Txt mg := ⟨PySem.W.mg_none_of X G z0, PySem.W.mg_none_of X G z1, PySem.W.mg_none_of X G z2, PySem.W.mg_none_of X G z3, PySem.W.mg_none_of X G z4, PySem.W.mg_none_of X G z5, PySem.W.mg_none_of X G z6, PySem.W.mg_none_of X G z7, ⟨_, PySem.W.mg_of X G c0, r0⟩, ⟨_, PySem.W.mg_of X G c2, r2⟩, ⟨_, PySem.W.mg_of X G c3, r3⟩, ⟨_, PySem.W.mg_of X G c4, r4⟩, ⟨_, PySem.W.mg_of X G c5, r5⟩⟩
  have T2 : Txt2 mg := ⟨PySem.W.mg_none_of X G z8, PySem.W.mg_none_of X G z9, ⟨_, PySem.W.mg_of X G c1, r1⟩⟩
  obtain ⟨fd, hf⟩ := d0.fn
  refine ⟨fd, hf.binds fun _ _ _ _ _ _ us hl => match us, hl with | [_, _, _], _ => rfl, fun base KB GB => ?_⟩
  have Gfac : Fc P w K mg base 1 "factorial" ["number"] (spFac) := d18.fc X G (fun _ _ _ _ _ _ us hl => match us, hl with | [_], _ => rfl) fun fd F => ok_fac F T.range
  have Gred : Fc P w K mg base 1 "reduced_row" ["row", "top", "before"] (spRed K) := d17.fc X G (fun _ _ _ _ _ _ us hl => match us, hl with | [_, _, _], _ => rfl) fun fd F => ok_red F T
  have Gdet : Fc P w K mg base 2 "tree_determinant" ["table"] (spDet K) := d16.fc X G (fun _ _ _ _ _ _ us hl => match us, hl with | [_], _ => rfl) fun fd F => ok_det F T Gred
  have Gtre : Fc P w K mg base 3 "count_trees" ["streets"] (spTrees K) := d15.fc X G (fun _ _ _ _ _ _ us hl => match us, hl with | [_], _ => rfl) fun fd F => ok_trees F T Gdet
  have Grou : Fc P w K mg base 4 "count_rounds" ["streets"] (spRounds K) := d13.fc X G (fun _ _ _ _ _ _ us hl => match us, hl with | [_], _ => rfl) fun fd F => ok_rounds F T Gtre Gfac
  have Gswa : Fc P w K mg base 2 "count_swaps" ["streets"] (spSwaps K) := d14.fc X G (fun _ _ _ _ _ _ us hl => match us, hl with | [_], _ => rfl) fun fd F => ok_swaps F Gfac
  have Gstr : Fc P w K mg base 1 "count_streets" ["streets"] (spStreets K) := d11.fc X G (fun _ _ _ _ _ _ us hl => match us, hl with | [_], _ => rfl) fun fd F => ok_streets F T
  have Gsur : Fc P w K mg base 1 "surplus_at" ["streets", "point"] (spSurplus K) := d10.fc X G (fun _ _ _ _ _ _ us hl => match us, hl with | [_, _], _ => rfl) fun fd F => ok_surplus F T
  have Gwit : Fc P w K mg base 1 "with_street" ["streets", "start", "goal"] (spWith K) := d12.fc X G (fun _ _ _ _ _ _ us hl => match us, hl with | [_, _, _], _ => rfl) fun fd F => ok_with F T
  have Gtex : Fc P w K mg base 5 "count_texts" ["streets"] (spTexts K) := d9.fc X G (fun _ _ _ _ _ _ us hl => match us, hl with | [_], _ => rfl) fun fd F => ok_texts F T Gsur Gstr Grou Gswa Gwit
  have Gbeg : Fc P w K mg base 1 "beginning_of" ["piece"] (spBeg K) := d5.fc X G (fun _ _ _ _ _ _ us hl => match us, hl with | [_], _ => rfl) fun fd F => ok_beg F T
  have Gend : Fc P w K mg base 1 "end_of" ["piece"] (spEnd K) := d6.fc X G (fun _ _ _ _ _ _ us hl => match us, hl with | [_], _ => rfl) fun fd F => ok_end F T
  have Gnum : Fc P w K mg base 2 "number_points" ["pieces"] (spNum K) := d7.fc X G (fun _ _ _ _ _ _ us hl => match us, hl with | [_], _ => rfl) fun fd F => ok_num F T Gbeg Gend
  have Gtab : Fc P w K mg base 3 "street_table" ["pieces"] (spTab K) := d8.fc X G (fun _ _ _ _ _ _ us hl => match us, hl with | [_], _ => rfl) fun fd F => ok_tab F T Gbeg Gend Gnum
  have Glen : Fc P w K mg base 1 "length_is_as_told" ["k"] (spLen) := d2.fc X G (fun _ _ _ _ _ _ us hl => match us, hl with | [_], _ => rfl) fun fd F => ok_len F T.leastL T.mostL
  have Gamt : Fc P w K mg base 1 "amount_is_as_told" ["many"] (spAmt) := d3.fc X G (fun _ _ _ _ _ _ us hl => match us, hl with | [_], _ => rfl) fun fd F => ok_amt F T.mostP
  have Gltr : Fc P w K mg base 1 "letters_are_as_told" ["letters"] (spLtr K) := d4.fc X G (fun _ _ _ _ _ _ us hl => match us, hl with | [_], _ => rfl) fun fd F => ok_ltr F T.max T.mostA
  have Gtol : Fc P w K mg base 2 "pieces_are_as_told" ["k", "pieces"] (spTold K) := d1.fc X G (fun _ _ _ _ _ _ us hl => match us, hl with | [_, _], _ => rfl) fun fd F => ok_told F T Glen Gamt Gltr
  have Gwo : Fc P w K mg base 1 "without_piece" ["pieces", "piece"] (spWo K) := d25.fc X G (fun _ _ _ _ _ _ us hl => match us, hl with | [_, _], _ => rfl) fun fd F => ok_wo F
  have Ggrp : Fc P w K mg base 1 "group_of" ["number", "counts"] (spGrp K) := d22.fc X G (fun _ _ _ _ _ _ us hl => match us, hl with | [_, _], _ => rfl) fun fd F => ok_grp F
  have Gcho : Fc P w K mg base 2 "choices_at" ["point", "pieces"] (spCho K) := d21.fc X G (fun _ _ _ _ _ _ us hl => match us, hl with | [_, _], _ => rfl) fun fd F => ok_cho F T2 Gbeg
  have Gfrm : Fc P w K mg base 2 "count_from" ["point", "many", "pieces"] (spFrm K) := d24.fc X G (fun _ _ _ _ _ _ us hl => match us, hl with | [_, _, _], _ => rfl) fun fd F => ok_frm F T T2 Gbeg Gend
  have Gbeh : Fc P w K mg base 6 "count_behind" ["piece", "pieces"] (spBeh K) := d23.fc X G (fun _ _ _ _ _ _ us hl => match us, hl with | [_, _], _ => rfl) fun fd F => ok_beh F T Gwo Gend Gtab Gtex Gfrm
  have Glet : Fc P w K mg base 7 "letters_onward" ["start", "number", "pieces"] (spLet K) := d20.fc X G (fun _ _ _ _ _ _ us hl => match us, hl with | [_, _, _], _ => rfl) fun fd F => ok_let F T Gcho Gbeh Ggrp Gend Gwo
  have Gof : Fc P w K mg base 8 "text_of_number" ["number", "many", "pieces"] (spOf K) := d19.fc X G (fun _ _ _ _ _ _ us hl => match us, hl with | [_, _, _], _ => rfl) fun fd F => ok_of F T T2 Gbeg Gfrm Ggrp Glet
  exact ok_text hf T T2 Gtol Gtab Gtex Gof
open PySem.W in
theorem given_tp_text (K : PySem.W.Frag) (P : Params) (h : Heap) (H : Hp) (args : List WData) (vals : List Value) (hpre : PySem.Challenge.rw_cutpieces_s02_tp_text.pre args = true) (hwl : WellAll P h vals args) (g : Hd.Given K H P h) :
    ∃ vs, Vals vs vals ∧ vs.length = (["k", "number", "pieces"] : List Str).length ∧ spText K vs H (fun v H' => ∃ (D : Addr) (ns : List Int), v = .ref D ∧ H' D = some (.lst (ns.map V.int)) ∧ PySem.Challenge.rw_cutpieces_s02_tp_text.post args (.list (ns.map WData.int)) = true) E0 := by
    obtain ⟨a, e, hp⟩ := Hd.pre_dec hpre
    obtain ⟨ea, hw⟩ := Codec.encAll_of_decAll _ args a e
    obtain ⟨k, number, pieces, u⟩ := a
    have hk : PyKv168.tp_text_asked k number pieces = true := hp
    have ea : args = [WData.int k, WData.int number, WData.list (pieces.map fun p => WData.list (p.map WData.int))] := ea
    have hw : (Codec.inInt 0 4294967295 k && (Codec.inInt 0 115792089237316195423570985008687907853269984665640564039457584007913129639935 number && (Codec.inList 0 70 (Codec.inList 0 60 (Codec.inInt 0 255)) pieces && true))) = true := hw
    simp only [Bool.and_eq_true] at hw
    obtain ⟨hwk, hwn, hwp, _⟩ := hw
    have hk0 : 0 ≤ k := by
      unfold Codec.inInt at hwk
      simp only [Bool.and_eq_true, decide_eq_true_eq] at hwk
      exact hwk.1
    have hn0 : 0 ≤ number := by
      unfold Codec.inInt at hwn
      simp only [Bool.and_eq_true, decide_eq_true_eq] at hwn
      exact hwn.1
    obtain ⟨h70, hb⟩ := bounds_of hwp
    have hpost : ∀ ns : List Int, ns = PyKv168.tp_text k number pieces → PySem.Challenge.rw_cutpieces_s02_tp_text.post args (.list (ns.map WData.int)) = true := fun ns en => by
      refine Hd.post_dec e ?_
      rw [en]
      rfl
    subst ea
    cases hwl with
    | cons w1 w2 =>
      cases w2 with
      | cons w3 w4 =>
        cases w4 with
        | cons w5 w6 =>
          cases w6
          cases w1 with
          | int _ t =>
            cases w3 with
            | int _ t2 =>
              cases w5 with
              | list ho hall =>
                rename_i a us
                have hPl := pl_of g ho hall h70 (fun p hp => (hb p hp).1) fun p hp => (hb p hp).2
                refine ⟨[.int k, .int number, .ref a], .cons ⟨t, rfl⟩ (.cons ⟨t2, rfl⟩ (.cons rfl .nil)), rfl, a, k.toNat, number.toNat, pieces.map Kv168Neutral.nats, by rw [Int.toNat_of_nonneg hk0, Int.toNat_of_nonneg hn0], hPl, by rw [List.length_map]; exact h70, fun ho p hp => ?_, fun H' D ns hD hns => ⟨D, ns, rfl, hD, hpost ns ?_⟩⟩
                · rw [List.length_map] at ho
                  obtain ⟨q, hq, rfl⟩ := List.mem_map.mp hp
                  have := Tp.asked_text hk ho q hq
                  unfold Kv168Neutral.nats
                  rw [List.length_map]
                  exact this
                · rw [hns, Tp.due_text, owed, List.length_map]
                  unfold Kv168.good Kv168Neutral.piecesOf
                  rw [List.length_map]
                  by_cases ho : Kv168.okSize pieces.length k.toNat = true
                  · rw [if_pos ho]
                  · rw [if_neg ho]
                    have ho' : Kv168.okSize pieces.length k.toNat = false := by simpa using ho
                    rw [ho']
                    rfl
end Pg
open PySem PySem.W PyProof.Rows
set_option maxRecDepth 100000 in
set_option maxHeartbeats 0 in
theorem PySem.Challenge.cw_cutpieces_s02_tp_text_holds : PySem.Challenge.rw_cutpieces_s02_tp_text.Holds := by
  w_on; k_headS; (case hw => exact ⟨[.int 0, .int 0, .list []], by decide +kernel, by decide +kernel⟩)
  k_fillS
  refine Hd.spec_walk (r := PySem.Challenge.rw_cutpieces_s02_tp_text) (k := 9) (xs := ["k", "number", "pieces"]) (sp := Pg.spText) rfl ⟨rfl, by decide, by decide⟩ (fun w h Y => PySem.W.kIn_of Y) ?F Pg.given_tp_text
  case F =>
    intro w mg fa h KX G hmg
    refine' Pg.all_mk KX G hmg (Pg.dn_mk ?a0 ?l0 ?o0 ?k0) (Pg.dn_mk ?a1 ?l1 ?o1 ?k1) (Pg.dn_mk ?a2 ?l2 ?o2 ?k2) (Pg.dn_mk ?a3 ?l3 ?o3 ?k3) (Pg.dn_mk ?a4 ?l4 ?o4 ?k4) (Pg.dn_mk ?a5 ?l5 ?o5 ?k5) (Pg.dn_mk ?a6 ?l6 ?o6 ?k6) (Pg.dn_mk ?a7 ?l7 ?o7 ?k7) (Pg.dn_mk ?a8 ?l8 ?o8 ?k8) (Pg.dn_mk ?a9 ?l9 ?o9 ?k9) (Pg.dn_mk ?a10 ?l10 ?o10 ?k10) (Pg.dn_mk ?a11 ?l11 ?o11 ?k11) (Pg.dn_mk ?a12 ?l12 ?o12 ?k12) (Pg.dn_mk ?a13 ?l13 ?o13 ?k13) (Pg.dn_mk ?a14 ?l14 ?o14 ?k14) (Pg.dn_mk ?a15 ?l15 ?o15 ?k15) (Pg.dn_mk ?a16 ?l16 ?o16 ?k16) (Pg.dn_mk ?a17 ?l17 ?o17 ?k17) (Pg.dn_mk ?a18 ?l18 ?o18 ?k18) (Pg.dn_mk ?a19 ?l19 ?o19 ?k19) (Pg.dn_mk ?a20 ?l20 ?o20 ?k20) (Pg.dn_mk ?a21 ?l21 ?o21 ?k21) (Pg.dn_mk ?a22 ?l22 ?o22 ?k22) (Pg.dn_mk ?a23 ?l23 ?o23 ?k23) (Pg.dn_mk ?a24 ?l24 ?o24 ?k24) (Pg.dn_mk ?a25 ?l25 ?o25 ?k25) ?c0 ?r0 ?c1 ?r1 ?c2 ?r2 ?c3 ?r3 ?c4 ?r4 ?c5 ?r5 ?z0 ?z1 ?z2 ?z3 ?z4 ?z5 ?z6 ?z7 ?z8 ?z9
    (case a0 => k_is); (case l0 => k_is); (case o0 => k_is); (case k0 => k_is)
    (case a1 => k_is); (case l1 => k_is); (case o1 => k_is); (case k1 => k_is)
    (case a2 => k_is); (case l2 => k_is); (case o2 => k_is); (case k2 => k_is)
    (case a3 => k_is); (case l3 => k_is); (case o3 => k_is); (case k3 => k_is)
    (case a4 => k_is); (case l4 => k_is); (case o4 => k_is); (case k4 => k_is)
    (case a5 => k_is); (case l5 => k_is); (case o5 => k_is); (case k5 => k_is)
    (case a6 => k_is); (case l6 => k_is); (case o6 => k_is); (case k6 => k_is)
    (case a7 => k_is); (case l7 => k_is); (case o7 => k_is); (case k7 => k_is)
    (case a8 => k_is); (case l8 => k_is); (case o8 => k_is); (case k8 => k_is)
    (case a9 => k_is); (case l9 => k_is); (case o9 => k_is); (case k9 => k_is)
    (case a10 => k_is); (case l10 => k_is); (case o10 => k_is); (case k10 => k_is)
    (case a11 => k_is); (case l11 => k_is); (case o11 => k_is); (case k11 => k_is)
    (case a12 => k_is); (case l12 => k_is); (case o12 => k_is); (case k12 => k_is)
    (case a13 => k_is); (case l13 => k_is); (case o13 => k_is); (case k13 => k_is)
    (case a14 => k_is); (case l14 => k_is); (case o14 => k_is); (case k14 => k_is)
    (case a15 => k_is); (case l15 => k_is); (case o15 => k_is); (case k15 => k_is)
    (case a16 => k_is); (case l16 => k_is); (case o16 => k_is); (case k16 => k_is)
    (case a17 => k_is); (case l17 => k_is); (case o17 => k_is); (case k17 => k_is)
    (case a18 => k_is); (case l18 => k_is); (case o18 => k_is); (case k18 => k_is)
    (case a19 => k_is); (case l19 => k_is); (case o19 => k_is); (case k19 => k_is)
    (case a20 => k_is); (case l20 => k_is); (case o20 => k_is); (case k20 => k_is)
    (case a21 => k_is); (case l21 => k_is); (case o21 => k_is); (case k21 => k_is)
    (case a22 => k_is); (case l22 => k_is); (case o22 => k_is); (case k22 => k_is)
    (case a23 => k_is); (case l23 => k_is); (case o23 => k_is); (case k23 => k_is)
    (case a24 => k_is); (case l24 => k_is); (case o24 => k_is); (case k24 => k_is)
    (case a25 => k_is); (case l25 => k_is); (case o25 => k_is); (case k25 => k_is)
    (case c0 => k_is); (case r0 => exact ⟨_, rfl⟩)
    (case c1 => k_is); (case r1 => exact ⟨_, rfl⟩)
    (case c2 => k_is); (case r2 => exact ⟨_, rfl⟩)
    (case c3 => k_is); (case r3 => exact ⟨_, rfl⟩)
    (case c4 => k_is); (case r4 => exact ⟨_, rfl⟩)
    (case c5 => k_is); (case r5 => exact ⟨_, rfl⟩)
    (case z0 => k_is); (case z1 => k_is); (case z2 => k_is); (case z3 => k_is); (case z4 => k_is); (case z5 => k_is); (case z6 => k_is); (case z7 => k_is); (case z8 => k_is); (case z9 => k_is)
end
#print axioms PySem.Challenge.cw_cutpieces_s02_tp_text_holds
