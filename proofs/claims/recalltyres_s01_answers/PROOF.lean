import PyProof.Rows.All
import Wide.All
import OpenK.AllK
import Wide.FinOn
import PyProof.EqAt
import PyProof.EqKinds
import PyProof.TupleCall
import KE.BitLaws
import Open.SpecLaws
import KE.OsHead
import KE.OsGo
import PyProof.Rows.SetFrom
import PyProof.TupleKey
import PyProof.SetRoads
import PySem.SetTable
import PyProof.SetKind
import PyProof.SetNew
import PyProof.IsRules
import PyProof.CollectIter
import PyProof.DictIter
import PyProof.Rows.SortShell
import PyProof.Rows.SortWalk
import KE.KSortTupG
import PySem.Challenge.RW_recalltyres_s01_answers
section
set_option Elab.async false
set_option linter.all false
set_option maxRecDepth 100000
/-! THE HAND LAYER, for ints, bools, texts, own classes, lists, tuples, dicts, comprehensions, walks over dicts, enumerate, zip, reversed, texts, calls, loops. Paste it whole ahead of your own text; what your proof does not reach may be deleted. -/
namespace L2
open PySem PySem.Spec PyProof.Rows

/-- a key: an int or a str -/
abbrev Key := Sum Int Str
def keyIs : Key → Value → Bool
  | .inl k, v => Value.isInt k v
  | .inr x, v => Value.isStrOf x v
def keyH (w : World) : Key → Int
  | .inl k => hashInt k
  | .inr x => hashStr w x
theorem keyIs_shape : ∀ {k : Key} {v : Value}, keyIs k v = true → (∃ i t, k = Sum.inl i ∧ v = Value.int i t) ∨ (∃ x t, k = Sum.inr x ∧ v = Value.str x t)
  | .inl i, v, h => by
    obtain ⟨t, e⟩ := Value.isInt_shape (k := i) (v := v) h
    exact .inl ⟨i, t, rfl, e⟩
  | .inr x, v, h => by
    obtain ⟨t, e⟩ := Value.isStrOf_shape (x := x) (v := v) h
    exact .inr ⟨x, t, rfl, e⟩
theorem key_ll (a b : Int) : decide ((Sum.inl a : Key) = Sum.inl b) = (a == b) := by
  by_cases e : a = b
  · subst e; simp
  · have h : ¬ (Sum.inl a : Key) = Sum.inl b := fun q => e (Sum.inl.inj q)
    rw [decide_eq_false h]
    exact (beq_eq_false_iff_ne.mpr e).symm
theorem key_rr (a b : Str) : decide ((Sum.inr a : Key) = Sum.inr b) = decide (a = b) := by
  by_cases e : a = b
  · subst e; simp
  · have h : ¬ (Sum.inr a : Key) = Sum.inr b := fun q => e (Sum.inr.inj q)
    rw [decide_eq_false h, decide_eq_false e]
theorem key_lr (a : Int) (b : Str) : decide ((Sum.inl a : Key) = Sum.inr b) = false := decide_eq_false (fun q => nomatch q)
theorem key_rl (a : Str) (b : Int) : decide ((Sum.inr a : Key) = Sum.inl b) = false := decide_eq_false (fun q => nomatch q)

def mixKind (prog : Program) (w : World) : PySem.KeyKind prog w Key where
  is := keyIs
  hash := keyH w
  inj := fun v a b ha hb => by
    rcases keyIs_shape ha with ⟨i, t, rfl, rfl⟩ | ⟨x, t, rfl, rfl⟩
    · rcases keyIs_shape hb with ⟨j, u, rfl, e⟩ | ⟨y, u, rfl, e⟩
      · injection e with e1 _; rw [e1]
      · exact nomatch e
    · rcases keyIs_shape hb with ⟨j, u, rfl, e⟩ | ⟨y, u, rfl, e⟩
      · exact nomatch e
      · injection e with e1 _; rw [e1]
  byValue := fun k v h => by
    rcases keyIs_shape h with ⟨i, t, rfl, rfl⟩ | ⟨x, t, rfl, rfl⟩ <;> rfl
  pyHash := fun hv h => by
    rcases keyIs_shape hv with ⟨i, t, rfl, rfl⟩ | ⟨x, t, rfl, rfl⟩
    · exact wpAny_pyHash_int h
    · exact wpAny_pyHash_str h
  eqBool := fun hu hv h => by
    rcases keyIs_shape hu with ⟨i, t, rfl, rfl⟩ | ⟨x, t, rfl, rfl⟩
    · rcases keyIs_shape hv with ⟨j, u, rfl, rfl⟩ | ⟨y, u, rfl, rfl⟩
      · rw [key_ll] at h; exact wpAny_eqBool_int h
      · rw [key_lr] at h; exact SeqAt.EqAt.int_str i t y u _ _ _ _ h
    · rcases keyIs_shape hv with ⟨j, u, rfl, rfl⟩ | ⟨y, u, rfl, rfl⟩
      · rw [key_rl] at h; exact SeqAt.EqAt.str_int x t j u _ _ _ _ h
      · rw [key_rr] at h; exact wpAny_eqBool_str h
  «strs» := fun k x t v h => by
    rcases keyIs_shape h with ⟨i, u, rfl, e⟩ | ⟨y, u, rfl, e⟩
    · exact nomatch e
    · injection e with e1 _
      subst e1
      cases v <;> rfl

end L2

namespace L2
open PySem PySem.Spec PyProof.Rows

/-- a value, without the heap -/
inductive V where
  | non | bl (b : Bool) | int (i : Int) | str (x : Str) | byt (b : Array UInt8) | flt (b : UInt64) | ref (a : Addr) | ty (n : String)
  deriving DecidableEq

def RelV : V → Value → Prop
  | .non, u => u = Value.none
  | .bl b, u => u = Value.bool b
  | .int i, u => ∃ t, u = Value.int i t
  | .str x, u => ∃ t, u = Value.str x t
  | .byt b, u => ∃ t, u = Value.bytes b t
  | .flt b, u => ∃ t, u = Value.float b t
  | .ref a, u => u = Value.ref a
  | .ty n, u => u = Value.type n

abbrev Vals : List V → List Value → Prop := Paired RelV
theorem Vals.length {xs : List V} {us : List Value} (r : Vals xs us) : xs.length = us.length := Paired.length r
theorem Vals.get : ∀ {xs : List V} {us : List Value} {i : Nat} {x : V}, Vals xs us → xs[i]? = some x → ∃ u, us[i]? = some u ∧ RelV x u
  | _, _, _, _, .nil, e => by simp at e
  | _, _, 0, _, .cons r _, e => by simp at e; subst e; exact ⟨_, rfl, r⟩
  | _, _, i + 1, x, .cons _ t, e => by
    obtain ⟨u, h1, h2⟩ := Vals.get (i := i) (x := x) t (by simpa using e)
    exact ⟨u, by simpa using h1, h2⟩
theorem Vals.append : ∀ {xs ys : List V} {us ws : List Value}, Vals xs us → Vals ys ws → Vals (xs ++ ys) (us ++ ws)
  | _, _, _, _, .nil, s => s
  | _, _, _, _, .cons r t, s => .cons r (Vals.append t s)
theorem Vals.take : ∀ {xs : List V} {us : List Value} (n : Nat), Vals xs us → Vals (xs.take n) (us.take n)
  | _, _, 0, _ => .nil
  | _, _, _ + 1, .nil => .nil
  | _, _, n + 1, .cons r t => .cons r (Vals.take n t)
theorem Vals.drop : ∀ {xs : List V} {us : List Value} (n : Nat), Vals xs us → Vals (xs.drop n) (us.drop n)
  | _, _, 0, r => r
  | _, _, _ + 1, .nil => .nil
  | _, _, n + 1, .cons _ t => Vals.drop n t

def RelO : Option V → Option Value → Prop
  | some v, some u => RelV v u
  | none, none => True
  | _, _ => False
def KV {κ : Type} : List (κ × V) → List (κ × Value) → Prop := Paired fun (p : κ × V) (q : κ × Value) => p.1 = q.1 ∧ RelV p.2 q.2

/-- a key of a dict (00_mix): an int or a text -/
def kV : Key → V
  | .inl i => .int i
  | .inr x => .str x

/-- what stands at a tracked address -/
inductive HO where
  /-- a list -/
  | lst (xs : List V)
  /-- a tuple (never changes) -/
  | tup (xs : List V)
  /-- a dict whose keys are ints and texts; one whose keys are tuples of ints and texts (the empty one is both) -/
  | dK (kvs : List (Key × V)) | dT (kvs : List (List Key × V))
  /-- a set of ints: its members, its size -/
  | set (S : Int → Bool) (n : Nat)
  /-- an instance of the class at C, its dict at dx, its attributes -/
  | ins (C dx : Addr) (fs : List (Str × V))
  /-- the dict of the instance at x -/
  | own (x : Addr)
  /-- the dict of an exception -/
  | xd (fs : List (Str × V))
  /-- a bound method, f of x -/
  | met (f x : Addr)
  /-- a range object lo, lo + 1, .. below hi -/
  | rng (lo hi : Int)
  /-- a thing that is known to the object (the script; a dict while a loop walks it): read, never written while it is so -/
  | frz (o : Obj) (u : HO)
  /-- a code object's table -/
  | tbl (ps : Array Value)
  /-- any other thing, by what is true of its one object (a def of one's own: SetO a S n := HO.ext fun h => ..) -/
  | ext (φ : Heap → Prop)

abbrev Hp := Addr → Option HO
def upd (H : Hp) (a : Addr) (o : HO) : Hp := fun b => if b = a then some o else H b
theorem upd_same {H : Hp} {a : Addr} {o : HO} : upd H a o a = some o := by unfold upd; rw [if_pos rfl]
theorem upd_ne {H : Hp} {a b : Addr} {o : HO} (h : b ≠ a) : upd H a o b = H b := by unfold upd; rw [if_neg h]
/-- two objects of different content stand apart -/
theorem ne_of {H : Hp} {a b : Addr} {o u : HO} (h : H a = some o) (h' : H b = some u) (d : o ≠ u) : a ≠ b := by
  intro e; subst e; rw [h] at h'; exact d (Option.some.inj h')
theorem ne_of_none {H : Hp} {a b : Addr} {o : HO} (h : H a = some o) (h' : H b = none) : a ≠ b := by
  intro e; subst e; rw [h] at h'; cases h'

section
variable (P : Program) (w : World)
def ObjOk (H : Hp) (h : Heap) (a : Addr) : HO → Prop
  | .lst xs => xs.length ≤ sizeLine ∧ ∃ (its : List Value) (n : Nat), Vals xs its ∧ h.get? a = some { cls := .type "list", data := .seq its.toArray n }
  | .tup xs => xs.length ≤ sizeLine ∧ ∃ its : List Value, Vals xs its ∧ IsTup h a its.toArray
  | .dK kvs => kvs.length ≤ sizeLine ∧ (a == sysModules) = false ∧ ∃ vs, KV kvs vs ∧ h.DictOf (mixKind P w) a vs
  | .dT kvs => kvs.length ≤ sizeLine ∧ (a == sysModules) = false ∧ ∃ xs : List (List Key × Addr × Value),
      Paired (fun (p : List Key × V) (q : List Key × Addr × Value) => p.1 = q.1 ∧ H q.2.1 = some (.tup (p.1.map kV)) ∧ RelV p.2 q.2.2) kvs xs ∧
      ∃ o es ep, h.get? a = some o ∧ o.ExactDict ∧ o.data = .dict es ep ∧ es.toList = xs.map (entryOfKey (tupleKind (mixKind P w))) ∧ (xs.map (·.1)).Nodup
  | .set S n => h.SetOf (intKind P w) a S n
  | .ins C dx fs => H dx = some (.own a) ∧ fs.length ≤ 1000 ∧ dx ≠ a ∧ h.get? a = some (PySem.W.instObj C dx) ∧
      ∃ mA, h.Ns1 dx mA ∧ (∀ f, RelO (fs.lookup f) (mA f)) ∧ PySem.Within mA (fs.map (·.1))
  | .own _ => ∃ o, h.get? a = some o
  | .xd fs => ∃ mA, h.Ns1 a mA ∧ ∀ f, RelO (fs.lookup f) (mA f)
  | .rng lo hi => ∃ t u v, h.get? a = some { cls := .type "range", data := .fields #[.int lo t, .int hi u, .int 1 v] }
  | .frz o u => h.get? a = some o ∧ ObjOk H h a u
  | .tbl ps => h.get? a = some { cls := .none, data := .fields ps }
  | .met f x => h.get? a = some (PySem.W.methodObj (.ref f) (.ref x))
  | .ext φ => φ h ∧ (∃ o, h.get? a = some o) ∧ ∀ h1 h2 : Heap, φ h1 → (∀ o, h1.get? a = some o → h2.get? a = some o) → φ h2
/-- the abstract heap is held -/
def HOk (H : Hp) (h : Heap) : Prop := ∀ a o, H a = some o → ObjOk P w H h a o
end

section
variable {P : Program} {w : World} {H H' : Hp} {h h' : Heap} {a : Addr} {o : HO}
theorem ObjOk.lt (x : ObjOk P w H h a o) : a < h.objs.size := by
  cases o with
  | lst xs => obtain ⟨_, _, _, _, e⟩ := x; exact Heap.lt_size e
  | tup xs => obtain ⟨_, _, _, p⟩ := x; exact p.lt
  | dK kvs => obtain ⟨_, _, _, _, o, _, _, e, _⟩ := x; exact Heap.lt_size e
  | dT kvs => obtain ⟨_, _, _, _, o, _, _, e, _⟩ := x; exact Heap.lt_size e
  | set S n => obtain ⟨o, _, _, _, e, _⟩ := x; exact Heap.lt_size e
  | ins C dx fs => obtain ⟨_, _, _, e, _⟩ := x; exact Heap.lt_size e
  | own y => obtain ⟨_, e⟩ := x; exact Heap.lt_size e
  | xd fs => obtain ⟨_, ⟨_, _, _, e, _⟩, _⟩ := x; exact Heap.lt_size e
  | rng lo hi => obtain ⟨_, _, _, e⟩ := x; exact Heap.lt_size e
  | frz ob u => obtain ⟨e, _⟩ := x; exact Heap.lt_size e
  | tbl ps => exact Heap.lt_size (show h.get? a = some _ from x)
  | met f y => exact Heap.lt_size (show h.get? a = some _ from x)
  | ext φ => obtain ⟨_, ⟨_, e⟩, _⟩ := x; exact Heap.lt_size e
theorem Paired.mapP {α β : Type} {F G : α → β → Prop} : ∀ {l₁ : List α} {l₂ : List β}, Paired F l₁ l₂ → (∀ a b, F a b → G a b) → Paired G l₁ l₂
  | _, _, .nil, _ => .nil
  | _, _, .cons r t, f => .cons (f _ _ r) (Paired.mapP t f)
/-- what an object's description leans on: its own object, its own dict, the tuples -/
theorem ObjOk.stay (x : ObjOk P w H h a o) (k : ∀ b u, (b = a ∨ H b = some (.own a)) → h.get? b = some u → h'.get? b = some u)
    (ho : ∀ b, H b = some (.own a) → H' b = some (.own a)) (ht : ∀ b xs, H b = some (.tup xs) → H' b = some (.tup xs)) : ObjOk P w H' h' a o := by
  induction o with
  | lst xs => obtain ⟨z, its, n, r, e⟩ := x; exact ⟨z, its, n, r, k _ _ (.inl rfl) e⟩
  | tup xs => obtain ⟨z, its, r, ob, e, c⟩ := x; exact ⟨z, its, r, ob, k _ _ (.inl rfl) e, c⟩
  | dK kvs => obtain ⟨z, y, vs, r, ob, es, ep, e, c⟩ := x; exact ⟨z, y, vs, r, ob, es, ep, k _ _ (.inl rfl) e, c⟩
  | dT kvs =>
    obtain ⟨z, y, xs, r, ob, es, ep, e, c⟩ := x
    exact ⟨z, y, xs, Paired.mapP r fun p q z => ⟨z.1, ht _ _ z.2.1, z.2.2⟩, ob, es, ep, k _ _ (.inl rfl) e, c⟩
  | set S n => obtain ⟨ob, es, ep, t, e, c⟩ := x; exact ⟨ob, es, ep, t, k _ _ (.inl rfl) e, c⟩
  | ins C dx fs =>
    obtain ⟨d, z, ne, e, mA, ⟨od, es, ep, e2, c⟩, r⟩ := x
    exact ⟨ho _ d, z, ne, k _ _ (.inl rfl) e, mA, ⟨od, es, ep, k _ _ (.inr d) e2, c⟩, r⟩
  | own y => obtain ⟨ob, e⟩ := x; exact ⟨ob, k _ _ (.inl rfl) e⟩
  | xd fs => obtain ⟨mA, ⟨od, es, ep, e, c⟩, r⟩ := x; exact ⟨mA, ⟨od, es, ep, k _ _ (.inl rfl) e, c⟩, r⟩
  | rng lo hi => obtain ⟨t, u, v, e⟩ := x; exact ⟨t, u, v, k _ _ (.inl rfl) e⟩
  | frz ob u ih => obtain ⟨e, q⟩ := x; exact ⟨k _ _ (.inl rfl) e, ih q⟩
  | tbl ps =>
    have e : h.get? a = some { cls := .none, data := .fields ps } := x
    show h'.get? a = some { cls := .none, data := .fields ps }
    exact k a _ (.inl rfl) e
  | met f y =>
    have e : h.get? a = some (PySem.W.methodObj (.ref f) (.ref y)) := x
    show h'.get? a = some (PySem.W.methodObj (.ref f) (.ref y))
    exact k a _ (.inl rfl) e
  | ext φ => obtain ⟨p, ⟨o, e⟩, st⟩ := x; exact ⟨st _ _ p fun o q => k _ _ (.inl rfl) q, ⟨o, k _ _ (.inl rfl) e⟩, st⟩
theorem HOk.lt (x : HOk P w H h) (e : H a = some o) : a < h.objs.size := (x a o e).lt
theorem HOk.fresh (x : HOk P w H h) (e : h.objs.size ≤ a) : H a = none := by
  cases q : H a with
  | none => rfl
  | some u => exact absurd (Nat.lt_of_lt_of_le (x.lt q) e) (Nat.lt_irrefl _)
/-- every object of the heap is kept -/
theorem HOk.kept (x : HOk P w H h) (k : ∀ b u, h.get? b = some u → h'.get? b = some u) : HOk P w H h' := fun a o e =>
  (x a o e).stay (fun b u _ q => k b u q) (fun _ q => q) fun _ _ q => q
/-- a new object is laid and tracked -/
theorem HOk.laid (x : HOk P w H h) (k : ∀ b u, h.get? b = some u → h'.get? b = some u) (hp : h.objs.size ≤ a) (new : ObjOk P w (upd H a o) h' a o) : HOk P w (upd H a o) h' := fun b u e => by
  have hn := x.fresh hp
  by_cases hb : b = a
  · subst hb; rw [upd_same] at e; cases e; exact new
  · rw [upd_ne hb] at e
    exact (x b u e).stay (fun c v _ q => k c v q) (fun c q => by rw [upd_ne (ne_of_none q hn)]; exact q) fun c xs q => by rw [upd_ne (ne_of_none q hn)]; exact q
end

/-- what may be read as u: it is u, or a known u -/
def Rd (H : Hp) (a : Addr) (u : HO) : Prop := H a = some u ∨ ∃ o, H a = some (.frz o u)
theorem Rd.ok {P : Program} {w : World} {H : Hp} {h : Heap} {a : Addr} {u : HO} (r : Rd H a u) (x : HOk P w H h) : ObjOk P w H h a u := by
  rcases r with r | ⟨o, r⟩
  · exact x a u r
  · obtain ⟨_, q⟩ := x a _ r
    exact q
/-- what may be written -/
def Mut : Option HO → Prop
  | some (.lst _) => True
  | some (.dK _) => True
  | some (.dT _) => True
  | some (.set _ _) => True
  | some (.ins _ _ _) => True
  | some (.ext _) => True
  | _ => False
section
variable {P : Program} {w : World} {H : Hp} {h h' : Heap} {x e : Addr} {o' : HO}
/-- the object at e is changed: x itself, or the dict of the instance x -/
theorem HOk.write (ok : HOk P w H h) (mu : Mut (H x)) (he : e = x ∨ H e = some (.own x)) (k : ∀ b u, b ≠ e → h.get? b = some u → h'.get? b = some u) (heo : ∃ u, h'.get? e = some u)
    (new : ObjOk P w (upd H x o') h' x o') : HOk P w (upd H x o') h' := fun b u q => by
  have nown : ∀ c y, H c = some (.own y) → c ≠ x := fun c y r z => by subst z; rw [r] at mu; exact mu
  have ntup : ∀ c xs, H c = some (.tup xs) → c ≠ x := fun c xs r z => by subst z; rw [r] at mu; exact mu
  by_cases hb : b = x
  · subst hb; rw [upd_same] at q; cases q; exact new
  · rw [upd_ne hb] at q
    by_cases hbe : b = e
    · have q' : H b = some (.own x) := by
        rcases he with z | z
        · exact absurd (hbe.trans z) hb
        · rw [hbe]; exact z
      rw [q] at q'; cases q'
      obtain ⟨v, hv⟩ := heo
      exact ⟨v, by rw [hbe]; exact hv⟩
    · refine (ok b u q).stay (fun c v hc r => k c v ?_ r) (fun c r => by rw [upd_ne (nown c b r)]; exact r) fun c xs r => by rw [upd_ne (ntup c xs r)]; exact r
      rcases hc with rfl | hc
      · exact hbe
      · rintro rfl
        rcases he with z | z
        · exact nown c b hc z
        · rw [hc] at z; cases z; exact hb rfl
end

/-! ### kept unless tracked; of the frames at fs (the callers') the slots may change (an exception that passes writes there); of the records at ex (iterators) nothing is said -/
structure Un (fs ex : List Addr) (H H' : Hp) (h h' : Heap) : Prop where
  keep : ∀ b o, h.get? b = some o → H b = none → b ∉ fs → b ∉ ex → h'.get? b = some o
  slot : ∀ b o, h.get? b = some o → H b = none → b ∈ fs → b ∉ ex → ∃ sl, h'.get? b = some { o with slots := sl }
  free : ∀ b o, h.get? b = some o → H b = none → b ∉ ex → H' b = none
  there : ∀ b o, h.get? b = some o → b ∉ ex → ∃ o', h'.get? b = some o'
  tups : ∀ b xs, H b = some (.tup xs) → H' b = some (.tup xs)
  frzs : ∀ b o u, H b = some (.frz o u) → H' b = some (.frz o u)
  tbls : ∀ b ps, H b = some (.tbl ps) → ∃ more, H' b = some (.tbl (ps ++ more))
section
variable {fs fs' ex ex' : List Addr} {H H1 H2 : Hp} {h h1 h2 h' : Heap} {a x e : Addr} {o : HO}
theorem Un.any (u : Un fs ex H H1 h h1) {b : Addr} {ob : Obj} (q : h.get? b = some ob) (n : H b = none) (hx : b ∉ ex) : ∃ sl, h1.get? b = some { ob with slots := sl } := by
  by_cases hb : b ∈ fs
  · exact u.slot b ob q n hb hx
  · exact ⟨ob.slots, u.keep b ob q n hb hx⟩
theorem Un.kept (k : ∀ b u, h.get? b = some u → h'.get? b = some u) : Un fs ex H H h h' :=
  ⟨fun b ob q _ _ _ => k b ob q, fun b ob q _ _ _ => ⟨ob.slots, k b ob q⟩, fun _ _ _ n _ => n, fun b ob q _ => ⟨ob, k b ob q⟩, fun _ _ q => q, fun _ _ _ q => q, fun _ ps q => ⟨#[], by rw [q]; simp⟩⟩
theorem Un.refl : Un fs ex H H h h := Un.kept fun _ _ q => q
theorem Un.laid (k : ∀ b u, h.get? b = some u → h'.get? b = some u) (hp : h.objs.size ≤ a) (hn : H a = none) : Un fs ex H (upd H a o) h h' where
  keep := fun b u q _ _ _ => k b u q
  slot := fun b u q _ _ _ => ⟨u.slots, k b u q⟩
  free := fun b u q n _ => by rw [upd_ne (Nat.ne_of_lt (Nat.lt_of_lt_of_le (Heap.lt_size q) hp))]; exact n
  there := fun b u q _ => ⟨u, k b u q⟩
  tups := fun b xs q => by rw [upd_ne (ne_of_none q hn)]; exact q
  frzs := fun b u xs q => by rw [upd_ne (ne_of_none q hn)]; exact q
  tbls := fun b ps q => ⟨#[], by rw [upd_ne (ne_of_none q hn), q]; simp⟩
theorem Un.write (mu : Mut (H x)) (he : e = x ∨ H e = some (.own x)) (k : ∀ b u, b ≠ e → h.get? b = some u → h'.get? b = some u) (heo : ∃ u, h'.get? e = some u) : Un fs ex H (upd H x o) h h' := by
  have hx : ∀ b, H b = none → b ≠ x := fun b n z => by subst z; rw [n] at mu; exact mu
  have hb : ∀ b, H b = none → b ≠ e := fun b n z => by
    subst z
    rcases he with r | r
    · exact hx b n r
    · rw [n] at r; cases r
  have hm : ∀ b u, H b = some u → ¬ Mut (some u) → b ≠ x := fun b u q nm z => by subst z; rw [q] at mu; exact nm mu
  refine ⟨fun b u q n _ _ => k b u (hb b n) q, fun b u q n _ _ => ⟨u.slots, k b u (hb b n) q⟩, fun b u q n _ => by rw [upd_ne (hx b n)]; exact n, fun b u q _ => ?_,
    fun b xs q => by rw [upd_ne (hm b _ q fun z => z)]; exact q, fun b u xs q => by rw [upd_ne (hm b _ q fun z => z)]; exact q, fun b ps q => ⟨#[], by rw [upd_ne (hm b _ q fun z => z), q]; simp⟩⟩
  by_cases hbe : b = e
  · subst hbe; exact heo
  · exact ⟨u, k b u hbe q⟩
end

/-! ### the heap without what is tracked -/
def trk (h : Heap) (H : Hp) : List Addr := (List.range h.objs.size).filter fun a => (H a).isSome
def hidT (h : Heap) (H : Hp) : Heap := PySem.W.hideAll h (trk h H)
theorem hidT_size (h : Heap) (H : Hp) : (hidT h H).objs.size = h.objs.size := PySem.W.hideAll_size _ _
theorem hidT_get {h : Heap} {H : Hp} {b : Addr} {o : Obj} (e : h.get? b = some o) (n : H b = none) : (hidT h H).get? b = some o :=
  PySem.W.hideAll_get _ e fun hm => by
    have q : (H b).isSome = true := (List.mem_filter.mp hm).2
    rw [n] at q; simp at q
theorem of_hidT {h : Heap} {H : Hp} {b : Addr} {o : Obj} (e : (hidT h H).get? b = some o) : h.get? b = some o ∧ H b = none := by
  have e' : h.get? b = some o := PySem.W.of_hideAll (trk h H) e
  refine ⟨e', ?_⟩
  cases q : H b with
  | none => rfl
  | some x =>
    have hm : b ∈ trk h H := List.mem_filter.mpr ⟨List.mem_range.mpr (Heap.lt_size e'), by simp [q]⟩
    have z : (hidT h H).get? b = none := PySem.W.hideAll_none (trk h H) hm
    rw [z] at e; cases e

/-! ### OpenK's ledger, filled with every new object but one -/
end L2

namespace L2
open PySem PySem.Spec PyProof.Rows

/-- the module's facts, over the base: the heap at the law's entry without what is tracked there -/
structure Mod (K : PySem.W.Frag) (mg : Str → Option Value) (base : Heap) : Prop where
  kin : K.In base
  glob : base.Ns mainGlobals mg
  blt : ∃ mb, base.Ns builtinsNs mb ∧ ∀ x : Str, x ≠ "__name__" → mb x = bootBuiltins x
  nolimit : base.NoLimit

/-- the context: a def's body (or a comprehension's block) running. base: fixed through the whole law; s₀, H₀: the entry; outer: the frames whose slots others may change (a def's callers); stack: all frames that run;
   ex: iterators that were made ahead of the entry and are walked here (a comprehension's); fn: the names whose cells were made at the entry (a def: all; a comprehension's block: its own); calm: not within an except suite; pn: pins that every state bears; xe: what is wanted of an exception that leaves the code -/
structure Cx where
  prog : Program
  w : World
  K : PySem.W.Frag
  mg : Str → Option Value
  base : Heap
  A : Around
  N : List Str
  s_0 : Shared
  H_0 : Hp
  env : Env
  outer : List Env
  stack : List Env
  ex : List Addr
  fn : Str → Bool
  calm : Bool
  pn : List (Addr × Obj)
  xe : Value → Shared → Prop
/-- the callers' frames -/
def frs (l : List Env) : List Addr := l.filterMap (·.frame)
abbrev Cx.fs (X : Cx) : List Addr := frs X.outer

def Vis (sc : Scope) (x : Str) : Prop := sc.names.lookup x = some .local ∨ sc.names.lookup x = some .cell ∨ sc.names.lookup x = some .free
def Loc (sc : Scope) (x : Str) : Prop := sc.names.lookup x = some .local ∨ sc.names.lookup x = some .cell
def Look (env : Env) (h : Heap) (m : Str → Option Value) (x : Str) (u : Value) : Prop :=
  (env.kindOf x = some .local ∧ m x = some u) ∨ ((env.kindOf x = some .cell ∨ env.kindOf x = some .free) ∧ ∃ c, env.cells.lookup x = some c ∧ h.IsCell c (some u))

structure Cx.Ok (X : Cx) : Prop where
  mod : Mod X.K X.mg X.base
  kind : X.env.scope.kind = .function
  glob : X.env.globals = mainGlobals
  blt : X.env.builtins = builtinsNs
  above : X.s_0.heap.objs.size ≤ X.env.locals
  inj : ∀ x y c, X.env.cells.lookup x = some c → X.env.cells.lookup y = some c → x = y
  has : ∀ x, (X.env.kindOf x = some .cell ∨ X.env.kindOf x = some .free) → ∃ c, X.env.cells.lookup x = some c
  cab : ∀ x c, X.fn x = true → X.env.cells.lookup x = some c → X.s_0.heap.objs.size ≤ c
  hd : X.calm = true → X.A.handled = none
  frames : X.A.frames = some X.stack
  stk : X.stack = X.outer ∨ (X.stack = X.env :: X.outer ∧ X.env.frame = some X.env.locals)
  exf : ∀ b ∈ X.ex, b ≠ X.env.locals ∧ ∀ x c, X.env.cells.lookup x = some c → c ≠ b
  bs : ∀ b o, X.base.get? b = some o → X.s_0.heap.get? b = some o ∧ X.H_0 b = none
  bsz : X.base.objs.size ≤ X.s_0.heap.objs.size
  noex : ∀ b o, X.base.get? b = some o → b ∉ X.ex
  exfs : ∀ b ∈ X.ex, b ∉ X.fs
  funs : X.s_0.heap.FunFrames X.base X.outer
  frf : ∀ b ∈ X.fs, X.H_0 b = none

structure Inv (X : Cx) (pins : List (Addr × Obj)) (σ : List (Option V)) (H : Hp) (s : Shared) : Prop where
  ok : X.Ok
  os : s.os = X.s_0.os
  bare : AllBare s.gens
  base : Un X.fs X.ex X.H_0 H X.s_0.heap s.heap
  loc : ∃ m, s.heap.Ns X.env.locals m ∧ ∀ (i : Nat) (x : Str) (v : V), X.N[i]? = some x → σ[i]? = some (some v) → Vis X.env.scope x → ∃ u, RelV v u ∧ Look X.env s.heap m x u
  cell : ∀ x c, X.env.cells.lookup x = some c → ∃ v, s.heap.IsCell c v
  free : H X.env.locals = none
  freeC : ∀ x c, X.env.cells.lookup x = some c → H c = none
  pin : ∀ p ∈ X.pn ++ pins, s.heap.get? p.1 = some p.2 ∧ H p.1 = none ∧ p.1 ≠ X.env.locals ∧ p.1 ∉ X.fs ∧ ∀ v, p.2.data ≠ .cell v
  hok : HOk X.prog X.w H s.heap
  len : σ.length = X.N.length

section
variable {X : Cx} {pins : List (Addr × Obj)} {σ : List (Option V)} {H H' : Hp} {s : Shared} {h' : Heap}

theorem Cx.Ok.nofr (ok : X.Ok) {b : Addr} {o : Obj} (e : X.base.get? b = some o) : b ∉ X.fs := fun hb => by
  have := (ok.funs.mem hb).1
  rw [e] at this; cases this
theorem Inv.bs (I : Inv X pins σ H s) : ∀ b o, X.base.get? b = some o → s.heap.get? b = some o ∧ H b = none := fun b o e =>
  ⟨I.base.keep b o (I.ok.bs b o e).1 (I.ok.bs b o e).2 (I.ok.nofr e) (I.ok.noex b o e), I.base.free b o (I.ok.bs b o e).1 (I.ok.bs b o e).2 (I.ok.noex b o e)⟩
theorem Inv.bk (I : Inv X pins σ H s) : ∀ b o, X.base.get? b = some o → s.heap.get? b = some o := fun b o e => (I.bs b o e).1
theorem Inv.mod (I : Inv X pins σ H s) : Mod X.K X.mg X.base := I.ok.mod
theorem Inv.kIn (I : Inv X pins σ H s) : X.K.In s.heap := I.ok.mod.kin.keeps I.bk
theorem Inv.lt (I : Inv X pins σ H s) : X.env.locals < s.heap.objs.size := let ⟨_, hn, _⟩ := I.loc; hn.lt
theorem Inv.sz (I : Inv X pins σ H s) : X.s_0.heap.objs.size ≤ s.heap.objs.size := Nat.le_trans I.ok.above (Nat.le_of_lt I.lt)
theorem Inv.nofs (I : Inv X pins σ H s) {a : Addr} (h : s.heap.objs.size ≤ a) : a ∉ X.fs := fun hb => by
  obtain ⟨_, o, ho, _⟩ := I.ok.funs.mem hb
  exact absurd (Nat.lt_of_lt_of_le (Heap.lt_size ho) (Nat.le_trans I.sz h)) (Nat.lt_irrefl _)
theorem Inv.cne (I : Inv X pins σ H s) : ∀ x c, X.env.cells.lookup x = some c → c ≠ X.env.locals := fun x c e z => by
  obtain ⟨v, o, ho, hd⟩ := I.cell x c e
  obtain ⟨m, ⟨o', es, ep, ho', hd', _⟩, _⟩ := I.loc
  rw [z, ho'] at ho; cases ho; rw [hd'] at hd; cases hd
theorem Inv.funs (I : Inv X pins σ H s) : s.heap.FunFrames X.base X.outer := by
  have all : ∀ (l : List Env), (∀ b ∈ frs l, b ∈ X.fs) → X.s_0.heap.FunFrames X.base l → s.heap.FunFrames X.base l := by
    intro l
    induction l with
    | nil => intro _ _; trivial
    | cons env r ih =>
      intro hs hl
      obtain ⟨hk, ⟨L, o, hf, hn, ho, hd⟩, hr⟩ := hl
      have hL : L ∈ X.fs := hs L (by unfold frs; rw [List.filterMap_cons, hf]; exact List.mem_cons_self)
      obtain ⟨sl, e⟩ := I.base.slot L o ho (I.ok.frf L hL) hL fun z => I.ok.exfs L z hL
      exact ⟨hk, ⟨L, _, hf, hn, e, hd⟩, ih (fun b hb => hs b (by unfold frs; rw [List.filterMap_cons, hf]; exact List.mem_cons_of_mem _ hb)) hr⟩
  exact all X.outer (fun _ hb => hb) I.ok.funs

/-- the frames that run, for a call -/
theorem Inv.stack (I : Inv X pins σ H s) : s.heap.FunFrames X.base X.stack := by
  rcases I.ok.stk with e | ⟨e, hf⟩
  · rw [e]; exact I.funs
  · rw [e]
    obtain ⟨m, hn, _⟩ := I.loc
    refine .cons (by rw [I.ok.kind]; decide) hf hn ?_ I.funs
    exact Heap.get?_none_of_le (Nat.le_trans I.ok.bsz I.ok.above)
theorem Inv.stkSub (I : Inv X pins σ H s) : ∀ b ∈ frs X.stack, b ∈ X.env.locals :: X.fs := fun b hb => by
  rcases I.ok.stk with e | ⟨e, hf⟩
  · rw [e] at hb; exact List.mem_cons_of_mem _ hb
  · rw [e] at hb
    unfold frs at hb
    rw [List.filterMap_cons, hf] at hb
    exact hb
theorem Inv.stkFree (I : Inv X pins σ H s) : ∀ b ∈ frs X.stack, H b = none := fun b hb => by
  rcases List.mem_cons.mp (I.stkSub b hb) with e | hb
  · rw [e]; exact I.free
  · obtain ⟨_, o, ho, _⟩ := I.ok.funs.mem hb
    exact I.base.free b o ho (I.ok.frf b hb) fun z => I.ok.exfs b z hb

/-- THE STEP: the untracked objects but the frame and the records at ch are kept (the callers' frames up to slots), the frame's map is kept, the new abstract heap is held -/
theorem Inv.step {g' : Array GenState} {t' : Nat} {d' : Drawn} {ch : List Addr} (I : Inv X pins σ H s)
    (hch : ∀ b ∈ ch, (b ∈ X.ex ∨ X.s_0.heap.objs.size ≤ b) ∧ b ≠ X.env.locals ∧ (∀ x c, X.env.cells.lookup x = some c → c ≠ b) ∧ ∀ p ∈ X.pn ++ pins, p.1 ≠ b)
    (keep : ∀ b o, b ≠ X.env.locals → b ∉ X.fs → b ∉ ch → s.heap.get? b = some o → H b = none → h'.get? b = some o)
    (slot : ∀ b o, b ≠ X.env.locals → b ∈ X.fs → b ∉ ch → s.heap.get? b = some o → H b = none → ∃ sl, h'.get? b = some { o with slots := sl }) (free : ∀ b o, b ∉ ch → s.heap.get? b = some o → H b = none → H' b = none)
    (there : ∀ b o, b ∉ ch → s.heap.get? b = some o → ∃ o', h'.get? b = some o')
    (tups : ∀ b xs, H b = some (.tup xs) → H' b = some (.tup xs)) (frzs : ∀ b o u, H b = some (.frz o u) → H' b = some (.frz o u)) (tbls : ∀ b ps, H b = some (.tbl ps) → ∃ more, H' b = some (.tbl (ps ++ more)))
    (ns : ∀ m, s.heap.Ns X.env.locals m → h'.Ns X.env.locals m) (hok : HOk X.prog X.w H' h') (hg : AllBare g') :
    Inv X pins σ H' { s with heap := h', gens := g', drawn := d', toks := t' } := by
  have neL : ∀ b o, X.s_0.heap.get? b = some o → b ≠ X.env.locals := fun b o e => Nat.ne_of_lt (Nat.lt_of_lt_of_le (Heap.lt_size e) I.ok.above)
  have neC : ∀ b o, X.s_0.heap.get? b = some o → b ∉ X.ex → b ∉ ch := fun b o e hx hb => by
    rcases (hch b hb).1 with z | z
    · exact hx z
    · exact absurd (Nat.lt_of_lt_of_le (Heap.lt_size e) z) (Nat.lt_irrefl _)
  have cellK : ∀ x c, X.env.cells.lookup x = some c → ∀ v, s.heap.IsCell c v → h'.IsCell c v := fun x c e v ⟨o, ho, hd⟩ => by
    have nch : c ∉ ch := fun z => (hch c z).2.2.1 x c e rfl
    by_cases hc : c ∈ X.fs
    · obtain ⟨sl, q⟩ := slot c o (I.cne x c e) hc nch ho (I.freeC x c e)
      exact ⟨_, q, hd⟩
    · exact ⟨o, keep c o (I.cne x c e) hc nch ho (I.freeC x c e), hd⟩
  refine ⟨I.ok, I.os, hg, ⟨fun b o e n hb hx => ?_, fun b o e n hb hx => ?_, fun b o e n hx => ?_, fun b o e hx => ?_, fun b xs e => tups b xs (I.base.tups b xs e), fun b o xs e => frzs b o xs (I.base.frzs b o xs e), fun b ps e => ?_⟩, ?_, fun x c e => ?_, ?_, fun x c e => ?_, fun p hp => ?_, hok, I.len⟩
  · exact keep b o (neL b o e) hb (neC b o e hx) (I.base.keep b o e n hb hx) (I.base.free b o e n hx)
  · obtain ⟨sl, e1⟩ := I.base.slot b o e n hb hx
    obtain ⟨sl', e2⟩ := slot b _ (neL b o e) hb (neC b o e hx) e1 (I.base.free b o e n hx)
    exact ⟨sl', e2⟩
  · obtain ⟨o', e1⟩ := I.base.there b o e hx
    exact free b o' (neC b o e hx) e1 (I.base.free b o e n hx)
  · obtain ⟨o', e1⟩ := I.base.there b o e hx
    exact there b o' (neC b o e hx) e1
  · obtain ⟨m1, e1⟩ := I.base.tbls b ps e
    obtain ⟨m2, e2⟩ := tbls b _ e1
    exact ⟨m1 ++ m2, by rw [e2, Array.append_assoc]⟩
  · obtain ⟨m, hn, hl⟩ := I.loc
    refine ⟨m, ns m hn, fun i x v e1 e2 e3 => ?_⟩
    obtain ⟨u, r, l⟩ := hl i x v e1 e2 e3
    refine ⟨u, r, ?_⟩
    rcases l with l | ⟨k, c, e, z⟩
    · exact .inl l
    · exact .inr ⟨k, c, e, cellK x c e _ z⟩
  · obtain ⟨v, z⟩ := I.cell x c e
    exact ⟨v, cellK x c e v z⟩
  · obtain ⟨m, ⟨o, _, _, ho, _⟩, _⟩ := I.loc
    exact free _ o (fun z => (hch _ z).2.1 rfl) ho I.free
  · obtain ⟨v, o, ho, hd⟩ := I.cell x c e
    exact free c o (fun z => (hch c z).2.2.1 x c e rfl) ho (I.freeC x c e)
  · obtain ⟨e, n, ne, nf, d⟩ := I.pin p hp
    have nch : p.1 ∉ ch := fun z => (hch p.1 z).2.2.2 p hp rfl
    exact ⟨keep p.1 p.2 ne nf nch e n, free p.1 p.2 nch e n, ne, nf, d⟩
/-- .. where the frame's own object is kept too -/
theorem Inv.un {t' : Nat} (I : Inv X pins σ H s) (u : Un X.fs [] H H' s.heap h') (hok : HOk X.prog X.w H' h') : Inv X pins σ H' { s with heap := h', toks := t' } := by
  obtain ⟨m, ⟨o, es, ep, ho, r⟩, _⟩ := id I.loc
  obtain ⟨sl, hL⟩ := u.any ho I.free (by simp)
  exact I.step (g' := s.gens) (d' := s.drawn) (ch := []) (fun _ z => nomatch z) (fun b o _ hb _ e n => u.keep b o e n hb (by simp)) (fun b o _ hb _ e n => u.slot b o e n hb (by simp)) (fun b o _ e n => u.free b o e n (by simp)) (fun b o _ e => u.there b o e (by simp)) u.tups u.frzs u.tbls (fun m' hm => by
    obtain ⟨o', es', ep', ho', r'⟩ := hm
    rw [ho] at ho'; cases ho'
    exact ⟨_, es', ep', hL, r'⟩) hok I.bare
/-- behind a call (or a comprehension's block): the slots of this frame may have changed too, the records at ch may have turned -/
theorem Inv.call {g' : Array GenState} {t' : Nat} {d' : Drawn} {ch : List Addr} (I : Inv X pins σ H s) (u : Un (frs X.stack) ch H H' s.heap h') (hok : HOk X.prog X.w H' h') (hg : AllBare g')
    (hch : ∀ b ∈ ch, (b ∈ X.ex ∨ X.s_0.heap.objs.size ≤ b) ∧ b ≠ X.env.locals ∧ (∀ x c, X.env.cells.lookup x = some c → c ≠ b) ∧ ∀ p ∈ X.pn ++ pins, p.1 ≠ b) :
    Inv X pins σ H' { s with heap := h', gens := g', drawn := d', toks := t' } := by
  obtain ⟨m, ⟨o, es, ep, ho, r⟩, _⟩ := id I.loc
  obtain ⟨sl, hL⟩ := u.any ho I.free fun z => (hch _ z).2.1 rfl
  exact I.step (ch := ch) hch (fun b o hL hb hc e n => u.keep b o e n (fun z => (List.mem_cons.mp (I.stkSub b z)).elim hL hb) hc) (fun b o _ _ hc e n => u.any e n hc) (fun b o hc e n => u.free b o e n hc) (fun b o hc e => u.there b o e hc) u.tups u.frzs u.tbls (fun m' hm => by
    obtain ⟨o', es', ep', ho', r'⟩ := hm
    rw [ho] at ho'; cases ho'
    exact ⟨_, es', ep', hL, r'⟩) hok hg
/-- an untracked record of ours (an iterator) has turned -/
theorem Inv.turned {t' : Nat} {it : Addr} (I : Inv X pins σ H s) (k : ∀ b o, b ≠ it → s.heap.get? b = some o → h'.get? b = some o) (hn : H it = none) (hL : it ≠ X.env.locals)
    (h1 : it ∈ X.ex ∨ X.s_0.heap.objs.size ≤ it) (h2 : ∀ x c, X.env.cells.lookup x = some c → c ≠ it) (h3 : ∀ p ∈ X.pn ++ pins, p.1 ≠ it) : Inv X pins σ H { s with heap := h', toks := t' } := by
  have nit : ∀ b u, H b = some u → b ≠ it := fun b u e z => by rw [z, hn] at e; cases e
  refine I.step (g' := s.gens) (d' := s.drawn) (ch := [it]) (fun b hb => ?_) (fun b o _ _ hc e _ => k b o (fun z => hc (by simp [z])) e) (fun b o _ _ hc e _ => ⟨o.slots, k b o (fun z => hc (by simp [z])) e⟩) (fun _ _ _ _ n => n)
    (fun b o hc e => ⟨o, k b o (fun z => hc (by simp [z])) e⟩) (fun _ _ e => e) (fun _ _ _ e => e) (fun b ps e => ⟨#[], by rw [e]; simp⟩) (fun m hm => ?_) (fun b u e => ?_) I.bare
  · have e : b = it := by simpa using hb
    subst e
    exact ⟨h1, hL, h2, h3⟩
  · obtain ⟨o, es, ep, ho, r⟩ := hm
    exact ⟨o, es, ep, k _ o (Ne.symm hL) ho, r⟩
  · refine (I.hok b u e).stay (fun c v hc q => k c v ?_ q) (fun _ q => q) fun _ _ q => q
    rcases hc with z | z
    · rw [z]; exact nit b u e
    · exact nit c _ z
theorem Inv.tok (I : Inv X pins σ H s) (t : Nat) : Inv X pins σ H { s with toks := t } := I.un (h' := s.heap) (t' := t) Un.refl I.hok
/-- all objects kept -/
theorem Inv.kept {t' : Nat} (I : Inv X pins σ H s) (k : ∀ b u, s.heap.get? b = some u → h'.get? b = some u) : Inv X pins σ H { s with heap := h', toks := t' } := I.un (Un.kept k) (I.hok.kept k)
/-- a new object laid and tracked -/
theorem Inv.laid {a : Addr} {o : HO} {t' : Nat} (I : Inv X pins σ H s) (k : ∀ b u, s.heap.get? b = some u → h'.get? b = some u) (hp : s.heap.objs.size ≤ a) (new : ObjOk X.prog X.w (upd H a o) h' a o) :
    Inv X pins σ (upd H a o) { s with heap := h', toks := t' } := I.un (Un.laid k hp (I.hok.fresh hp)) (I.hok.laid k hp new)
/-- an object written -/
theorem Inv.write {x e : Addr} {o : HO} {t' : Nat} (I : Inv X pins σ H s) (mu : Mut (H x)) (he : e = x ∨ H e = some (.own x)) (k : ∀ b u, b ≠ e → s.heap.get? b = some u → h'.get? b = some u) (heo : ∃ u, h'.get? e = some u)
    (new : ObjOk X.prog X.w (upd H x o) h' x o) : Inv X pins σ (upd H x o) { s with heap := h', toks := t' } := I.un (Un.write mu he k heo) (I.hok.write mu he k heo new)
/-- forgetting slots, pins -/
theorem Inv.weak {σ' : List (Option V)} (I : Inv X pins σ H s) (hl : σ'.length = σ.length) (w : ∀ (i : Nat) v, σ'[i]? = some (some v) → σ[i]? = some (some v)) : Inv X pins σ' H s :=
  ⟨I.ok, I.os, I.bare, I.base, let ⟨m, hn, hl'⟩ := I.loc; ⟨m, hn, fun i x v e1 e2 e3 => hl' i x v e1 (w i v e2) e3⟩, I.cell, I.free, I.freeC, I.pin, I.hok, hl.trans I.len⟩
theorem Inv.pins_of {pins' : List (Addr × Obj)} (I : Inv X pins σ H s) (h : ∀ p ∈ pins', s.heap.get? p.1 = some p.2 ∧ H p.1 = none ∧ p.1 ≠ X.env.locals ∧ p.1 ∉ X.fs ∧ ∀ v, p.2.data ≠ .cell v) : Inv X pins' σ H s :=
  ⟨I.ok, I.os, I.bare, I.base, I.loc, I.cell, I.free, I.freeC, fun p hp => (List.mem_append.mp hp).elim (fun z => I.pin p (List.mem_append_left _ z)) (h p), I.hok, I.len⟩

theorem nodup_ix {N : List Str} (hN : N.Nodup) {i j : Nat} {x : Str} (a : N[i]? = some x) (b : N[j]? = some x) : i = j := by
  obtain ⟨h1, e1⟩ := List.getElem?_eq_some_iff.mp a
  obtain ⟨h2, e2⟩ := List.getElem?_eq_some_iff.mp b
  exact (List.getElem_inj hN).mp (e1.trans e2.symm)

/-- a name is stored; what changed -/
theorem store_ok2 {M : Model} {A : Around} {E : Value → Shared → Prop} {i : Nat} {x : Str} {v : V} {u : Value} {Q : Unit → Shared → Prop} (I : Inv X pins σ H s) (hN : X.N.Nodup) (hi : X.N[i]? = some x) (hx : Loc X.env.scope x) (r : RelV v u)
    (h : ∀ s', Inv X pins (σ.set i (some v)) H s' → (∃ a, Heap.SameBut a s.heap s'.heap ∧ (a = X.env.locals ∨ X.env.cells.lookup x = some a)) → Q () s') (hf : X.fn x = true ∨ X.env.scope.names.lookup x = some .local := by first | exact .inl rfl | exact .inr rfl | assumption) : wpAny M A (storeName X.env x u) Q E s := by
  obtain ⟨m, hn, hl⟩ := id I.loc
  have hcls : (X.env.scope.kind == .class || (X.env.scope.kind == .module && X.env.locals != X.env.globals)) = false := by rw [I.ok.kind]; rfl
  have hiσ : i < σ.length := by rw [I.len]; exact (List.getElem?_eq_some_iff.mp hi).1
  have cne := I.cne
  have tracked : ∀ {a : Addr} {h' : Heap}, (∃ o, s.heap.get? a = some o ∧ H a = none) → Heap.SameBut a s.heap h' → HOk X.prog X.w H h' := fun {a h'} ha hs b ob e => by
    obtain ⟨_, _, hfree⟩ := ha
    refine (I.hok b ob e).stay (fun c w' hc q => (hs.2 c ?_).trans q) (fun _ q => q) fun _ _ q => q
    rintro rfl
    rcases hc with rfl | hc
    · rw [hfree] at e; cases e
    · rw [hfree] at hc; cases hc
  rcases hx with hk | hk
  · refine wpAny_storeName_local hk hn (fun h' hn' hs => ?_) hcls
    obtain ⟨oL, _, _, hoL, _⟩ := id hn
    refine h _ ⟨I.ok, I.os, I.bare, ⟨fun b o e n hb hx => ?_, fun b o e n hb hx => ?_, I.base.free, fun b o e hx => ?_, I.base.tups, I.base.frzs, I.base.tbls⟩, ⟨_, hn', fun j y v' e1 e2 e3 => ?_⟩, fun y c e => ?_, I.free, I.freeC, fun p hp => ?_, tracked ⟨oL, hoL, I.free⟩ hs, by simpa using I.len⟩ ⟨_, hs, .inl rfl⟩
    · exact (hs.2 b (Nat.ne_of_lt (Nat.lt_of_lt_of_le (Heap.lt_size e) I.ok.above))).trans (I.base.keep b o e n hb hx)
    · obtain ⟨sl, e1⟩ := I.base.slot b o e n hb hx
      exact ⟨sl, (hs.2 b (Nat.ne_of_lt (Nat.lt_of_lt_of_le (Heap.lt_size e) I.ok.above))).trans e1⟩
    · obtain ⟨o', e1⟩ := I.base.there b o e hx
      exact ⟨o', (hs.2 b (Nat.ne_of_lt (Nat.lt_of_lt_of_le (Heap.lt_size e) I.ok.above))).trans e1⟩
    · by_cases hj : j = i
      · subst hj
        rw [hi] at e1; cases e1
        rw [List.getElem?_set_self hiσ] at e2
        cases e2
        exact ⟨u, r, .inl ⟨hk, by simp⟩⟩
      · rw [List.getElem?_set_ne (Ne.symm hj)] at e2
        obtain ⟨u', r', q⟩ := hl j y v' e1 e2 e3
        refine ⟨u', r', ?_⟩
        rcases q with ⟨k, e⟩ | ⟨k, c, e, z⟩
        · refine .inl ⟨k, ?_⟩
          have : y ≠ x := fun e => hj (nodup_ix hN e1 (e ▸ hi))
          simp [this, e]
        · exact .inr ⟨k, c, e, z.sameBut hs (cne y c e)⟩
    · obtain ⟨w', z⟩ := I.cell y c e
      exact ⟨w', z.sameBut hs (cne y c e)⟩
    · obtain ⟨e, n, ne, nf, d⟩ := I.pin p hp
      exact ⟨(hs.2 p.1 ne).trans e, n, ne, nf, d⟩
  · have hfn : X.fn x = true := by
      rcases hf with z | z
      · exact z
      · rw [z] at hk; cases hk
    obtain ⟨c, hc⟩ := I.ok.has x (.inl hk)
    obtain ⟨w', z⟩ := I.cell x c hc
    refine wpAny_storeName_cell I.ok.kind hk hc z (fun h' hc' hs => ?_)
    obtain ⟨oc, hoc, hocd⟩ := id z
    refine h { s with heap := h' } ⟨I.ok, I.os, I.bare, ⟨fun b o e n hb hx => ?_, fun b o e n hb hx => ?_, I.base.free, fun b o e hx => ?_, I.base.tups, I.base.frzs, I.base.tbls⟩, ⟨m, hn.sameBut hs (Ne.symm (cne x c hc)), fun j y v' e1 e2 e3 => ?_⟩, fun y c' e => ?_, I.free, I.freeC, fun p hp => ?_, tracked ⟨oc, hoc, I.freeC x c hc⟩ hs, by simpa using I.len⟩ ⟨c, hs, .inr hc⟩
    · exact (hs.2 b (Nat.ne_of_lt (Nat.lt_of_lt_of_le (Heap.lt_size e) (I.ok.cab x c hfn hc)))).trans (I.base.keep b o e n hb hx)
    · obtain ⟨sl, e1⟩ := I.base.slot b o e n hb hx
      exact ⟨sl, (hs.2 b (Nat.ne_of_lt (Nat.lt_of_lt_of_le (Heap.lt_size e) (I.ok.cab x c hfn hc)))).trans e1⟩
    · obtain ⟨o', e1⟩ := I.base.there b o e hx
      exact ⟨o', (hs.2 b (Nat.ne_of_lt (Nat.lt_of_lt_of_le (Heap.lt_size e) (I.ok.cab x c hfn hc)))).trans e1⟩
    · by_cases hj : j = i
      · subst hj
        rw [hi] at e1; cases e1
        rw [List.getElem?_set_self hiσ] at e2
        cases e2
        exact ⟨u, r, .inr ⟨.inl hk, c, hc, hc'⟩⟩
      · rw [List.getElem?_set_ne (Ne.symm hj)] at e2
        obtain ⟨u', r', q⟩ := hl j y v' e1 e2 e3
        refine ⟨u', r', ?_⟩
        rcases q with q | ⟨k, c', e, z'⟩
        · exact .inl q
        · refine .inr ⟨k, c', e, z'.sameBut hs ?_⟩
          rintro rfl
          exact hj (nodup_ix hN e1 (I.ok.inj _ _ _ e hc ▸ hi))
    · by_cases hcc : c' = c
      · subst hcc; exact ⟨_, hc'⟩
      · obtain ⟨w2, z2⟩ := I.cell y c' e
        exact ⟨w2, z2.sameBut hs hcc⟩
    · obtain ⟨e, n, ne, nf, d⟩ := I.pin p hp
      refine ⟨(hs.2 p.1 ?_).trans e, n, ne, nf, d⟩
      intro q
      rw [q, hoc] at e
      have q' : oc = p.2 := Option.some.inj e
      exact d w' (by rw [← q']; exact hocd)
theorem store_ok {M : Model} {A : Around} {E : Value → Shared → Prop} {i : Nat} {x : Str} {v : V} {u : Value} {Q : Unit → Shared → Prop} (I : Inv X pins σ H s) (hN : X.N.Nodup) (hi : X.N[i]? = some x) (hx : Loc X.env.scope x) (r : RelV v u)
    (h : ∀ s', Inv X pins (σ.set i (some v)) H s' → Q () s') (hf : X.fn x = true ∨ X.env.scope.names.lookup x = some .local := by first | exact .inl rfl | exact .inr rfl | assumption) : wpAny M A (storeName X.env x u) Q E s :=
  store_ok2 I hN hi hx r (fun s' I' _ => h s' I') hf
/-- behind a call or a block, the state as it is -/
theorem Inv.call' {s' : Shared} {ch : List Addr} (I : Inv X pins σ H s) (ho : s'.os = s.os) (u : Un (frs X.stack) ch H H' s.heap s'.heap) (hok : HOk X.prog X.w H' s'.heap) (hg : AllBare s'.gens)
    (hch : ∀ b ∈ ch, (b ∈ X.ex ∨ X.s_0.heap.objs.size ≤ b) ∧ b ≠ X.env.locals ∧ (∀ x c, X.env.cells.lookup x = some c → c ≠ b) ∧ ∀ p ∈ X.pn ++ pins, p.1 ≠ b) : Inv X pins σ H' s' := by
  obtain ⟨h', g', d', t', o'⟩ := s'
  have e : o' = s.os := ho
  subst e
  exact I.call (g' := g') (t' := t') (d' := d') u hok hg hch
end

/-! ### the judgements -/
/-- an exception: its class, its own dict's address (where it has one), the abstract heap behind it -/
abbrev XK := Value → Option Addr → Hp → Prop
abbrev St := List (Option V)
abbrev VK := V → Hp → Prop
/-- an expression's reading; a test's; an argument list's -/
abbrev TE := St → Hp → VK → Prop
abbrev TT := St → Hp → (Bool → Hp → Prop) → Prop
abbrev TA := St → Hp → (List V → Hp → Prop) → Prop
/-- what is wanted behind a statement -/
structure Ends where
  nx : St → Hp → Prop
  rt : VK
  bk : St → Hp → Prop := fun _ _ => False
  ct : St → Hp → Prop := fun _ _ => False
abbrev TS := Ends → St → Hp → Prop

def EP (X : Cx) (pins : List (Addr × Obj)) (σ : St) (Q : VK) (u : Value) (s' : Shared) : Prop := ∃ v H', Inv X pins σ H' s' ∧ RelV v u ∧ Q v H'
def TP (X : Cx) (pins : List (Addr × Obj)) (σ : St) (Q : Bool → Hp → Prop) (b : Bool) (s' : Shared) : Prop := ∃ H', Inv X pins σ H' s' ∧ Q b H'
def AP (X : Cx) (pins : List (Addr × Obj)) (σ : St) (Q : List V → Hp → Prop) (us : List Value) (s' : Shared) : Prop := ∃ vs H', Inv X pins σ H' s' ∧ Vals vs us ∧ Q vs H'
def SP (X : Cx) (pins : List (Addr × Obj)) (D : Ends) (f : Flow) (s' : Shared) : Prop :=
  match f with
  | .next => ∃ σ' H', Inv X pins σ' H' s' ∧ D.nx σ' H'
  | .brk => ∃ σ' H', Inv X pins σ' H' s' ∧ D.bk σ' H'
  | .cont => ∃ σ' H', Inv X pins σ' H' s' ∧ D.ct σ' H'
  | .ret u => ∃ v σ' H', Inv X pins σ' H' s' ∧ RelV v u ∧ D.rt v H'

def PE (X : Cx) (e : Expr) (t : TE) : Prop :=
  ∀ (pins : List (Addr × Obj)) (s : Shared) (σ : St) (H : Hp) (Q : VK), Inv X pins σ H s → t σ H Q → wpAny (model X.prog X.w) X.A (eval e X.env) (EP X pins σ Q) X.xe s
def PT (X : Cx) (e : Expr) (t : TT) : Prop :=
  ∀ (pins : List (Addr × Obj)) (s : Shared) (σ : St) (H : Hp) (Q : Bool → Hp → Prop), Inv X pins σ H s → t σ H Q → wpAny (model X.prog X.w) X.A (isTrue e X.env (eval e X.env)) (TP X pins σ Q) X.xe s
/-- a test whatever its 'whole' is (and, or) -/
def PW (X : Cx) (e : Expr) (t : TT) : Prop :=
  ∀ (whole : Sem Value) (pins : List (Addr × Obj)) (s : Shared) (σ : St) (H : Hp) (Q : Bool → Hp → Prop), Inv X pins σ H s → t σ H Q → wpAny (model X.prog X.w) X.A (isTrue e X.env whole) (TP X pins σ Q) X.xe s
theorem PW.pt {X : Cx} {e : Expr} {t : TT} (h : PW X e t) : PT X e t := h _
/-- an argument list (no star), from the left -/
def PA (X : Cx) (es : List Expr) (t : TA) : Prop :=
  ∀ (pos : Pos) (pins : List (Addr × Obj)) (s : Shared) (σ : St) (H : Hp) (Q : List V → Hp → Prop), Inv X pins σ H s → t σ H Q → wpAny (model X.prog X.w) X.A (spliced (backTo pos (starEach es X.env))) (AP X pins σ Q) X.xe s
def PS (X : Cx) (st : Stmt) (t : TS) : Prop :=
  ∀ (pins : List (Addr × Obj)) (s : Shared) (σ : St) (H : Hp) (D : Ends), Inv X pins σ H s → t D σ H → wpAny (model X.prog X.w) X.A (exec st X.env) (SP X pins D) X.xe s
def PSs (X : Cx) (st : List Stmt) (t : TS) : Prop :=
  ∀ (pins : List (Addr × Obj)) (s : Shared) (σ : St) (H : Hp) (D : Ends), Inv X pins σ H s → t D σ H → wpAny (model X.prog X.w) X.A (execs st X.env) (SP X pins D) X.xe s
/-- weaken the end -/
theorem thn {α : Type} {t : Sem α} {Q Q' : α → Shared → Prop} {M : Model} {A : Around} {E : Value → Shared → Prop} {s : Shared} (h : wpAny M A t Q E s) (hQ : ∀ a s, Q a s → Q' a s) : wpAny M A t Q' E s := wpAny_mono h hQ fun _ _ x => x
end L2

namespace L2
open PySem PySem.Spec PyProof.Rows
section
variable {X : Cx}


/-! ### names and constants -/
def tVar (i : Nat) : TE := fun σ H Q => ∃ v, σ[i]? = some (some v) ∧ Q v H
def tC (v : V) : TE := fun _ H Q => Q v H
theorem pe_var {i : Nat} {x : Str} {pos : Pos} (hN : X.N[i]? = some x) (hv : Vis X.env.scope x) (hd : (x == ("__debug__" : Str)) = false := by decide) (hcd : (x == ("__classdict__" : Str)) = false := by decide) : PE X (.Name x pos) (tVar i) := by
  intro pins s σ H Q I h
  obtain ⟨v, e, h⟩ := h
  obtain ⟨m, hn, hl⟩ := I.loc
  obtain ⟨u, r, l⟩ := hl i x v hN e hv
  have fin : EP X pins σ Q u s := ⟨v, H, I, r, h⟩
  rcases l with ⟨hk, hm⟩ | ⟨hk, c, hc, hcell⟩
  · exact wpAny_Name (wpAny_loadName_local I.ok.kind hk hn hm fin) hd
  · rcases hk with hk | hk
    · exact wpAny_Name (wpAny_loadName_cell I.ok.kind hk hc hcell fin) hd
    · exact wpAny_Name (wpAny_loadName_free I.ok.kind hk hc hcell fin hcd) hd
theorem pe_int {i j pos} : PE X (.Constant (.int i) j pos) (tC (.int i)) := fun _ _ _ H _ I h => wpAny_Constant_int ⟨.int i, H, I.tok _, ⟨_, rfl⟩, h⟩
theorem pe_bl {b j pos} : PE X (.Constant (.bool b) j pos) (tC (.bl b)) := fun _ _ _ H _ I h => Constant_bool ⟨.bl b, H, I, rfl, h⟩
theorem pe_non {j pos} : PE X (.Constant .none j pos) (tC .non) := fun _ _ _ H _ I h => Constant_none ⟨.non, H, I, rfl, h⟩

/-- a global name of the def -/
def Gl (X : Cx) (x : Str) : Prop := X.env.kindOf x = some .globalImplicit
theorem ld_glob {E : Value → Shared → Prop} {pins : List (Addr × Obj)} {s : Shared} {σ : St} {H : Hp} {x : Str} {u : Value} {pos : Pos} {Q : Value → Shared → Prop} (I : Inv X pins σ H s) (hg : Gl X x) (hm : X.mg x = some u) (h : Q u s)
    (hd : (x == ("__debug__" : Str)) = false := by decide) : wpAny (model X.prog X.w) X.A (eval (.Name x pos) X.env) Q E s :=
  Calls.Name_function_global I.ok.kind hg (Calls.loadGlobal_global (by rw [I.ok.glob]; exact I.mod.glob.keeps I.bk) hm h) hd
theorem ld_blt {E : Value → Shared → Prop} {pins : List (Addr × Obj)} {s : Shared} {σ : St} {H : Hp} {x : Str} {u : Value} {pos : Pos} {Q : Value → Shared → Prop} (I : Inv X pins σ H s) (hg : Gl X x) (hm : X.mg x = none) (hv : bootBuiltins x = some u) (h : Q u s)
    (hn : x ≠ "__name__" := by decide) (hd : (x == ("__debug__" : Str)) = false := by decide) : wpAny (model X.prog X.w) X.A (eval (.Name x pos) X.env) Q E s := by
  obtain ⟨mb, h1, h2⟩ := I.mod.blt
  exact Calls.Name_function_global I.ok.kind hg (Calls.loadGlobal_builtin (by rw [I.ok.glob]; exact I.mod.glob.keeps I.bk) hm (by rw [I.ok.blt]; exact h1.keeps I.bk) ((h2 x hn).trans hv) h) hd
/-- a module's constant, a class, a function, as a value -/
theorem pe_glob {x : Str} {v : V} {u : Value} {pos : Pos} (hg : Gl X x) (hm : X.mg x = some u) (r : RelV v u) (hd : (x == ("__debug__" : Str)) = false := by decide) : PE X (.Name x pos) (tC v) :=
  fun _ _ _ H _ I h => ld_glob I hg hm ⟨v, H, I, r, h⟩ hd

/-! ### arithmetic -/
variable {a b : Expr} {ta tb : TE} {pos : Pos}

/-! ### comparisons -/
/-- a comparison as a value, as a test -/
def tB (t : TE) : TT := fun σ H Q => t σ H fun x H1 => ∃ c, x = .bl c ∧ Q c H1
/-- an expression whose value is a bool, as a test -/
theorem pt_val {e : Expr} {t : TE} (h : PE X e t) (he : ∀ whole, isTrue e X.env whole = (do let v ← whole; standAt e.pos; holding [v] (truthy v)) := by intro _; rfl) : PT X e (tB t) := by
  intro pins s σ H Q I hw
  refine isTrue_plain (thn (h pins s σ H _ I hw) fun v s1 ⟨x, H1, I1, r1, q1⟩ => ?_) (he _)
  obtain ⟨d, rfl, q⟩ := q1
  cases r1
  exact wpAny_truthy_bool ⟨H1, I1, q⟩

/-! ### and, or, not -/
variable {tA tB' : TT} {rest : List Expr}
def tAnd (t u : TT) : TT := fun σ H Q => t σ H fun c H1 => if c = true then u σ H1 Q else Q false H1
def tOr (t u : TT) : TT := fun σ H Q => t σ H fun c H1 => if c = true then Q true H1 else u σ H1 Q
def tNot (t : TT) : TT := fun σ H Q => t σ H fun c H1 => Q (!c) H1
theorem pw_and1 (ha : PT X a tA) : PW X (.BoolOp .And [a] pos) tA := by
  intro wh pins s σ H Q I h
  refine isTrue_and (thn (ha pins s σ H Q I h) fun c s1 e => ?_)
  cases c with
  | true => exact isTrue_and_nil e
  | false => exact e
theorem pw_or1 (ha : PT X a tA) : PW X (.BoolOp .Or [a] pos) tA := by
  intro wh pins s σ H Q I h
  refine isTrue_or (thn (ha pins s σ H Q I h) fun c s1 e => ?_)
  cases c with
  | false => exact isTrue_or_nil e
  | true => exact e
theorem pw_and (ha : PT X a tA) (hb : PW X (.BoolOp .And (b :: rest) pos) tB') : PW X (.BoolOp .And (a :: b :: rest) pos) (tAnd tA tB') := by
  intro wh pins s σ H Q I h
  refine isTrue_and (thn (ha pins s σ H _ I h) fun c s1 ⟨H1, I1, q1⟩ => ?_)
  cases c with
  | true => exact hb wh pins s1 σ H1 Q I1 q1
  | false => exact ⟨H1, I1, q1⟩
theorem pw_or (ha : PT X a tA) (hb : PW X (.BoolOp .Or (b :: rest) pos) tB') : PW X (.BoolOp .Or (a :: b :: rest) pos) (tOr tA tB') := by
  intro wh pins s σ H Q I h
  refine isTrue_or (thn (ha pins s σ H _ I h) fun c s1 ⟨H1, I1, q1⟩ => ?_)
  cases c with
  | true => exact ⟨H1, I1, q1⟩
  | false => exact hb wh pins s1 σ H1 Q I1 q1
theorem pt_not (ha : PT X a tA) : PT X (.UnaryOp .Not a pos) (tNot tA) := by
  intro pins s σ H Q I h
  exact isTrue_not (ha pins s σ H (fun c H1 => Q (!c) H1) I h)
/-- .. as values (bools) -/
def tAndV (ta tb : TE) : TE := fun σ H Q => ta σ H fun x H1 => ∃ c, x = .bl c ∧ if c = true then tb σ H1 Q else Q (.bl false) H1
def tOrV (ta tb : TE) : TE := fun σ H Q => ta σ H fun x H1 => ∃ c, x = .bl c ∧ if c = true then Q (.bl true) H1 else tb σ H1 Q
theorem pe_one {op} {t : TE} (h : PE X a t) : PE X (.BoolOp op [a] pos) t := fun pins s σ H Q I hw => BoolOp_one (h pins s σ H Q I hw)
theorem pe_and (ha : PE X a ta) (hb : PE X (.BoolOp .And (b :: rest) pos) tb) : PE X (.BoolOp .And (a :: b :: rest) pos) (tAndV ta tb) := by
  intro pins s σ H Q I h
  refine BoolOp_and (thn (ha pins s σ H _ I h) fun v s1 ⟨x, H1, I1, r1, q1⟩ => ?_)
  obtain ⟨c, rfl, q1⟩ := q1
  cases r1
  refine wpAny_truthy_bool ?_
  cases c with
  | true => exact hb pins s1 σ H1 Q I1 q1
  | false => exact ⟨.bl false, H1, I1, rfl, q1⟩
theorem pe_or (ha : PE X a ta) (hb : PE X (.BoolOp .Or (b :: rest) pos) tb) : PE X (.BoolOp .Or (a :: b :: rest) pos) (tOrV ta tb) := by
  intro pins s σ H Q I h
  refine BoolOp_or (thn (ha pins s σ H _ I h) fun v s1 ⟨x, H1, I1, r1, q1⟩ => ?_)
  obtain ⟨c, rfl, q1⟩ := q1
  cases r1
  refine wpAny_truthy_bool ?_
  cases c with
  | false => exact hb pins s1 σ H1 Q I1 q1
  | true => exact ⟨.bl true, H1, I1, rfl, q1⟩
/-- a if t else b -/
def tIf (t : TT) (ta tb : TE) : TE := fun σ H Q => t σ H fun c H1 => if c = true then ta σ H1 Q else tb σ H1 Q
theorem pe_ifExp {c : Expr} (hc : PT X c tA) (ha : PE X a ta) (hb : PE X b tb) : PE X (.IfExp c a b pos) (tIf tA ta tb) := by
  intro pins s σ H Q I h
  refine wpAny_IfExp (thn (hc pins s σ H _ I h) fun d s1 ⟨H1, I1, q1⟩ => ?_)
  cases d with
  | true => exact ha pins s1 σ H1 Q I1 q1
  | false => exact hb pins s1 σ H1 Q I1 q1
end
end L2

namespace L2
open PySem PySem.Spec PyProof.Rows

/-! ### a list, a tuple that is read: tracked, frozen, or an object of the module -/
def SqL (K : PySem.W.Frag) (H : Hp) (a : Addr) (xs : List V) : Prop :=
  Rd H a (.lst xs) ∨
    ∃ (o : Obj) (its : Array Value) (n : Nat), K.lookup a = some o ∧ o.cls = .type "list" ∧ o.dict = none ∧ o.data = .seq its n ∧ its.size ≤ sizeLine ∧ Vals xs its.toList
def SqT (K : PySem.W.Frag) (H : Hp) (a : Addr) (xs : List V) : Prop :=
  Rd H a (.tup xs) ∨
    ∃ (o : Obj) (its : Array Value) (n : Nat), K.lookup a = some o ∧ o.cls = .type "tuple" ∧ o.data = .seq its n ∧ its.size ≤ sizeLine ∧ Vals xs its.toList
def absV : Value → Option V
  | .none => some .non
  | .bool b => some (.bl b)
  | .int i _ => some (.int i)
  | .str x _ => some (.str x)
  | .bytes b _ => some (.byt b)
  | .float b _ => some (.flt b)
  | .ref a => some (.ref a)
  | .type n => some (.ty n)
  | _ => none
theorem RelV.abs {x : V} {u : Value} (r : RelV x u) : absV u = some x := by
  cases x with
  | non => cases r; rfl
  | bl _ => cases r; rfl
  | int _ => obtain ⟨t, rfl⟩ := r; rfl
  | str _ => obtain ⟨t, rfl⟩ := r; rfl
  | byt _ => obtain ⟨t, rfl⟩ := r; rfl
  | flt _ => obtain ⟨t, rfl⟩ := r; rfl
  | ref _ => cases r; rfl
  | ty _ => cases r; rfl
theorem RelV.inj {x y : V} {u : Value} (r : RelV x u) (q : RelV y u) : x = y := Option.some.inj (r.abs.symm.trans q.abs)
theorem Vals.inj : ∀ {xs ys : List V} {us : List Value}, Vals xs us → Vals ys us → xs = ys
  | _, _, _, .nil, .nil => rfl
  | _, _, _, .cons r t, .cons r' t' => by rw [r.inj r', Vals.inj t t']
section
variable {X : Cx} {pins : List (Addr × Obj)} {σ : St} {H : Hp} {s : Shared} {a : Addr} {xs ys : List V}
theorem SqL.of {K : PySem.W.Frag} (h : H a = some (.lst xs)) : SqL K H a xs := .inl (.inl h)
theorem SqT.of {K : PySem.W.Frag} (h : H a = some (.tup xs)) : SqT K H a xs := .inl (.inl h)
theorem Inv.list (I : Inv X pins σ H s) (h : SqL X.K H a xs) : ∃ its : List Value, Vals xs its ∧ PlainL s.heap a its.toArray ∧ xs.length ≤ sizeLine := by
  rcases h with h | ⟨o, its, n, hk, hc, hd, hs, hz, r⟩
  · obtain ⟨z, its, n, r, e⟩ := h.ok I.hok
    exact ⟨its, r, ⟨_, n, e, rfl, rfl, rfl⟩, z⟩
  · refine ⟨its.toList, r, ⟨o, n, I.kIn a o hk, hc, hd, by simpa using hs⟩, ?_⟩
    have e := r.length
    simp only [Array.length_toList] at e
    omega
theorem Inv.tuple (I : Inv X pins σ H s) (h : SqT X.K H a xs) : ∃ its : List Value, Vals xs its ∧ IsTup s.heap a its.toArray ∧ xs.length ≤ sizeLine := by
  rcases h with h | ⟨o, its, n, hk, hc, hs, hz, r⟩
  · obtain ⟨z, its, r, p⟩ := h.ok I.hok
    exact ⟨its, r, p, z⟩
  · refine ⟨its.toList, r, ⟨o, I.kIn a o hk, hc, n, by simpa using hs⟩, ?_⟩
    have e := r.length
    simp only [Array.length_toList] at e
    omega
theorem Inv.list_inj (I : Inv X pins σ H s) (h : SqL X.K H a xs) (h' : SqL X.K H a ys) : xs = ys := by
  obtain ⟨its, r, ⟨o, n, e, _, _, d⟩, _⟩ := I.list h
  obtain ⟨its', r', ⟨o', n', e', _, _, d'⟩, _⟩ := I.list h'
  rw [e] at e'; cases e'
  rw [d] at d'
  injection d' with d1 _
  have : its = its' := by simpa using congrArg Array.toList d1
  subst this
  exact r.inj r'
theorem Inv.tuple_inj (I : Inv X pins σ H s) (h : SqT X.K H a xs) (h' : SqT X.K H a ys) : xs = ys := by
  obtain ⟨its, r, ⟨o, e, _, n, d⟩, _⟩ := I.tuple h
  obtain ⟨its', r', ⟨o', e', _, n', d'⟩, _⟩ := I.tuple h'
  rw [e] at e'; cases e'
  rw [d] at d'
  injection d' with d1 _
  have : its = its' := by simpa using congrArg Array.toList d1
  subst this
  exact r.inj r'
end

/-! ### another wish about exceptions -/
abbrev Cx.wish (X : Cx) (E : Value → Shared → Prop) : Cx := { X with xe := E }
/-- no exception leaves -/
abbrev Cx.nox (X : Cx) : Cx := X.wish fun _ _ => False
theorem Cx.Ok.wish {X : Cx} (ok : X.Ok) (E : Value → Shared → Prop) : (X.wish E).Ok :=
  ⟨ok.mod, ok.kind, ok.glob, ok.blt, ok.above, ok.inj, ok.has, ok.cab, ok.hd, ok.frames, ok.stk, ok.exf, ok.bs, ok.bsz, ok.noex, ok.exfs, ok.funs, ok.frf⟩
theorem Cx.Ok.unwish {X : Cx} {E : Value → Shared → Prop} (ok : (X.wish E).Ok) : X.Ok :=
  ⟨ok.mod, ok.kind, ok.glob, ok.blt, ok.above, ok.inj, ok.has, ok.cab, ok.hd, ok.frames, ok.stk, ok.exf, ok.bs, ok.bsz, ok.noex, ok.exfs, ok.funs, ok.frf⟩
section
variable {X : Cx} {pins : List (Addr × Obj)} {σ : St} {H : Hp} {s : Shared} {E : Value → Shared → Prop}
theorem Inv.wish (I : Inv X pins σ H s) (E : Value → Shared → Prop) : Inv (X.wish E) pins σ H s := ⟨I.ok.wish E, I.os, I.bare, I.base, I.loc, I.cell, I.free, I.freeC, I.pin, I.hok, I.len⟩
theorem Inv.unwish (I : Inv (X.wish E) pins σ H s) : Inv X pins σ H s := ⟨I.ok.unwish, I.os, I.bare, I.base, I.loc, I.cell, I.free, I.freeC, I.pin, I.hok, I.len⟩
theorem SP.unwish {D : Ends} {f : Flow} {s' : Shared} (h : SP (X.wish E) pins D f s') : SP X pins D f s' := by
  cases f with
  | next => obtain ⟨σ', H', I, q⟩ := h; exact ⟨σ', H', I.unwish, q⟩
  | brk => obtain ⟨σ', H', I, q⟩ := h; exact ⟨σ', H', I.unwish, q⟩
  | cont => obtain ⟨σ', H', I, q⟩ := h; exact ⟨σ', H', I.unwish, q⟩
  | ret u => obtain ⟨v, σ', H', I, r, q⟩ := h; exact ⟨v, σ', H', I.unwish, r, q⟩
theorem PSs.nox {st : List Stmt} {t : TS} (h : PSs X.nox st t) : PSs X st t := fun pins s σ H D I hw =>
  wpAny_mono (h pins s σ H D (I.wish _) hw) (fun _ _ q => q.unwish) fun _ _ z => False.elim z
end

/-! ### blocks and small statements -/
section
variable {X : Cx} {st : Stmt} {rest : List Stmt} {t u : TS} {e : Expr} {te : TE} {pos : Pos}
def tNext : TS := fun D σ H => D.nx σ H
def tSeq (t u : TS) : TS := fun D σ H => t { D with nx := u D } σ H
theorem pss_nil : PSs X [] tNext := fun _ _ σ H _ I h => wpAny_execs_nil ⟨σ, H, I, h⟩
theorem pss_cons (h1 : PS X st t) (h2 : PSs X rest u) : PSs X (st :: rest) (tSeq t u) := by
  intro pins s σ H D I h
  refine wpAny_execs_cons (thn (h1 pins s σ H { D with nx := u D } I h) fun f s1 q => ?_)
  cases f with
  | next =>
    obtain ⟨σ', H', I', q⟩ := q
    exact h2 pins s1 σ' H' D I' q
  | ret v => exact q
  | brk => exact q
  | cont => exact q
theorem pss_one (h1 : PS X st t) : PSs X [st] t := by
  intro pins s σ H D I h
  refine wpAny_execs_cons (thn (h1 pins s σ H D I h) fun f s1 q => ?_)
  cases f with
  | next => exact wpAny_execs_nil q
  | ret v => exact q
  | brk => exact q
  | cont => exact q
/-- in a def's body nothing is shown -/
theorem Inv.quiet {pins : List (Addr × Obj)} {σ : St} {H : Hp} {s : Shared} (I : Inv X pins σ H s) : interactive X.env = false := by simp [interactive, I.ok.kind]
/-- an expression whose value is dropped -/
def tDrop (te : TE) : TS := fun D σ H => te σ H fun _ H1 => D.nx σ H1
theorem ps_expr (he : PE X e te) (hs : swapsWith e none pos.line X.env = pure false := by rfl) : PS X (.Expr e pos) (tDrop te) := by
  intro pins s σ H D I h
  exact wpAny_Expr_any (thn (he pins s σ H _ I h) fun v s1 ⟨x, H1, I1, r1, q1⟩ => ⟨σ, H1, I1, q1⟩) I.quiet hs
def tRet (te : TE) : TS := fun D σ H => te σ H D.rt
theorem ps_ret (he : PE X e te) : PS X (.Return (some e) pos) (tRet te) := by
  intro pins s σ H D I h
  exact wpAny_Return_some (thn (he pins s σ H _ I h) fun v s1 ⟨x, H1, I1, r1, q1⟩ => ⟨x, σ, H1, I1, r1, q1⟩)
def tIfS (c : TT) (t u : TS) : TS := fun D σ H => c σ H fun b H1 => if b = true then t D σ H1 else u D σ H1
theorem ps_if {c : Expr} {a b : List Stmt} {tc : TT} (hc : PT X c tc) (ha : PSs X a t) (hb : PSs X b u) : PS X (.If c a b pos) (tIfS tc t u) := by
  intro pins s σ H D I h
  refine wpAny_If (thn (hc pins s σ H _ I h) fun d s1 ⟨H1, I1, q1⟩ => ?_)
  cases d with
  | true => exact ha pins s1 σ H1 D I1 q1
  | false => exact hb pins s1 σ H1 D I1 q1
end

/-! ### targets -/
abbrev TG := V → St → Hp → (St → Hp → Prop) → Prop
def PG (X : Cx) (target : Expr) (t : TG) : Prop :=
  ∀ (pins : List (Addr × Obj)) (s : Shared) (σ : St) (H : Hp) (v : V) (u : Value) (Q : St → Hp → Prop), Inv X pins σ H s → RelV v u → t v σ H Q →
    wpAny (model X.prog X.w) X.A (assign target X.env u) (fun _ s' => ∃ σ' H', Inv X pins σ' H' s' ∧ Q σ' H') X.xe s
/-- a op= b, by values -/
abbrev TIp := V → V → Hp → VK → Prop
def PIp (X : Cx) (op : Operator) (t : TIp) : Prop :=
  ∀ (pins : List (Addr × Obj)) (s : Shared) (σ : St) (H : Hp) (x y : V) (v u : Value) (Q : VK), Inv X pins σ H s → RelV x v → RelV y u → t x y H Q →
    wpAny (model X.prog X.w) X.A (inplaceOp op v u) (EP X pins σ Q) X.xe s
section
variable {X : Cx} {pos : Pos}
def gName (i : Nat) : TG := fun v σ H Q => Q (σ.set i (some v)) H
theorem pg_name {i : Nat} {x : Str} (hN : X.N.Nodup) (hi : X.N[i]? = some x) (hx : Loc X.env.scope x) (hf : X.fn x = true ∨ X.env.scope.names.lookup x = some .local := by first | exact .inl rfl | exact .inr rfl | assumption) : PG X (.Name x pos) (gName i) := by
  intro pins s σ H v u Q I r h
  exact wpAny_assign_Name (store_ok I hN hi hx r (fun s' I' => ⟨_, H, I', h⟩) hf)
/-- target = value -/
def tAsg (te : TE) (g : TG) : TS := fun D σ H => te σ H fun x H1 => g x σ H1 D.nx
/-- name = value -/
theorem ps_set {i : Nat} {x : Str} {e : Expr} {te : TE} {pos' : Pos} (hN : X.N.Nodup) (hi : X.N[i]? = some x) (hx : Loc X.env.scope x) (he : PE X e te) (hs : swapsWith e (some (.Name x pos')) pos.line X.env = pure false := by rfl) (hf : X.fn x = true ∨ X.env.scope.names.lookup x = some .local := by first | exact .inl rfl | exact .inr rfl | assumption) :
    PS X (.Assign [.Name x pos'] e pos) (tAsg te (gName i)) := by
  intro pins s σ H D I h
  refine wpAny_Assign_Name (thn (he pins s σ H _ I h) fun v s1 ⟨y, H1, I1, r1, q1⟩ => ?_) hs
  exact store_ok I1 hN hi hx r1 (fun s2 I2 => ⟨_, H1, I2, q1⟩) hf
/-- name op= e -/
def tAug (i : Nat) (te : TE) (ti : TIp) : TS := fun D σ H => ∃ x, σ[i]? = some (some x) ∧ te σ H fun y H1 => ti x y H1 fun z H2 => D.nx (σ.set i (some z)) H2
theorem ps_aug {i : Nat} {x : Str} {e : Expr} {te : TE} {op : Operator} {ti : TIp} {pos' : Pos} (hN : X.N.Nodup) (hi : X.N[i]? = some x) (hx : Loc X.env.scope x) (he : PE X e te) (ho : PIp X op ti) (hf : X.fn x = true ∨ X.env.scope.names.lookup x = some .local := by first | exact .inl rfl | exact .inr rfl | assumption) :
    PS X (.AugAssign (.Name x pos') op e pos) (tAug i te ti) := by
  intro pins s σ H D I h
  obtain ⟨v, e1, h⟩ := h
  obtain ⟨m, hn, hl⟩ := I.loc
  have vis : Vis X.env.scope x := by rcases hx with k | k; exact .inl k; exact .inr (.inl k)
  obtain ⟨u, r, l⟩ := hl i x v hi e1 vis
  refine wpAny_AugAssign_Name ?_
  have go : wpAny (model X.prog X.w) X.A (eval e X.env) (fun w s₂ => wpAny (model X.prog X.w) X.A (inplaceOp op u w) (fun r s₃ => wpAny (model X.prog X.w) X.A (storeName X.env x r) (fun _ => SP X pins D .next) X.xe s₃) X.xe s₂) X.xe s := by
    refine thn (he pins s σ H _ I h) fun w s1 ⟨y, H1, I1, r1, q1⟩ => ?_
    refine thn (ho pins s1 σ H1 v y u w _ I1 r r1 q1) fun z s2 ⟨zv, H2, I2, r2, q2⟩ => ?_
    exact store_ok I2 hN hi hx r2 (fun s3 I3 => ⟨_, H2, I3, q2⟩) hf
  rcases l with ⟨hk, hm⟩ | ⟨hk, c, hc, hcell⟩
  · exact wpAny_loadName_local I.ok.kind hk hn hm go
  · rcases hk with hk | hk
    · exact wpAny_loadName_cell I.ok.kind hk hc hcell go
    · rcases hx with k | k
      · have : X.env.scope.names.lookup x = some .free := hk
        rw [k] at this; cases this
      · have : X.env.scope.names.lookup x = some .free := hk
        rw [k] at this; cases this
/-- ints -/
def ipI (f : Int → Int → Int) : TIp := fun x y H Q => ∃ i j, x = .int i ∧ y = .int j ∧ Q (.int (f i j)) H
theorem ip_add : PIp X .Add (ipI fun i j => i + j) := by
  intro pins s σ H x y v u Q I r1 r2 h
  obtain ⟨i, j, e1, e2, q⟩ := h
  subst e1; subst e2
  obtain ⟨t, rfl⟩ := r1
  obtain ⟨t', rfl⟩ := r2
  exact iadd_int ⟨.int _, H, I.tok _, ⟨_, rfl⟩, q⟩
end

/-! ### while -/
section
variable {X : Cx} {pos : Pos}
/-- the invariant W with its measure -/
def tWhile (c : TT) (tb : TS) : TS := fun D σ H => ∃ W : Nat → St → Hp → Prop, (∃ m, W m σ H) ∧ ∀ m σ H, W m σ H →
  c σ H fun b H1 => if b = true then ∃ N : St → Hp → Prop, (∀ σ' H', N σ' H' → ∃ m', m' < m ∧ W m' σ' H') ∧ tb { D with nx := N, ct := N, bk := D.nx } σ H1 else D.nx σ H1
theorem ps_while {c : Expr} {body : List Stmt} {tc : TT} {tb : TS} (hp : PassesOwn (model X.prog X.w) X.A X.env X.xe) (hc : PT X c tc) (hb : PSs X body tb) : PS X (.While c body [] pos) (tWhile tc tb) := by
  intro pins s σ H D I h
  obtain ⟨W, ⟨m0, w0⟩, turn⟩ := h
  refine wpAny_While (codeAny_whileLoop (fun n s' => ∃ σ' H', Inv X pins σ' H' s' ∧ W n σ' H') ?_ m0 ⟨σ, H, I, w0⟩)
  rintro n s1 ⟨σ1, H1, I1, w1⟩
  refine wpAny_passesOwn hp (thn (hc pins s1 σ1 H1 _ I1 (turn n σ1 H1 w1)) fun b s2 ⟨H2, I2, q2⟩ => ?_)
  cases b with
  | true =>
    obtain ⟨N, hN, q2⟩ := q2
    rw [if_pos rfl]
    refine wpAny_passesOwn hp (thn (hb pins s2 σ1 H2 _ I2 q2) fun f s3 q3 => ?_)
    cases f with
    | next =>
      obtain ⟨σ3, H3, I3, n3⟩ := q3
      obtain ⟨m', hm, w3⟩ := hN σ3 H3 n3
      exact ⟨m', hm, σ3, H3, I3, w3⟩
    | cont =>
      obtain ⟨σ3, H3, I3, n3⟩ := q3
      obtain ⟨m', hm, w3⟩ := hN σ3 H3 n3
      exact ⟨m', hm, σ3, H3, I3, w3⟩
    | brk => exact q3
    | ret v => exact q3
  | false =>
    rw [if_neg Bool.false_ne_true]
    exact wpAny_execs_nil ⟨σ1, H2, I2, q2⟩
end

/-! ### what a loop or a comprehension walks -/
/-- at turn i: it yields x (the heap may grow), or it stops -/
structure It where
  go : Nat → Hp → Prop
  yld : Nat → Hp → V → Hp → Prop
  stop : Nat → Hp → Prop
/-- the iterator's own objects may turn: they are not the frame's, not pinned, younger than the entry (or a comprehension's own) -/
def FpOk (X : Cx) (pins : List (Addr × Obj)) (H : Hp) (b : Addr) : Prop :=
  H b = none ∧ b ≠ X.env.locals ∧ b ∉ X.fs ∧ (b ∈ X.ex ∨ X.s_0.heap.objs.size ≤ b) ∧ (∀ x c, X.env.cells.lookup x = some c → c ≠ b) ∧ ∀ p ∈ X.pn ++ pins, p.1 ≠ b
theorem Inv.fpOk {X : Cx} {pins : List (Addr × Obj)} {σ : St} {H H' : Hp} {s : Shared} {b : Addr} (I : Inv X pins σ H s) (hb : s.heap.objs.size ≤ b) (hn : H' b = none) : FpOk X pins H' b := by
  refine ⟨hn, Nat.ne_of_gt (Nat.lt_of_lt_of_le I.lt hb), I.nofs hb, .inr (Nat.le_trans I.sz hb), fun x c e z => ?_, fun p hp z => ?_⟩
  · obtain ⟨v, q⟩ := I.cell x c e
    exact absurd (Nat.lt_of_lt_of_le q.lt (by rw [z]; exact hb)) (Nat.lt_irrefl _)
  · exact absurd (Nat.lt_of_lt_of_le (Heap.lt_size (I.pin p hp).1) (by rw [z]; exact hb)) (Nat.lt_irrefl _)
structure Turn (P : Program) (w : World) (K : PySem.W.Frag) (tg : Expr) (J : It) (fp : List Addr) (it : Addr) (tn : Nat → Heap → Prop) : Prop where
  mem : it ∈ fp
  obj : ∀ i h, tn i h → ∀ b ∈ fp, ∃ o, h.get? b = some o ∧ ∀ v, o.data ≠ .cell v
  keep : ∀ i h h', tn i h → (∀ b ∈ fp, ∀ o, h.get? b = some o → h'.get? b = some o) → tn i h'
  item : ∀ (X : Cx), X.prog = P → X.w = w → X.K = K → X.calm = true → ∀ (i : Nat) (pins : List (Addr × Obj)) (s : Shared) (σ : St) (H : Hp) (E : Value → Shared → Prop), Inv X pins σ H s → (∀ b ∈ fp, FpOk X pins H b) → tn i s.heap → J.go i H →
    wpAny (model P w) X.A (pyNext (.ref it)) (fun r s1 => ∃ u, r = some u ∧
      wpAny (model P w) X.A (letOwnedTupleGo tg (.ref it) u) (fun _ s2 => ∃ x H', Inv X pins σ H' s2 ∧ RelV x u ∧ J.yld i H x H' ∧ tn (i + 1) s2.heap ∧ ∀ b ∈ fp, H' b = none) E s1) E s
  done : ∀ (X : Cx), X.prog = P → X.w = w → X.K = K → X.calm = true → ∀ (i : Nat) (pins : List (Addr × Obj)) (s : Shared) (σ : St) (H : Hp) (E : Value → Shared → Prop), Inv X pins σ H s → (∀ b ∈ fp, FpOk X pins H b) → tn i s.heap → J.stop i H →
    wpAny (model P w) X.A (pyNext (.ref it)) (fun r s1 => r = none ∧ Inv X pins σ H s1) E s
  self : ∀ (A : Around) (i : Nat) (s : Shared) (Q : Value → Shared → Prop) (E : Value → Shared → Prop), tn i s.heap → Q (.ref it) s → wpAny (model P w) A (pyIter (.ref it)) Q E s
abbrev TI := St → Hp → (It → Hp → Prop) → Prop
/-- an iterator has come -/
def PIE (X : Cx) (pins : List (Addr × Obj)) (σ : St) (tg : Expr) (R : It → Hp → Prop) (itv : Value) (s2 : Shared) : Prop :=
  ∃ (it : Addr) (fp : List Addr) (tn : Nat → Heap → Prop) (J : It) (H' : Hp), itv = .ref it ∧ Inv X pins σ H' s2 ∧ Turn X.prog X.w X.K tg J fp it tn ∧ tn 0 s2.heap ∧ (∀ b ∈ fp, FpOk X pins H' b) ∧ R J H'
def PI (X : Cx) (tg iter : Expr) (wi : TI) : Prop :=
  ∀ (pins : List (Addr × Obj)) (s : Shared) (σ : St) (H : Hp) (R : It → Hp → Prop), Inv X pins σ H s → wi σ H R →
    wpAny (model X.prog X.w) X.A (eval iter X.env) (fun v s1 => wpAny (model X.prog X.w) X.A (pyIter v) (PIE X pins σ tg R) X.xe s1) X.xe s

/-- the step ahead of the store is nothing for an iterator that keeps no tuple -/
theorem go_of {M : Model} {A : Around} {E : Value → Shared → Prop} {s : Shared} {tg : Expr} {it : Addr} {u : Value} {o : Obj} {n : String} {vs : Array Value} {Q : Unit → Shared → Prop} (ho : s.heap.get? it = some o) (hc : o.cls = .type n) (hd : o.data = .fields vs)
    (hn : ["enumerate", "zip", "dict_itemiterator", "dict_reverseitemiterator", "odict_iterator", "itertools.zip_longest", "itertools.pairwise"].contains n = false) (hQ : Q () s) : wpAny M A (letOwnedTupleGo tg (.ref it) u) Q E s := by
  unfold letOwnedTupleGo
  cases tg <;> first
    | exact wpAny_pure hQ
    | (cases u <;> first
        | exact wpAny_pure hQ
        | (refine wpAny_bind (wpAny_load ho ?_)
           rw [hc, hd]
           show wpAny M A (if (["enumerate", "zip", "dict_itemiterator", "dict_reverseitemiterator", "odict_iterator", "itertools.zip_longest", "itertools.pairwise"].contains n && vs[0]? == some (rawInt _)) = true then _ else _) Q E s
           rw [if_neg (by intro h; rw [hn, Bool.false_and] at h; cases h)]
           exact wpAny_pure hQ))

/-- the list at a, as it stands at each turn (a loop may append to it) -/
def Itl (K : PySem.W.Frag) (a : Addr) : It :=
  ⟨fun i H => ∃ xs x, SqL K H a xs ∧ xs[i]? = some x, fun i H x H' => H' = H ∧ ∀ xs, SqL K H a xs → xs[i]? = some x, fun i H => ∃ xs, SqL K H a xs ∧ xs.length ≤ i⟩
def Itt (K : PySem.W.Frag) (a : Addr) : It :=
  ⟨fun i H => ∃ xs x, SqT K H a xs ∧ xs[i]? = some x, fun i H x H' => H' = H ∧ ∀ xs, SqT K H a xs → xs[i]? = some x, fun i H => ∃ xs, SqT K H a xs ∧ xs.length ≤ i⟩
/-- lo, lo + 1, .. (n of them) -/
def Itr (lo : Int) (n : Nat) : It := ⟨fun i _ => i < n, fun i H x H' => H' = H ∧ x = .int (lo + i), fun i _ => n ≤ i⟩
theorem turn_list {P : Program} {w : World} {K : PySem.W.Frag} {tg : Expr} (a it : Addr) : Turn P w K tg (Itl K a) [it] it (fun i h => h.IsListIter it a i) where
  mem := by simp
  obj := fun i h st b hb => by
    have e : b = it := by simpa using hb
    subst e
    obtain ⟨o, e, c, d⟩ := st
    exact ⟨o, e, fun v z => by rw [d] at z; cases z⟩
  keep := fun i h h' st k => st.at fun o e => k it (by simp) o e
  item := by
    intro X hP hw hK hc i pins s σ H E I hf st hg
    subst hP hw hK
    obtain ⟨xs, x, hq, hx⟩ := hg
    obtain ⟨its, rv, p, hz⟩ := I.list hq
    obtain ⟨u, hu, ru⟩ := rv.get hx
    obtain ⟨f0, f1, f2, f3, f4, f5⟩ := hf it (by simp)
    refine wpAny_pyNext_list_item st p.isList (x := u) (by simpa using hu) fun h' st' sb => ?_
    have I1 : Inv X pins σ H { s with heap := h' } := I.turned (t' := s.toks) (fun b o hb e => (sb.2 b hb).trans e) f0 f1 f3 f4 f5
    obtain ⟨o, e, c, d⟩ := id st'
    exact ⟨u, rfl, go_of (s := { s with heap := h' }) e c d (by decide) ⟨x, H, I1, ru, ⟨rfl, fun ys hy => by rw [I.list_inj hy hq]; exact hx⟩, st', fun b hb => (hf b hb).1⟩⟩
  done := by
    intro X hP hw hK hc i pins s σ H E I hf st hg
    subst hP hw hK
    obtain ⟨xs, hq, hx⟩ := hg
    obtain ⟨its, rv, p, hz⟩ := I.list hq
    obtain ⟨f0, f1, f2, f3, f4, f5⟩ := hf it (by simp)
    have hl := rv.length
    exact wpAny_pyNext_list_end (I.ok.hd hc) st p.isList (by simp; omega) fun h' eb => ⟨rfl, I.turned (t' := s.toks) (fun b o hb e => eb b o hb e) f0 f1 f3 f4 f5⟩
  self := fun _ _ _ _ _ st h => wpAny_pyIter_listiter st h
theorem turn_tuple {P : Program} {w : World} {K : PySem.W.Frag} {tg : Expr} (a it : Addr) : Turn P w K tg (Itt K a) [it] it (fun i h => h.IsTupleIter it a i) where
  mem := by simp
  obj := fun i h st b hb => by
    have e : b = it := by simpa using hb
    subst e
    obtain ⟨o, e, c, d⟩ := st
    exact ⟨o, e, fun v z => by rw [d] at z; cases z⟩
  keep := fun i h h' st k => st.at fun o e => k it (by simp) o e
  item := by
    intro X hP hw hK hc i pins s σ H E I hf st hg
    subst hP hw hK
    obtain ⟨xs, x, hq, hx⟩ := hg
    obtain ⟨its, rv, p, hz⟩ := I.tuple hq
    obtain ⟨u, hu, ru⟩ := rv.get hx
    obtain ⟨f0, f1, f2, f3, f4, f5⟩ := hf it (by simp)
    refine wpAny_pyNext_tuple_item st (show s.heap.IsTuple a its.toArray from p) (x := u) (by simpa using hu) fun h' st' sb => ?_
    have I1 : Inv X pins σ H { s with heap := h' } := I.turned (t' := s.toks) (fun b o hb e => (sb.2 b hb).trans e) f0 f1 f3 f4 f5
    obtain ⟨o, e, c, d⟩ := id st'
    exact ⟨u, rfl, go_of (s := { s with heap := h' }) e c d (by decide) ⟨x, H, I1, ru, ⟨rfl, fun ys hy => by rw [I.tuple_inj hy hq]; exact hx⟩, st', fun b hb => (hf b hb).1⟩⟩
  done := by
    intro X hP hw hK hc i pins s σ H E I hf st hg
    subst hP hw hK
    obtain ⟨xs, hq, hx⟩ := hg
    obtain ⟨its, rv, p, hz⟩ := I.tuple hq
    obtain ⟨f0, f1, f2, f3, f4, f5⟩ := hf it (by simp)
    have hl := rv.length
    exact wpAny_pyNext_tuple_end (I.ok.hd hc) st (show s.heap.IsTuple a its.toArray from p) (by simp; omega) fun h' eb => ⟨rfl, I.turned (t' := s.toks) (fun b o hb e => eb b o hb e) f0 f1 f3 f4 f5⟩
  self := fun _ _ _ _ _ st h => wpAny_pyIter_tupleiter st h
theorem turn_range {P : Program} {w : World} {K : PySem.W.Frag} {tg : Expr} (it : Addr) (lo : Int) (n : Nat) : Turn P w K tg (Itr lo n) [it] it (fun i h => IsRangeIter h it (lo + (i : Nat) * 1) ((n : Int) - (i : Nat)) 1) where
  mem := by simp
  obj := fun i h st b hb => by
    have e : b = it := by simpa using hb
    subst e
    exact ⟨_, st, fun v z => by
      have z' : Data.fields _ = Data.cell v := z
      cases z'⟩
  keep := fun i h h' st k => k it (by simp) _ st
  item := by
    intro X hP hw hK hc i pins s σ H E I hf st hg
    subst hP hw hK
    obtain ⟨f0, f1, f2, f3, f4, f5⟩ := hf it (by simp)
    have W := Walks.range (prog := X.prog) (w := X.w) (I.ok.hd hc) it lo 1 n
    refine W.item i s _ _ hg st fun v h' tk hv st' kk => ?_
    obtain ⟨t, rfl⟩ := hv
    have I1 : Inv X pins σ H { s with heap := h', toks := tk } := I.turned (fun b o hb e => kk b o (by simpa using hb) e) f0 f1 f3 f4 f5
    refine ⟨_, rfl, go_of (s := { s with heap := h', toks := tk }) (n := "range_iterator") st' rfl rfl (by decide) ⟨.int (lo + i), H, I1, ⟨t, ?_⟩, ⟨rfl, rfl⟩, st', fun b hb => (hf b hb).1⟩⟩
    rw [Int.mul_one]
  done := by
    intro X hP hw hK hc i pins s σ H E I hf st hg
    subst hP hw hK
    obtain ⟨f0, f1, f2, f3, f4, f5⟩ := hf it (by simp)
    exact wpAny_pyNext_range_end (I.ok.hd hc) st (by have : n ≤ i := hg; omega) fun h' eb => ⟨rfl, I.turned (t' := s.toks) (fun b o hb e => eb b o hb e) f0 f1 f3 f4 f5⟩
  self := fun _ _ _ _ _ st h => wpAny_pyIter_rangeiter st h
end L2

namespace L2
open PySem PySem.Spec PyProof.Rows
section
variable {X : Cx} {tg : Expr}
def iList (K : PySem.W.Frag) (tl : TE) : TI := fun σ H R => tl σ H fun x H1 => ∃ a, x = .ref a ∧ (∃ xs, SqL K H1 a xs) ∧ R (Itl K a) H1
def iTup (K : PySem.W.Frag) (tl : TE) : TI := fun σ H R => tl σ H fun x H1 => ∃ a, x = .ref a ∧ (∃ xs, SqT K H1 a xs) ∧ R (Itt K a) H1
theorem pi_list {l : Expr} {tl : TE} (hl : PE X l tl) : PI X tg l (iList X.K tl) := by
  intro pins s σ H R I h
  refine thn (hl pins s σ H _ I h) fun v s1 ⟨x, H1, I1, r1, q1⟩ => ?_
  obtain ⟨a, e, ⟨xs, hq⟩, q⟩ := q1
  subst e
  cases r1
  obtain ⟨its, rv, p, hz⟩ := I1.list hq
  refine wpAny_pyIter_list p.isList ?_
  refine ⟨s1.heap.objs.size, [s1.heap.objs.size], _, _, H1, rfl, I1.kept (t' := s1.toks) fun b o e => Heap.get?_push_of_some _ e, turn_list a _, ⟨_, Heap.get?_push_size _ rfl, rfl, rfl⟩, fun b hb => ?_, q⟩
  have e : b = s1.heap.objs.size := by simpa using hb
  subst e
  exact I1.fpOk (Nat.le_refl _) (I1.hok.fresh (Nat.le_refl _))
theorem pi_tup {l : Expr} {tl : TE} (hl : PE X l tl) : PI X tg l (iTup X.K tl) := by
  intro pins s σ H R I h
  refine thn (hl pins s σ H _ I h) fun v s1 ⟨x, H1, I1, r1, q1⟩ => ?_
  obtain ⟨a, e, ⟨xs, hq⟩, q⟩ := q1
  subst e
  cases r1
  obtain ⟨its, rv, p, hz⟩ := I1.tuple hq
  refine wpAny_pyIter_tuple (show s1.heap.IsTuple a its.toArray from p) ?_
  refine ⟨s1.heap.objs.size, [s1.heap.objs.size], _, _, H1, rfl, I1.kept (t' := s1.toks) fun b o e => Heap.get?_push_of_some _ e, turn_tuple a _, ⟨_, Heap.get?_push_size _ rfl, rfl, rfl⟩, fun b hb => ?_, q⟩
  have e : b = s1.heap.objs.size := by simpa using hb
  subst e
  exact I1.fpOk (Nat.le_refl _) (I1.hok.fresh (Nat.le_refl _))
/-- a range object just made, walked -/
theorem range_it {pins : List (Addr × Obj)} {σ : St} {H : Hp} {s : Shared} {R : It → Hp → Prop} {E : Value → Shared → Prop} {lo hi : Int} {t u v : Tok} {tk : Nat} (I : Inv X pins σ H s) (h1 : -(2 ^ 62) ≤ lo) (h2 : lo < 2 ^ 62) (h3 : -(2 ^ 62) ≤ hi) (h4 : hi < 2 ^ 62)
    (q : R (Itr lo (hi - lo).toNat) H) : wpAny (model X.prog X.w) X.A (pyIter (.ref s.heap.objs.size)) (PIE X pins σ tg R) E { s with heap := s.heap.push { cls := .type "range", data := .fields #[.int lo t, .int hi u, .int 1 v] }, toks := tk } := by
  refine wpAny_pyIter_range (IsRange.new ..) (small_one h1 h2 h3 h4) ?_
  have I1 : Inv X pins σ H { s with heap := s.heap.push { cls := .type "range", data := .fields #[.int lo t, .int hi u, .int 1 v] }, toks := tk } := I.kept fun b o e => Heap.get?_push_of_some _ e
  refine ⟨(s.heap.push { cls := .type "range", data := .fields #[.int lo t, .int hi u, .int 1 v] }).objs.size, [(s.heap.push { cls := .type "range", data := .fields #[.int lo t, .int hi u, .int 1 v] }).objs.size], _, _, H, rfl,
    I1.kept (t' := tk) fun b o e => Heap.get?_push_of_some _ e, turn_range _ lo (hi - lo).toNat, ?_, fun b hb => ?_, q⟩
  · have e1 : lo + ((0 : Nat) : Int) * 1 = lo := by simp
    have e2 : (((hi - lo).toNat : Nat) : Int) - ((0 : Nat) : Int) = Builtin.Range.rangeSize lo hi 1 := by rw [rangeSize_one]; split <;> omega
    show IsRangeIter _ _ (lo + ((0 : Nat) : Int) * 1) ((((hi - lo).toNat : Nat) : Int) - ((0 : Nat) : Int)) 1
    rw [e1, e2]
    exact Heap.get?_push_size _ rfl
  · have e : b = (s.heap.push { cls := .type "range", data := .fields #[.int lo t, .int hi u, .int 1 v] }).objs.size := by simpa using hb
    subst e
    exact I1.fpOk (Nat.le_refl _) (I1.hok.fresh (Nat.le_refl _))
def iRng1 (ta : TA) : TI := fun σ H R => ta σ H fun vs H1 => ∃ j : Int, vs = [.int j] ∧ -(2 ^ 62) ≤ j ∧ j < 2 ^ 62 ∧ R (Itr 0 j.toNat) H1
theorem pi_range1 {a : Expr} {ta : TA} {p pos : Pos} (hg : Gl X "range") (hm : X.mg "range" = none) (ha : PA X [a] ta) (hs : starEach [a] X.env = [(false, eval a X.env)] := by rfl) : PI X tg (.Call (.Name "range" p) [a] [] pos) (iRng1 ta) := by
  intro pins s σ H R I h
  refine Call_ (ld_blt I hg hm boot_range (PyProof.Rows.callWith_type1 (thn (ha pos pins s σ H _ I h) fun us s1 ⟨vs, H1, I1, r1, q1⟩ => ?_) hs rfl))
  obtain ⟨j, e, q1, q2, q⟩ := q1
  subst e
  cases r1 with
  | cons r rr =>
    cases rr
    obtain ⟨t, rfl⟩ := r
    exact call_range_1 (range_it I1 (by omega) (by omega) q1 q2 (by simpa using q))

/-! ### for -/
/-- W: the invariant by the turn and a measure; N: what the body is to reach -/
def tFor (wi : TI) (g : TG) (tb : TS) : TS := fun D σ H => wi σ H fun J H1 => ∃ W : Nat → Nat → St → Hp → Prop, (∃ m, W 0 m σ H1) ∧ ∀ i m σ H, W i m σ H →
  (J.stop i H ∧ D.nx σ H) ∨ (J.go i H ∧ ∃ N : St → Hp → Prop, (∀ σ' H', N σ' H' → ∃ m', m' < m ∧ W (i + 1) m' σ' H') ∧ ∀ x H', J.yld i H x H' → g x σ H' fun σ2 H2 => tb { D with nx := N, ct := N, bk := D.nx } σ2 H2)
/-- the records at fp as they stand -/
def pinsAt (fp : List Addr) (h : Heap) : List (Addr × Obj) := fp.filterMap fun b => (h.get? b).map fun o => (b, o)
theorem mem_pinsAt {fp : List Addr} {h : Heap} {b : Addr} {o : Obj} (hb : b ∈ fp) (e : h.get? b = some o) : (b, o) ∈ pinsAt fp h := List.mem_filterMap.mpr ⟨b, hb, by rw [e]; rfl⟩
theorem of_pinsAt {fp : List Addr} {h : Heap} {p : Addr × Obj} (hp : p ∈ pinsAt fp h) : p.1 ∈ fp ∧ h.get? p.1 = some p.2 := by
  obtain ⟨b, hb, e⟩ := List.mem_filterMap.mp hp
  cases q : h.get? b with
  | none => rw [q] at e; cases e
  | some o =>
    rw [q] at e
    have e' : (b, o) = p := Option.some.inj e
    subst e'
    exact ⟨hb, q⟩
theorem Inv.pinned {pins : List (Addr × Obj)} {σ : St} {H : Hp} {s : Shared} {fp : List Addr} (I : Inv X pins σ H s) (hf : ∀ b ∈ fp, FpOk X pins H b) (ho : ∀ b ∈ fp, ∃ o, s.heap.get? b = some o ∧ ∀ v, o.data ≠ .cell v) : Inv X (pins ++ pinsAt fp s.heap) σ H s :=
  I.pins_of fun p hp => (List.mem_append.mp hp).elim (fun z => I.pin p (List.mem_append_right _ z)) fun z => by
    obtain ⟨hb, e⟩ := of_pinsAt z
    obtain ⟨f0, f1, f2, _⟩ := hf p.1 hb
    obtain ⟨o, e', d⟩ := ho p.1 hb
    rw [e] at e'; cases e'
    exact ⟨e, f0, f1, f2, d⟩
theorem Inv.unpinned {pins pl : List (Addr × Obj)} {σ : St} {H : Hp} {s : Shared} (I : Inv X (pins ++ pl) σ H s) : Inv X pins σ H s := I.pins_of fun p hp => I.pin p (List.mem_append_right _ (List.mem_append_left _ hp))
theorem ps_for {iter : Expr} {body : List Stmt} {wi : TI} {g : TG} {tb : TS} {pos : Pos} (hp : PassesOwn (model X.prog X.w) X.A X.env X.xe) (hc : X.calm = true) (hi : PI X tg iter wi) (hg : PG X tg g) (hb : PSs X body tb)
    (hs : ∀ x, foldedSetIterable iter X.env x = pure x := by intro _; rfl) : PS X (.For tg iter body [] pos) (tFor wi g tb) := by
  intro pins s σ H D I h
  refine wpAny_For (thn (hi pins s σ H _ I h) fun v s1 h1 => thn h1 fun itv s2 h2 => ?_) hs
  obtain ⟨it, fp, tn, J, H2, e, I2, T, st2, f2, W, ⟨m0, w0⟩, turn⟩ := h2
  subst e
  -- what stays true of the iterator's objects through the loop
  have stat : ∀ {H' : Hp}, (∀ b ∈ fp, H' b = none) → ∀ b ∈ fp, FpOk X pins H' b := fun hn b hb => ⟨hn b hb, (f2 b hb).2⟩
  refine codeAny_forLoop_any (fun n s' => ∃ i σ' H', Inv X pins σ' H' s' ∧ tn i s'.heap ∧ (∀ b ∈ fp, H' b = none) ∧ W i n σ' H') ?_ m0 ⟨0, σ, H2, I2, st2, fun b hb => (f2 b hb).1, w0⟩
  rintro n s3 ⟨i, σ3, H3, I3, st3, fr3, w3⟩
  rcases turn i n σ3 H3 w3 with ⟨stop, qn⟩ | ⟨go, N, hN, step⟩
  · refine wpAny_passesOwn hp (thn (T.done X rfl rfl rfl hc i pins s3 σ3 H3 X.xe I3 (stat fr3) st3 stop) fun r s4 ⟨hr, I4⟩ => ?_)
    subst hr
    exact wpAny_execs_nil ⟨σ3, H3, I4, qn⟩
  · refine wpAny_passesOwn hp (thn (T.item X rfl rfl rfl hc i pins s3 σ3 H3 X.xe I3 (stat fr3) st3 go) fun r s4 ⟨u, hr, h4⟩ => ?_)
    subst hr
    refine wpAny_passesOwn hp (thn h4 fun _ s5 ⟨x, H5, I5, r5, y5, st5, fr5⟩ => ?_)
    have I5' := I5.pinned (stat fr5) (T.obj _ _ st5)
    refine wpAny_passesOwn hp (thn (hg _ s5 σ3 H5 x u _ I5' r5 (step x H5 y5)) fun _ s6 ⟨σ6, H6, I6, q6⟩ => ?_)
    refine wpAny_passesOwn hp (thn (hb _ s6 σ6 H6 _ I6 q6) fun f s7 q7 => ?_)
    have again : ∀ {σ7 : St} {H7 : Hp}, Inv X (pins ++ pinsAt fp s5.heap) σ7 H7 s7 → N σ7 H7 → ∃ m, m < n ∧ ∃ i σ' H', Inv X pins σ' H' s7 ∧ tn i s7.heap ∧ (∀ b ∈ fp, H' b = none) ∧ W i m σ' H' := fun {σ7 H7} I7 n7 => by
      obtain ⟨m', hm, w7⟩ := hN σ7 H7 n7
      refine ⟨m', hm, i + 1, σ7, H7, I7.unpinned, T.keep _ _ _ st5 fun b hb o e => (I7.pin (b, o) (List.mem_append_right _ (List.mem_append_right _ (mem_pinsAt hb e)))).1, fun b hb => ?_, w7⟩
      obtain ⟨o, e, d⟩ := T.obj _ _ st5 b hb
      exact (I7.pin (b, o) (List.mem_append_right _ (List.mem_append_right _ (mem_pinsAt hb e)))).2.1
    cases f with
    | next => obtain ⟨σ7, H7, I7, n7⟩ := q7; exact again I7 n7
    | cont => obtain ⟨σ7, H7, I7, n7⟩ := q7; exact again I7 n7
    | brk => obtain ⟨σ7, H7, I7, q7⟩ := q7; exact ⟨σ7, H7, I7.unpinned, q7⟩
    | ret v => obtain ⟨x7, σ7, H7, I7, r7, q7⟩ := q7; exact ⟨x7, σ7, H7, I7.unpinned, r7, q7⟩
end

/-! ### the forms one uses -/
/-- over a list that the body leaves as it is -/
theorem for_list {K : PySem.W.Frag} {a : Addr} {xs : List V} {g : TG} {tb : TS} {D : Ends} {σ : St} {H : Hp} (Pv : Nat → St → Hp → Prop) (h0 : Pv 0 σ H) (hl : ∀ i σ H, i ≤ xs.length → Pv i σ H → SqL K H a xs)
    (hs : ∀ i x σ H, xs[i]? = some x → Pv i σ H → g x σ H fun σ2 H2 => tb { D with nx := Pv (i + 1), ct := Pv (i + 1), bk := D.nx } σ2 H2) (hd : ∀ σ H, Pv xs.length σ H → D.nx σ H) :
    ∃ W : Nat → Nat → St → Hp → Prop, (∃ m, W 0 m σ H) ∧ ∀ i m σ H, W i m σ H →
      ((Itl K a).stop i H ∧ D.nx σ H) ∨ ((Itl K a).go i H ∧ ∃ N : St → Hp → Prop, (∀ σ' H', N σ' H' → ∃ m', m' < m ∧ W (i + 1) m' σ' H') ∧ ∀ x H', (Itl K a).yld i H x H' → g x σ H' fun σ2 H2 => tb { D with nx := N, ct := N, bk := D.nx } σ2 H2) := by
  refine ⟨fun i m σ H => m = xs.length - i ∧ i ≤ xs.length ∧ Pv i σ H, ⟨xs.length, by simp, Nat.zero_le _, h0⟩, ?_⟩
  rintro i m σ H ⟨rfl, hi, p⟩
  have q := hl i σ H hi p
  by_cases hlt : i < xs.length
  · refine .inr ⟨⟨xs, xs[i], q, by simp [hlt]⟩, Pv (i + 1), fun σ' H' p' => ⟨xs.length - (i + 1), by omega, rfl, hlt, p'⟩, fun x H' y => ?_⟩
    obtain ⟨e, y⟩ := y
    subst e
    exact hs i x σ _ (y xs q) p
  · have e : i = xs.length := by omega
    subst e
    exact .inl ⟨⟨xs, q, Nat.le_refl _⟩, hd σ H p⟩
/-- while, by a word and a measure of the state -/
theorem while_by {c : TT} {tb : TS} {D : Ends} {σ : St} {H : Hp} (Pv : St → Hp → Prop) (μ : St → Hp → Nat) (h0 : Pv σ H)
    (hs : ∀ σ H, Pv σ H → c σ H fun b H1 => if b = true then tb { D with nx := fun σ' H' => Pv σ' H' ∧ μ σ' H' < μ σ H, ct := fun σ' H' => Pv σ' H' ∧ μ σ' H' < μ σ H, bk := D.nx } σ H1 else D.nx σ H1)
    (mono : ∀ σ H Q Q', (∀ b H1, Q b H1 → Q' b H1) → c σ H Q → c σ H Q') : tWhile c tb D σ H := by
  refine ⟨fun m σ H => m = μ σ H ∧ Pv σ H, ⟨_, rfl, h0⟩, ?_⟩
  rintro m σ H ⟨rfl, p⟩
  refine mono σ H _ _ (fun b H1 q => ?_) (hs σ H p)
  cases b with
  | true => exact ⟨_, fun σ' H' ⟨p', l⟩ => ⟨_, l, rfl, p'⟩, q⟩
  | false => exact q
end L2

namespace L2
open PySem PySem.Spec PyProof.Rows

abbrev R2 := V → V → Hp → VK → Prop
/-- a two-place operation on values: f is binaryOp op, inplaceOp op or compareOp op -/
def OpR (X : Cx) (f : Value → Value → Sem Value) (r : R2) : Prop :=
  ∀ (pins : List (Addr × Obj)) (s : Shared) (σ : St) (H : Hp) (x y : V) (v u : Value) (Q : VK), Inv X pins σ H s → RelV x v → RelV y u → r x y H Q →
    wpAny (model X.prog X.w) X.A (f v u) (EP X pins σ Q) X.xe s
/-- a call of a value that is known (a builtin, a type) with values -/
def CallR (X : Cx) (f : Value) (r : List V → Hp → VK → Prop) : Prop :=
  ∀ (pins : List (Addr × Obj)) (s : Shared) (σ : St) (H : Hp) (xs : List V) (us : List Value) (Q : VK), Inv X pins σ H s → Vals xs us → r xs H Q →
    wpAny (model X.prog X.w) X.A (call f us) (EP X pins σ Q) X.xe s

def tOp (r : R2) (ta tb : TE) : TE := fun σ H Q => ta σ H fun x H1 => tb σ H1 fun y H2 => r x y H2 Q
/-- ints in, under C, and a value out -/
def rI (C : Int → Int → Prop) (g : Int → Int → V) : R2 := fun x y H Q => ∃ i j, x = .int i ∧ y = .int j ∧ C i j ∧ Q (g i j) H
def rI0 (g : Int → Int → V) : R2 := fun x y H Q => ∃ i j, x = .int i ∧ y = .int j ∧ Q (g i j) H

section
variable {X : Cx} {a b c : Expr} {ta tb tc : TE} {pos : Pos}

theorem binT (ha : PE X a ta) (hb : PE X b tb) {pins : List (Addr × Obj)} {s : Shared} {σ : St} {H : Hp} {R : V → V → Hp → Prop} (I : Inv X pins σ H s)
    (h : ta σ H fun x H1 => tb σ H1 fun y H2 => R x y H2) {Q : Value → Shared → Prop} {f : Value → Value → Sem Value}
    (hf : ∀ v u s2 x y H2, Inv X pins σ H2 s2 → RelV x v → RelV y u → R x y H2 → wpAny (model X.prog X.w) X.A (f v u) Q X.xe s2) :
    wpAny (model X.prog X.w) X.A (eval a X.env) (fun v s₁ => wpAny (model X.prog X.w) X.A (eval b X.env) (fun u s₂ => wpAny (model X.prog X.w) X.A (f v u) Q X.xe s₂) X.xe s₁) X.xe s := by
  refine thn (ha pins s σ H _ I h) fun v s1 ⟨x, H1, I1, r1, q1⟩ => ?_
  refine thn (hb pins s1 σ H1 _ I1 q1) fun u s2 ⟨y, H2, I2, r2, q2⟩ => ?_
  exact hf v u s2 x y H2 I2 r1 r2 q2

theorem pe_op {op : Operator} {r : R2} (ho : OpR X (binaryOp op) r) (ha : PE X a ta) (hb : PE X b tb) : PE X (.BinOp a op b pos) (tOp r ta tb) := by
  intro pins s σ H Q I h
  exact wpAny_BinOp (binT ha hb I h fun v u s2 x y H2 I2 rx ry q => ho pins s2 σ H2 x y v u Q I2 rx ry q)

/-! ### ints -/
theorem opI {f : Value → Value → Sem Value} {C : Int → Int → Prop} {g : Int → Int → Int}
    (rule : ∀ (i j : Int) (t u : Tok) (s : Shared) (Q : Value → Shared → Prop) (E : Value → Shared → Prop), C i j → Q (.int (g i j) s.toks) { s with toks := s.toks + 1 } → wpAny (model X.prog X.w) X.A (f (.int i t) (.int j u)) Q E s) :
    OpR X f (rI C fun i j => .int (g i j)) := by
  intro pins s σ H x y v u Q I rx ry h
  obtain ⟨i, j, rfl, rfl, hc, q⟩ := h
  obtain ⟨t, rfl⟩ := rx
  obtain ⟨t', rfl⟩ := ry
  exact rule i j t t' s _ _ hc ⟨.int (g i j), H, I.tok _, ⟨_, rfl⟩, q⟩
theorem opI0 {f : Value → Value → Sem Value} {g : Int → Int → Int}
    (rule : ∀ (i j : Int) (t u : Tok) (s : Shared) (Q : Value → Shared → Prop) (E : Value → Shared → Prop), Q (.int (g i j) s.toks) { s with toks := s.toks + 1 } → wpAny (model X.prog X.w) X.A (f (.int i t) (.int j u)) Q E s) :
    OpR X f (rI0 fun i j => .int (g i j)) := by
  intro pins s σ H x y v u Q I rx ry h
  obtain ⟨i, j, rfl, rfl, q⟩ := h
  obtain ⟨t, rfl⟩ := rx
  obtain ⟨t', rfl⟩ := ry
  exact rule i j t t' s _ _ ⟨.int (g i j), H, I.tok _, ⟨_, rfl⟩, q⟩
theorem opB0 {f : Value → Value → Sem Value} {g : Int → Int → Bool}
    (rule : ∀ (i j : Int) (t u : Tok) (s : Shared) (Q : Value → Shared → Prop) (E : Value → Shared → Prop), Q (.bool (g i j)) s → wpAny (model X.prog X.w) X.A (f (.int i t) (.int j u)) Q E s) :
    OpR X f (rI0 fun i j => .bl (g i j)) := by
  intro pins s σ H x y v u Q I rx ry h
  obtain ⟨i, j, rfl, rfl, q⟩ := h
  obtain ⟨t, rfl⟩ := rx
  obtain ⟨t', rfl⟩ := ry
  exact rule i j t t' s _ _ ⟨.bl (g i j), H, I, rfl, q⟩

def CMul (i j : Int) : Prop := (-(2 ^ 64) < i ∧ i < 2 ^ 64) ∨ (-(2 ^ 64) < j ∧ j < 2 ^ 64)
theorem CMul.ok {i j : Int} (h : CMul i j) : IntMulOk i j := by
  rcases h with ⟨h1, h2⟩ | ⟨h1, h2⟩
  · exact .of_left (intBits_le_64 h1 h2)
  · exact .of_right (intBits_le_64 h1 h2)

theorem op_add : OpR X (binaryOp .Add) (rI0 fun i j => .int (i + j)) := opI0 fun _ _ _ _ _ _ _ q => add_int q
theorem op_sub : OpR X (binaryOp .Sub) (rI0 fun i j => .int (i - j)) := opI0 fun _ _ _ _ _ _ _ q => sub_int q
theorem op_mul : OpR X (binaryOp .Mult) (rI CMul fun i j => .int (i * j)) := opI fun _ _ _ _ _ _ _ hc q => mul_int q hc.ok



/-! ### bools among ints: n += (a < b) -/
end

/-! ### comparisons -/
/-- the scalars that == tells apart as data does -/
def scal : V → V → Bool
  | .non, .non => true | .non, .int _ => true | .int _, .non => true | .non, .bl _ => true | .bl _, .non => true | .non, .str _ => true | .str _, .non => true
  | .int _, .int _ => true | .bl _, .bl _ => true | .str _, .str _ => true | .byt _, .byt _ => true
  | .int _, .str _ => true | .str _, .int _ => true | .bl _, .str _ => true | .str _, .bl _ => true
  | _, _ => false
def rEq : R2 := fun x y H Q => scal x y = true ∧ Q (.bl (decide (x = y))) H
def rNe : R2 := fun x y H Q => scal x y = true ∧ Q (.bl (!decide (x = y))) H

theorem dec_int {i j : Int} : decide (V.int i = V.int j) = (i == j) := by
  rw [Bool.eq_iff_iff]
  simp
theorem dec_bl {i j : Bool} : decide (V.bl i = V.bl j) = (i == j) := by
  rw [Bool.eq_iff_iff]
  simp
theorem dec_str {i j : Str} : decide (V.str i = V.str j) = (i == j) := by
  rw [Bool.eq_iff_iff]
  simp
theorem dec_byt {i j : Array UInt8} : decide (V.byt i = V.byt j) = (i.toList == j.toList) := by
  rw [Bool.eq_iff_iff]
  cases i
  cases j
  simp

section
variable {X : Cx} {a b c : Expr} {ta tb tc : TE} {pos : Pos}
theorem fin_bl {pins : List (Addr × Obj)} {σ : St} {H : Hp} {s : Shared} {Q : VK} {k k' : Bool} (I : Inv X pins σ H s) (q : Q (.bl k) H) (e : k = k') : EP X pins σ Q (.bool k') s := by
  subst e
  exact ⟨.bl k, H, I, rfl, q⟩
theorem op_eq : OpR X (compareOp .Eq) rEq := by
  intro pins s σ H x y v u Q I rx ry h
  obtain ⟨hs, q⟩ := h
  cases x with
  | non =>
    cases rx
    cases y with
    | non => cases ry; exact PySem.EqNone.eq_none_none (fin_bl I q (by simp))
    | bl j => cases ry; exact PySem.EqNone.eq_none_bool (fin_bl I q (by simp))
    | int j => obtain ⟨t', rfl⟩ := ry; exact PySem.EqNone.eq_none_int (fin_bl I q (by simp))
    | str j => obtain ⟨t', rfl⟩ := ry; exact PySem.EqNone.eq_none_str (fin_bl I q (by simp))
    | _ => exact absurd (show false = true from hs) Bool.false_ne_true
  | bl i =>
    cases rx
    cases y with
    | non => cases ry; exact PySem.EqNone.eq_bool_none (fin_bl I q (by simp))
    | bl j => cases ry; exact eq_bool (fin_bl I q dec_bl)
    | str j => obtain ⟨t', rfl⟩ := ry; exact PySem.EqMixed.eq_bool_str (fin_bl I q (by simp))
    | _ => exact absurd (show false = true from hs) Bool.false_ne_true
  | int i =>
    obtain ⟨t, rfl⟩ := rx
    cases y with
    | non => cases ry; exact PySem.EqNone.eq_int_none (fin_bl I q (by simp))
    | int j => obtain ⟨t', rfl⟩ := ry; exact eq_int (fin_bl I q dec_int)
    | str j => obtain ⟨t', rfl⟩ := ry; exact PySem.EqMixed.eq_int_str (fin_bl I q (by simp))
    | _ => exact absurd (show false = true from hs) Bool.false_ne_true
  | str i =>
    obtain ⟨t, rfl⟩ := rx
    cases y with
    | non => cases ry; exact PySem.EqNone.eq_str_none (fin_bl I q (by simp))
    | bl j => cases ry; exact PySem.EqMixed.eq_str_bool (fin_bl I q (by simp))
    | int j => obtain ⟨t', rfl⟩ := ry; exact PySem.EqMixed.eq_str_int (fin_bl I q (by simp))
    | str j => obtain ⟨t', rfl⟩ := ry; exact eq_str (fin_bl I q dec_str)
    | _ => exact absurd (show false = true from hs) Bool.false_ne_true
  | byt i =>
    obtain ⟨t, rfl⟩ := rx
    cases y with
    | byt j => obtain ⟨t', rfl⟩ := ry; exact PySem.W.eq_bytes (fin_bl I q dec_byt)
    | _ => exact absurd (show false = true from hs) Bool.false_ne_true
  | _ => cases y <;> exact absurd (show false = true from hs) Bool.false_ne_true
theorem op_ne : OpR X (compareOp .NotEq) rNe := by
  intro pins s σ H x y v u Q I rx ry h
  obtain ⟨hs, q⟩ := h
  cases x with
  | non =>
    cases rx
    cases y with
    | non => cases ry; exact PySem.EqNone.ne_none_none (fin_bl I q (by simp))
    | bl j => cases ry; exact PySem.EqNone.ne_none_bool (fin_bl I q (by simp))
    | int j => obtain ⟨t', rfl⟩ := ry; exact PySem.EqNone.ne_none_int (fin_bl I q (by simp))
    | str j => obtain ⟨t', rfl⟩ := ry; exact PySem.EqNone.ne_none_str (fin_bl I q (by simp))
    | _ => exact absurd (show false = true from hs) Bool.false_ne_true
  | bl i =>
    cases rx
    cases y with
    | non => cases ry; exact PySem.EqNone.ne_bool_none (fin_bl I q (by simp))
    | bl j => cases ry; exact ne_bool (fin_bl I q (congrArg not dec_bl))
    | str j => obtain ⟨t', rfl⟩ := ry; exact PySem.EqMixed.ne_bool_str (fin_bl I q (by simp))
    | _ => exact absurd (show false = true from hs) Bool.false_ne_true
  | int i =>
    obtain ⟨t, rfl⟩ := rx
    cases y with
    | non => cases ry; exact PySem.EqNone.ne_int_none (fin_bl I q (by simp))
    | int j => obtain ⟨t', rfl⟩ := ry; exact ne_int (fin_bl I q (congrArg not dec_int))
    | str j => obtain ⟨t', rfl⟩ := ry; exact PySem.EqMixed.ne_int_str (fin_bl I q (by simp))
    | _ => exact absurd (show false = true from hs) Bool.false_ne_true
  | str i =>
    obtain ⟨t, rfl⟩ := rx
    cases y with
    | non => cases ry; exact PySem.EqNone.ne_str_none (fin_bl I q (by simp))
    | bl j => cases ry; exact PySem.EqMixed.ne_str_bool (fin_bl I q (by simp))
    | int j => obtain ⟨t', rfl⟩ := ry; exact PySem.EqMixed.ne_str_int (fin_bl I q (by simp))
    | str j => obtain ⟨t', rfl⟩ := ry; exact ne_str (fin_bl I q (congrArg not dec_str))
    | _ => exact absurd (show false = true from hs) Bool.false_ne_true
  | byt i =>
    obtain ⟨t, rfl⟩ := rx
    cases y with
    | byt j => obtain ⟨t', rfl⟩ := ry; exact PySem.W.ne_bytes (fin_bl I q (congrArg not dec_byt))
    | _ => exact absurd (show false = true from hs) Bool.false_ne_true
  | _ => cases y <;> exact absurd (show false = true from hs) Bool.false_ne_true

theorem op_lt : OpR X (compareOp .Lt) (rI0 fun i j => .bl (decide (i < j))) := opB0 fun _ _ _ _ _ _ _ q => lt_int q
theorem op_le : OpR X (compareOp .LtE) (rI0 fun i j => .bl (decide (i ≤ j))) := opB0 fun _ _ _ _ _ _ _ q => le_int q
theorem op_gt : OpR X (compareOp .Gt) (rI0 fun i j => .bl (decide (j < i))) := opB0 fun _ _ _ _ _ _ _ q => gt_int q
theorem op_ge : OpR X (compareOp .GtE) (rI0 fun i j => .bl (decide (j ≤ i))) := opB0 fun _ _ _ _ _ _ _ q => ge_int q

/-- is None, is not None: the right side a value none -/
theorem op_isN : OpR X (compareOp .Is) (fun x y H Q => y = .non ∧ Q (.bl (decide (x = .non))) H) := by
  intro pins s σ H x y v u Q I rx ry h
  obtain ⟨rfl, q⟩ := h
  cases ry
  refine is_none_gen (fin_bl I q ?_)
  cases x <;> first
    | (cases rx; rfl)
    | (obtain ⟨t, rfl⟩ := rx; rfl)



theorem nomark (b : Expr) {op : CmpOp} (h : op ≠ .In := by decide) (h2 : op ≠ .NotIn := by decide) : behindInMarks op b = false := by
  have e1 : (op == CmpOp.In) = false := by cases op <;> first | rfl | exact absurd rfl h
  have e2 : (op == CmpOp.NotIn) = false := by cases op <;> first | rfl | exact absurd rfl h2
  cases b <;> simp [behindInMarks, e1, e2]
/-- a comparison as a value; hm: nomark b, or (for in, not in) by with_unfolding_all rfl -/
theorem pe_cmpR {op : CmpOp} {r : R2} (ho : OpR X (compareOp op) r) (ha : PE X a ta) (hb : PE X b tb) (hm : behindInMarks op b = false) : PE X (.Compare a [op] [b] pos) (tOp r ta tb) := by
  intro pins s σ H Q I h
  exact wpAny_Compare1 (binT ha hb I h fun v u s2 x y H2 I2 rx ry q => ho pins s2 σ H2 x y v u Q I2 rx ry q) hm
/-- a reading of a value as a test -/
def tTest (t : TE) : TT := fun σ H Q => t σ H fun x H' => ∃ k, x = .bl k ∧ Q k H'
theorem pt_cmpR {op : CmpOp} {r : R2} (ho : OpR X (compareOp op) r) (ha : PE X a ta) (hb : PE X b tb) (hm : behindInMarks op b = false) : PT X (.Compare a [op] [b] pos) (tTest (tOp r ta tb)) := by
  intro pins s σ H Q I h
  refine wpAny_isTrue_Compare1 (thn (ha pins s σ H _ I h) fun v s1 ⟨x, H1, I1, r1, q1⟩ => thn (hb pins s1 σ H1 _ I1 q1) fun u s2 ⟨y, H2, I2, r2, q2⟩ =>
    thn (ho pins s2 σ H2 x y v u _ I2 r1 r2 q2) fun c s3 ⟨z, H3, I3, r3, k, e, q3⟩ => ?_) hm
  subst e
  cases r3
  exact wpAny_truthy_bool ⟨H3, I3, q3⟩

/-! ### truth -/
theorem line63 : (sizeLine : Nat) < 2 ^ 63 := by rw [sizeLine_eq]; decide

/-! ### strs and bytes -/


/-! ### scalar builtins, by CallR -/
theorem vals1 {x : V} {us : List Value} (r : Vals [x] us) : ∃ u, us = [u] ∧ RelV x u := by
  cases r with
  | cons r1 r2 => cases r2; exact ⟨_, rfl, r1⟩
end
end L2

namespace L2
open PySem PySem.Spec PyProof.Rows

/-! ### an instance, its attributes a map -/
structure ObjM (h : Heap) (x dx C : Addr) (mA : Str → Option Value) : Prop where
  obj : h.get? x = some (PySem.W.instObj C dx)
  ns : h.Ns1 dx mA
  ne : dx ≠ x

theorem lookIn_ns {h : Heap} {dx : Addr} {mA : Str → Option Value} (n : h.Ns1 dx mA) : ∃ od, h.get? dx = some od ∧ ∀ name, PySem.W.lookIn name od = some (mA name) := by
  obtain ⟨o, es, ep, ho, hd, hk, _, hm⟩ := n
  refine ⟨o, ho, fun name => ?_⟩
  have e := hm name
  unfold nsFind findBy at e
  rw [← Array.find?_toList] at e
  unfold PySem.W.lookIn
  rw [hd]
  dsimp only
  split
  · rename_i y q
    rw [q] at e
    exact congrArg some e
  · rename_i q
    rw [q] at e
    have a : es.toList.any (·.refKey) = false := by
      rw [List.any_eq_false]
      intro y hy
      obtain ⟨z, t, hkey⟩ := hk y (Array.mem_toList_iff.mp hy)
      simp [DictEntry.refKey, hkey]
    have a' : ¬ es.toList.any (·.refKey) = true := by rw [a]; exact Bool.false_ne_true
    rw [if_neg a']
    exact congrArg some e

theorem ObjM.look {h : Heap} {x dx C : Addr} {mA : Str → Option Value} (I : ObjM h x dx C mA) : ∃ od, PySem.W.InstAt h x (PySem.W.instObj C dx) C (some od) ∧ ∀ name, PySem.W.lookIn name od = some (mA name) :=
  let ⟨od, ho, hl⟩ := lookIn_ns I.ns
  ⟨od, ⟨I.obj, rfl, rfl, ho⟩, hl⟩

section
variable {prog : Program} {w : World} {A : Around} {E : Value → Shared → Prop} {s : Shared} {K : PySem.W.Frag} {x dx C f : Addr} {mA : Str → Option Value} {name : Str} {v : Value}

theorem get_map {expr : Bool} {Q : Value → Shared → Prop} (X : K.In s.heap) (I : ObjM s.heap x dx C mA) (hg : PySem.W.plainGet K C name = true) (hh : PySem.W.hasDictIn K C = true)
    (ha : PySem.W.findIn K (.ref C) name = some none) (hv : mA name = some v) (hv' : PySem.W.handedIn v = true) (h : Q v { s with toks := s.toks + 1 }) :
    wpAny (model prog w) A (getAttr (.ref x) name expr) Q E s := by
  obtain ⟨od, J, hl⟩ := I.look
  exact PySem.W.get_value X J (PySem.W.plainGet_of hg).1 (PySem.W.findObj_own hh ha rfl (by rw [hl, hv])) hv' h



theorem set_map {ns : List Str} {Q : Unit → Shared → Prop} (X : K.In s.heap) (I : ObjM s.heap x dx C mA)
    (hs : PySem.W.findIn K (.ref C) "__setattr__" = some (some (.builtin "object.__setattr__"))) (hp : PySem.W.plainOver K C = true) (ht : PySem.W.takerIn K C name = some none) (hh : PySem.W.hasDictIn K C = true)
    (hw : PySem.Within mA ns) (hsz : ns.length ≤ sizeLine)
    (h : ∀ h', ObjM h' x dx C (fun y => if y = name then some v else mA y) → Heap.SameBut dx s.heap h' → Q () { s with heap := h', toks := s.toks + 2 }) :
    wpAny (model prog w) A (setAttr (.ref x) name v) Q E s := by
  obtain ⟨od, J, hl⟩ := I.look
  refine PySem.W.set_plain X J hs (PySem.W.osa_open (s := { s with toks := s.toks + 1 }) (r := none) X J hp ht fun b => ?_)
  obtain ⟨cd, hc, hd'⟩ := PySem.W.any_some hh
  have hx : s.heap.get? x = some ⟨.ref C, some dx, .plain, #[]⟩ := I.obj
  refine wpAny_bind (wpAny_pure (wpAny_bind (wpAny_bind (wpAny_loadPart hx (wpAny_bind (PySem.W.Looks.here (s := { s with toks := s.toks + 1 }) (PySem.W.looks_clsIn X hc) ?_))))))
  rw [hd']
  refine wpAny_pure (a := some dx) (wpAny_bind (wpAny_pure (wpAny_bind ?_)))
  refine wpAny_nsSet1 (s := { s with toks := s.toks + 1 }) I.ns fun h' hn2 hs2 => ?_
  obtain ⟨oD, esD, epD, hoD, hdD, hcD⟩ := hn2.count (PySem.Within.cons name v hw)
  refine wpAny_bind (wpAny_lookBehind hoD (by rw [hdD]; exact pastItsLine_dict (Nat.le_trans hcD (by rw [List.length_cons]; omega))) ?_)
  exact wpAny_pure (h _ ⟨(hs2.2 _ (Ne.symm I.ne)).trans I.obj, hn2, I.ne⟩ hs2)

/-- C(..): the dict at the heap's end, the instance behind it; then its __init__ -/
theorem make_map {R : Result → Shared → Prop} {vs : List Value} {kw : List (Str × Value)} (X : K.In s.heap) (hm : PySem.W.makesIn K C = true)
    (hi : PySem.W.findIn K (.ref C) "__init__" = some (some (.ref f))) (hf : PySem.W.typeIn K (.ref f) = some (.type "function"))
    (h : codeAny (model prog w) (A.under (.builtin "type.__call__" ⟨.ref C :: vs, kw⟩)) (.call (.ref f) ⟨.ref (s.heap.objs.size + 1) :: vs, kw⟩) (PySem.W.InitBack (s.heap.objs.size + 1) R)
      { s with heap := (s.heap.push PySem.W.emptyDict).push (PySem.W.instObj C s.heap.objs.size) }) :
    codeAny (model prog w) A (.call (.ref C) ⟨vs, kw⟩) R s := by
  obtain ⟨hh, g, d, t, os⟩ := s
  exact PySem.W.make_core (PySem.W.makes_of X hm) (PySem.W.looks_findIn X hi) (fun self => PySem.W.bind_fn X self hf) (.inl rfl) h
end

/-! ### the attributes as a list of pairs -/
def putF (f : Str) (v : V) : List (Str × V) → List (Str × V)
  | [] => [(f, v)]
  | (g, x) :: r => if g = f then (g, v) :: r else (g, x) :: putF f v r
theorem lookup_putF (f g : Str) (v : V) : ∀ fs : List (Str × V), (putF f v fs).lookup g = if g = f then some v else fs.lookup g
  | [] => by
    show List.lookup g [(f, v)] = _
    by_cases h : g = f
    · have hb : (g == f) = true := beq_iff_eq.mpr h
      simp only [List.lookup, hb, if_pos h]
    · have hb : (g == f) = false := beq_eq_false_iff_ne.mpr h
      simp only [List.lookup, hb, if_neg h]
  | (k, x) :: r => by
    have ih := lookup_putF f g v r
    rw [show putF f v ((k, x) :: r) = (if k = f then (k, v) :: r else (k, x) :: putF f v r) from rfl]
    by_cases hk : k = f
    · rw [if_pos hk]
      by_cases h : g = k
      · have hb : (g == k) = true := beq_iff_eq.mpr h
        simp only [List.lookup, hb, if_pos (h.trans hk)]
      · have hb : (g == k) = false := beq_eq_false_iff_ne.mpr h
        simp only [List.lookup, hb, if_neg (fun e : g = f => h (e.trans hk.symm))]
    · rw [if_neg hk]
      by_cases h : g = k
      · have hb : (g == k) = true := beq_iff_eq.mpr h
        simp only [List.lookup, hb, if_neg (fun e : g = f => hk (h.symm.trans e))]
      · have hb : (g == k) = false := beq_eq_false_iff_ne.mpr h
        simp only [List.lookup, hb]
        exact ih
theorem keys_putF (f : Str) (v : V) : ∀ fs : List (Str × V), f ∈ (putF f v fs).map (·.1) ∧ ∀ g, g ∈ fs.map (·.1) → g ∈ (putF f v fs).map (·.1)
  | [] => ⟨by simp [putF], fun g h => by simp at h⟩
  | (k, x) :: r => by
    obtain ⟨i1, i2⟩ := keys_putF f v r
    rw [show putF f v ((k, x) :: r) = (if k = f then (k, v) :: r else (k, x) :: putF f v r) from rfl]
    by_cases hk : k = f
    · rw [if_pos hk]
      subst hk
      exact ⟨by simp, fun g h => by simpa using h⟩
    · rw [if_neg hk]
      refine ⟨?_, fun g h => ?_⟩
      · rw [List.map_cons]
        exact List.mem_cons_of_mem _ i1
      · rw [List.map_cons] at h ⊢
        rcases List.mem_cons.mp h with e | e
        · exact List.mem_cons.mpr (.inl e)
        · exact List.mem_cons_of_mem _ (i2 g e)
theorem length_putF (f : Str) (v : V) : ∀ fs : List (Str × V), (putF f v fs).length ≤ fs.length + 1
  | [] => by simp [putF]
  | (k, x) :: r => by
    have ih := length_putF f v r
    rw [show putF f v ((k, x) :: r) = (if k = f then (k, v) :: r else (k, x) :: putF f v r) from rfl]
    by_cases hk : k = f
    · rw [if_pos hk, List.length_cons, List.length_cons]; omega
    · rw [if_neg hk, List.length_cons, List.length_cons]; omega

theorem RelO.some_of {v : V} {o : Option Value} (r : RelO (some v) o) : ∃ u, o = some u ∧ RelV v u := by
  cases o with
  | none => exact (show False from r).elim
  | some u => exact ⟨u, rfl, r⟩
theorem handed_of {v : V} {u : Value} (r : RelV v u) : PySem.W.handedIn u = true := by
  cases v with
  | non => cases (show u = Value.none from r); rfl
  | bl b => cases (show u = Value.bool b from r); rfl
  | int i => obtain ⟨t, e⟩ := (show ∃ t, u = Value.int i t from r); cases e; rfl
  | str x => obtain ⟨t, e⟩ := (show ∃ t, u = Value.str x t from r); cases e; rfl
  | byt b => obtain ⟨t, e⟩ := (show ∃ t, u = Value.bytes b t from r); cases e; rfl
  | flt b => obtain ⟨t, e⟩ := (show ∃ t, u = Value.float b t from r); cases e; rfl
  | ref a => cases (show u = Value.ref a from r); rfl
  | ty n => cases (show u = Value.type n from r); rfl

section
variable {P : Program} {w : World} {H H' : Hp} {h h' : Heap} {a C dx : Addr} {fs fs' : List (Str × V)}
theorem ins_get (hok : HOk P w H h) (e : H a = some (.ins C dx fs)) : ∃ mA, ObjM h a dx C mA ∧ (∀ f, RelO (fs.lookup f) (mA f)) ∧ PySem.Within mA (fs.map (·.1)) ∧ fs.length ≤ 1000 ∧ H dx = some (.own a) := by
  obtain ⟨d, z, ne, ob, mA, n, r, q⟩ := (show ObjOk P w H h a (.ins C dx fs) from hok a _ e)
  exact ⟨mA, ⟨ob, n, ne⟩, r, q, z, d⟩
end

/-! ### what of the text a class must have -/
structure Cls (K : PySem.W.Frag) (C : Addr) : Prop where
  pg : PySem.W.plainGet K C Str.empty = true
  hd : PySem.W.hasDictIn K C = true
  po : PySem.W.plainOver K C = true
  sa : PySem.W.findIn K (.ref C) "__setattr__" = some (some (.builtin "object.__setattr__"))
theorem Cls.get {K : PySem.W.Frag} {C : Addr} (c : Cls K C) (f : Str) : PySem.W.plainGet K C f = true := c.pg
/-- no class of it has the name -/
def NoAttr (K : PySem.W.Frag) (C : Addr) (f : Str) : Prop := PySem.W.findIn K (.ref C) f = some none
theorem NoAttr.taker {K : PySem.W.Frag} {C : Addr} {f : Str} (n : NoAttr K C f) : PySem.W.takerIn K C f = some none := by
  unfold PySem.W.takerIn
  rw [show PySem.W.findIn K (.ref C) f = some none from n]
  rfl

section
variable {X : Cx} {pins : List (Addr × Obj)} {σ : St} {H : Hp} {s : Shared} {a C dx : Addr} {fs : List (Str × V)} {f : Str} {v : V} {A : Around} {E : Value → Shared → Prop}

theorem getattr_ok {b : Bool} {Q : Value → Shared → Prop} (I : Inv X pins σ H s) (e : H a = some (.ins C dx fs)) (c : Cls X.K C) (n : NoAttr X.K C f) (l : fs.lookup f = some v)
    (h : ∀ u s', Inv X pins σ H s' → RelV v u → Q u s') : wpAny (model X.prog X.w) A (getAttr (.ref a) f b) Q E s := by
  obtain ⟨mA, O, r, _, _, _⟩ := ins_get I.hok e
  obtain ⟨u, hu, ru⟩ := RelO.some_of (v := v) (o := mA f) (by rw [← l]; exact r f)
  exact get_map I.kIn O (c.get f) c.hd n hu (handed_of ru) (h u _ (I.tok _) ru)



theorem setattr_ok {y : V} {u : Value} {Q : Unit → Shared → Prop} (I : Inv X pins σ H s) (e : H a = some (.ins C dx fs)) (c : Cls X.K C) (n : NoAttr X.K C f) (hl : fs.length < 1000) (ry : RelV y u)
    (h : ∀ s', Inv X pins σ (upd H a (.ins C dx (putF f y fs))) s' → Q () s') : wpAny (model X.prog X.w) A (setAttr (.ref a) f u) Q E s := by
  obtain ⟨mA, O, r, wi, _, ho⟩ := ins_get I.hok e
  have hz : (fs.map (·.1)).length ≤ sizeLine := by rw [List.length_map, sizeLine_eq]; omega
  refine set_map I.kIn O c.sa c.po n.taker c.hd wi hz fun h' O' sb => h _ ?_
  have hd : ∃ o, h'.get? dx = some o := let ⟨o, _, _, e', _⟩ := O'.ns; ⟨o, e'⟩
  refine I.write (x := a) (e := dx) (by rw [e]; exact True.intro) (.inr ho) (fun b q hb z => (sb.2 b hb).trans z) hd ?_
  refine ⟨by rw [upd_ne O.ne]; exact ho, ?_, O.ne, O'.obj, _, O'.ns, fun g => ?_, fun g hg => ?_⟩
  · have := length_putF f y fs; omega
  · show RelO ((putF f y fs).lookup g) (if g = f then some u else mA g)
    rw [lookup_putF]
    by_cases q : g = f
    · rw [if_pos q, if_pos q]; exact ry
    · rw [if_neg q, if_neg q]; exact r g
  · by_cases q : g = f
    · rw [q]; exact (keys_putF f y fs).1
    · refine (keys_putF f y fs).2 g (wi g fun z => hg ?_)
      show (if g = f then some u else mA g) = none
      rw [if_neg q]; exact z

/-- a new instance, tracked, without attributes -/
theorem Inv.made (I : Inv X pins σ H s) : Inv X pins σ (upd (upd H s.heap.objs.size (.own (s.heap.objs.size + 1))) (s.heap.objs.size + 1) (.ins C s.heap.objs.size []))
    { s with heap := (s.heap.push PySem.W.emptyDict).push (PySem.W.instObj C s.heap.objs.size) } := by
  have e1 : (s.heap.push PySem.W.emptyDict).get? s.heap.objs.size = some PySem.W.emptyDict := Heap.get?_push_size s.heap rfl
  have e2 : ((s.heap.push PySem.W.emptyDict).push (PySem.W.instObj C s.heap.objs.size)).get? (s.heap.objs.size + 1) = some (PySem.W.instObj C s.heap.objs.size) := by
    have := Heap.get?_push_size (s.heap.push PySem.W.emptyDict) (o := PySem.W.instObj C s.heap.objs.size) rfl
    rwa [Heap.size_push] at this
  have e3 : (s.heap.push PySem.W.emptyDict).Ns s.heap.objs.size (fun _ => none) := ⟨PySem.W.emptyDict, #[], _, e1, rfl, (fun e he => absurd he (by simp)), fun _ => rfl⟩
  have I1 := I.laid (a := s.heap.objs.size) (o := .own (s.heap.objs.size + 1)) (h' := s.heap.push PySem.W.emptyDict) (t' := s.toks) (fun b u q => Heap.get?_push_of_some _ q) (Nat.le_refl _) ⟨_, e1⟩
  refine I1.laid (a := s.heap.objs.size + 1) (o := .ins C s.heap.objs.size []) (t' := s.toks) (fun b u q => Heap.get?_push_of_some _ q) (Nat.le_of_eq (Heap.size_push _ _)) ?_
  have ne : s.heap.objs.size ≠ s.heap.objs.size + 1 := Nat.ne_of_lt (Nat.lt_succ_self _)
  refine ⟨by rw [upd_ne ne, upd_same], Nat.zero_le _, ne, e2, fun _ => none, (Heap.Ns1.of_empty e3).at fun o q => Heap.get?_push_of_some _ q, fun _ => True.intro, fun y hy => absurd rfl hy⟩

/-- e.f where nothing but the object is asked: through attributeBase (super) and the last hold -/
theorem attr_of {prog : Program} {w : World} {env : Env} {e : Expr} {f : Str} {pos : Pos} {s : Shared} {Q : Value → Shared → Prop} (hb : attributeBase e f env (eval e env) = eval e env)
    (h : wpAny (model prog w) A (eval e env) (fun o s₁ => wpAny (model prog w) A (getAttr o f true) Q E s₁) E s) : wpAny (model prog w) A (eval (.Attribute e f pos) env) Q E s :=
  Attribute_any_ h (by rw [arm_eval_Attribute, hb])
end

/-! ### readings and rules -/
/-- e.f, an attribute of the instance -/
def tFld (K : PySem.W.Frag) (ta : TE) (f : Str) : TE := fun σ H Q => ta σ H fun x H1 => ∃ a C dx fs v, x = .ref a ∧ H1 a = some (.ins C dx fs) ∧ Cls K C ∧ NoAttr K C f ∧ fs.lookup f = some v ∧ Q v H1
/-- e.f = value -/
def sFld (K : PySem.W.Frag) (ta tv : TE) (f : Str) : TS := fun D σ H => tv σ H fun y H1 => ta σ H1 fun x H2 => ∃ a C dx fs, x = .ref a ∧ H2 a = some (.ins C dx fs) ∧ Cls K C ∧ NoAttr K C f ∧ fs.length < 1000 ∧
  D.nx σ (upd H2 a (.ins C dx (putF f y fs)))
/-- an augmented operator on two values -/
def InOp (X : Cx) (op : Operator) (rd : V → V → Hp → VK → Prop) : Prop :=
  ∀ (pins : List (Addr × Obj)) (s : Shared) (σ : St) (H : Hp) (x y : V) (u v : Value) (Q : VK), Inv X pins σ H s → RelV x u → RelV y v → rd x y H Q → wpAny (model X.prog X.w) X.A (inplaceOp op u v) (EP X pins σ Q) X.xe s
/-- e.f op= value -/
def sFldAug (K : PySem.W.Frag) (ta tv : TE) (rd : V → V → Hp → VK → Prop) (f : Str) : TS := fun D σ H => ta σ H fun x H1 => ∃ a C dx fs v, x = .ref a ∧ H1 a = some (.ins C dx fs) ∧ Cls K C ∧ NoAttr K C f ∧ fs.lookup f = some v ∧
  tv σ H1 fun y H2 => rd v y H2 fun z H3 => ∃ dx' fs', H3 a = some (.ins C dx' fs') ∧ fs'.length < 1000 ∧ D.nx σ (upd H3 a (.ins C dx' (putF f z fs')))

section
variable {X : Cx} {o e value : Expr} {f : Str} {pos pos' tpos : Pos} {ta tv : TE}
theorem pe_fld (he : PE X e ta) (hb : attributeBase e f X.env (eval e X.env) = eval e X.env) : PE X (.Attribute e f pos) (tFld X.K ta f) := by
  intro pins s σ H Q I h
  refine attr_of hb (thn (he pins s σ H _ I h) fun u s1 ⟨x, H1, I1, rx, a, C, dx, fs, v, ex, ea, c, n, l, q⟩ => ?_)
  subst ex
  obtain rfl : u = Value.ref a := rx
  exact getattr_ok I1 ea c n l fun u' s2 I2 ru => ⟨v, H1, I2, ru, q⟩
theorem ps_fld (ha : PE X o ta) (hv : PE X value tv) (hs : swapsWith value (some (.Attribute o f pos')) pos.line X.env = pure false) : PS X (.Assign [.Attribute o f pos'] value pos) (sFld X.K ta tv f) := by
  intro pins s σ H D I h
  refine plainObj_wpAny_Assign_Attribute (thn (hv pins s σ H _ I h) fun u s1 ⟨y, H1, I1, ry, q⟩ => thn (ha pins s1 σ H1 _ I1 q) fun ov s2 ⟨x, H2, I2, rx, a, C, dx, fs, ex, ea, c, n, l, q2⟩ => ?_) hs
  subst ex
  obtain rfl : ov = Value.ref a := rx
  exact setattr_ok I2 ea c n l ry fun s3 I3 => ⟨σ, _, I3, q2⟩
theorem ps_fldaug {op : Operator} {rd : V → V → Hp → VK → Prop} (ha : PE X o ta) (hv : PE X value tv) (hop : InOp X op rd) : PS X (.AugAssign (.Attribute o f tpos) op value pos) (sFldAug X.K ta tv rd f) := by
  intro pins s σ H D I h
  refine wpAny_AugAssign_AttributeAny (thn (ha pins s σ H _ I h) fun ov s1 ⟨x, H1, I1, rx, a, C, dx, fs, v, ex, ea, c, n, l, q⟩ => ?_)
  subst ex
  obtain rfl : ov = Value.ref a := rx
  refine getattr_ok I1 ea c n l fun u s2 I2 ru => thn (hv pins s2 σ H1 _ I2 q) fun w3 s3 ⟨y, H2, I3, ry, q3⟩ => thn (hop pins s3 σ H2 v y u w3 _ I3 ru ry q3) fun w4 s4 ⟨z, H3, I4, rz, dx', fs', ea', l', q4⟩ => ?_
  exact setattr_ok I4 ea' c n l' rz fun s5 I5 => ⟨σ, _, I5, q4⟩
def rAdd : V → V → Hp → VK → Prop := fun x y H Q => ∃ i j, x = .int i ∧ y = .int j ∧ Q (.int (i + j)) H
theorem in_add : InOp X .Add rAdd := by
  rintro pins s σ H x y u v Q I rx ry ⟨i, j, rfl, rfl, q⟩
  obtain ⟨t, rfl⟩ := (show ∃ t, u = Value.int i t from rx)
  obtain ⟨t', rfl⟩ := (show ∃ t', v = Value.int j t' from ry)
  exact PyProof.Rows.iadd_int ⟨.int (i + j), H, I.tok _, ⟨_, rfl⟩, q⟩

end

/-! ### isinstance -/
section
variable {X : Cx} {pins : List (Addr × Obj)} {σ : St} {H : Hp} {s : Shared} {A : Around} {E : Value → Shared → Prop} {Q : Value → Shared → Prop} {c : Value} {b : Bool}
end
end L2

namespace L2
open PySem PySem.Spec PyProof.Rows

/-! ### room -/
structure Room (k : Nat) (A : Around) : Prop where
  hd : A.handled = none
  dp : A.depth + 3 * k + 5 < recursionLimit
  un : A.units + 16 * k + 200 < cLine
theorem Room.mono {j k : Nat} {A : Around} (r : Room k A) (h : j ≤ k) : Room j A := ⟨r.hd, by have := r.dp; omega, by have := r.un; omega⟩
theorem Room.deeper {k : Nat} {A : Around} (r : Room (k + 1) A) (env : Env) : Room k (A.deeper env) :=
  ⟨r.hd, by have := r.dp; show A.depth + 1 + 3 * k + 5 < _; omega, by have := r.un; show A.units + 3 + 16 * k + 200 < _; omega⟩
theorem make_depth {A : Around} {C : Addr} {us : List Value} {kw : List (Str × Value)} : (A.under (.builtin "type.__call__" ⟨.ref C :: us, kw⟩)).depth = A.depth + 1 := by
  first | rfl | simp [Around.under, Code.weight, Code.isCreation, Code.isGuard, Code.isCaller, Code.frames, Code.isFrame, guardIds]
theorem make_units {A : Around} {C : Addr} {us : List Value} {kw : List (Str × Value)} : (A.under (.builtin "type.__call__" ⟨.ref C :: us, kw⟩)).units = A.units + 1 := by
  first | rfl | simp [Around.under, Code.cUnits, Code.frames, Code.isFrame]
theorem Room.make {k : Nat} {A : Around} (r : Room (k + 1) A) (C : Addr) (us : List Value) (kw : List (Str × Value)) : Room k (A.under (.builtin "type.__call__" ⟨.ref C :: us, kw⟩)) :=
  ⟨r.hd, by have := r.dp; rw [make_depth]; omega, by have := r.un; rw [make_units]; omega⟩
theorem Room.depth {k : Nat} {A : Around} (r : Room k A) : A.depth < recursionLimit := by have := r.dp; omega
theorem Room.units {k : Nat} {A : Around} (r : Room k A) : A.units + 64 < cLine := by have := r.un; omega

/-! ### argument lists and displays -/
def tNil : TA := fun _ H Q => Q [] H
def tCons (ta : TE) (tr : TA) : TA := fun σ H Q => ta σ H fun x H1 => tr σ H1 fun xs H2 => Q (x :: xs) H2
section
variable {X : Cx} {e : Expr} {es : List Expr} {te : TE} {t : TA} {pos : Pos}
theorem pa_nil : PA X [] tNil := fun _ _ _ _ H Q I h => Calls.spliced_nil ⟨[], H, I, .nil, h⟩
theorem pa_cons (ha : PE X e te) (hr : PA X es t) (hs : starEach (e :: es) X.env = (false, eval e X.env) :: starEach es X.env := by rfl) : PA X (e :: es) (tCons te t) := by
  intro pos pins s σ H Q I h
  rw [hs]
  show wpAny _ _ (spliced ((false, eval e X.env) :: backTo pos (starEach es X.env))) _ _ s
  refine Calls.spliced_cons (thn (ha pins s σ H _ I h) fun u s1 ⟨x, H1, I1, r1, q1⟩ => ?_)
  exact thn (hr pos pins s1 σ H1 _ I1 q1) fun us s2 ⟨xs, H2, I2, r2, q2⟩ => ⟨x :: xs, H2, I2, .cons r1 r2, q2⟩

/-- a tuple, a list of written items -/
def tTup (t : TA) : TE := fun σ H Q => t σ H fun xs H1 => xs.length ≤ sizeLine ∧ ∀ p, H1 p = none → Q (.ref p) (upd H1 p (.tup xs))
def tLst (t : TA) : TE := fun σ H Q => t σ H fun xs H1 => xs.length ≤ sizeLine ∧ ∀ p, H1 p = none → Q (.ref p) (upd H1 p (.lst xs))
theorem pe_tup {x1} (h : PA X es t) : PE X (.Tuple es x1 pos) (tTup t) := by
  intro pins s σ H Q I hq
  refine wpAny_Tuple_spliced (thn (h pos pins s σ H _ I hq) fun us s1 ⟨xs, H1, I1, r, z, q⟩ => ⟨by rw [← r.length]; exact z, ?_⟩)
  have hf : H1 s1.heap.objs.size = none := I1.hok.fresh (Nat.le_refl _)
  refine ⟨.ref s1.heap.objs.size, upd H1 s1.heap.objs.size (.tup xs), I1.laid (t' := s1.toks) (fun b u e => Heap.get?_push_of_some _ e) (Nat.le_refl _) ?_, rfl, q _ hf⟩
  exact ⟨z, us, r, ⟨_, Heap.get?_push_size _ rfl, rfl, _, rfl⟩⟩
theorem pe_lst (h : PA X es t) : PE X (.List es pos) (tLst t) := by
  intro pins s σ H Q I hq
  refine wpAny_List_spliced (thn (h pos pins s σ H _ I hq) fun us s1 ⟨xs, H1, I1, r, z, q⟩ => ⟨by rw [← r.length]; exact z, ?_⟩)
  have hf : H1 s1.heap.objs.size = none := I1.hok.fresh (Nat.le_refl _)
  refine ⟨.ref s1.heap.objs.size, upd H1 s1.heap.objs.size (.lst xs), I1.laid (t' := s1.toks) (fun b u e => Heap.get?_push_of_some _ e) (Nat.le_refl _) ?_, rfl, q _ hf⟩
  exact ⟨z, us, 0, r, Heap.get?_push_size _ rfl⟩
end

/-! ### what a def promises -/
/-- a def's promise: the bound arguments in the parameters' order, the heap, the wanted end, the wanted exception -/
abbrev Sp := List V → Hp → VK → XK → Prop
/-- how an exception lies behind a call (file 08 gives it): the callers' frames, abstract heap and state ahead of the call, the wish, the exception, the state -/
abbrev CXT := List Env → Hp → Shared → XK → Value → Shared → Prop

/-- the state at a call -/
structure Env0 (P : Program) (w : World) (K : PySem.W.Frag) (mg : Str → Option Value) (base : Heap) (A : Around) (outer : List Env) (s : Shared) (H : Hp) : Prop where
  frames : A.frames = some outer
  mod : Mod K mg base
  bs : ∀ b o, base.get? b = some o → s.heap.get? b = some o ∧ H b = none
  bsz : base.objs.size ≤ s.heap.objs.size
  funs : s.heap.FunFrames base outer
  frf : ∀ b ∈ frs outer, H b = none
  hok : HOk P w H s.heap
  bare : AllBare s.gens
/-- a call's end -/
def CE (outer : List Env) (P : Program) (w : World) (H : Hp) (s : Shared) (Q : VK) (u : Value) (s' : Shared) : Prop :=
  ∃ v H', s'.os = s.os ∧ AllBare s'.gens ∧ Un (frs outer) [] H H' s.heap s'.heap ∧ HOk P w H' s'.heap ∧ RelV v u ∧ Q v H'
def CR (CX : CXT) (outer : List Env) (P : Program) (w : World) (H : Hp) (s : Shared) (Q : VK) (E : XK) (r : Result) (s' : Shared) : Prop :=
  match r with
  | .ok (.ret u) => CE outer P w H s Q u s'
  | .ok _ => False
  | .error e => CX outer H s E e s'
structure FnOk (P : Program) (w : World) (K : PySem.W.Frag) (mg : Str → Option Value) (base : Heap) (CX : CXT) (k : Nat) (f : Addr) (fd : FuncData) (ps : List Str) (sp : Sp) : Prop where
  len : ∀ vs H Q E, sp vs H Q E → vs.length = ps.length
  run : ∀ (A : Around) (outer : List Env) (s : Shared) (H : Hp) (args : Args) (us : List Value) (vs : List V) (Q : VK) (E : XK), Room k A → Env0 P w K mg base A outer s H → BindsTo s fd args (ps.zip us) → Vals vs us → sp vs H Q E →
    codeAny (model P w) A (.call (.ref f) args) (CR CX outer P w H s Q E) s

theorem Env0.make {P : Program} {w : World} {K : PySem.W.Frag} {mg : Str → Option Value} {base : Heap} {A : Around} {outer : List Env} {s : Shared} {H : Hp} (e : Env0 P w K mg base A outer s H) (C : Addr) (us : List Value) (kw : List (Str × Value)) :
    Env0 P w K mg base (A.under (.builtin "type.__call__" ⟨.ref C :: us, kw⟩)) outer s H := ⟨by first | exact e.frames | (simpa [Around.under, Code.envs, Code.isFrame, pushEnvs] using e.frames), e.mod, e.bs, e.bsz, e.funs, e.frf, e.hok, e.bare⟩

section
variable {X : Cx} {pins : List (Addr × Obj)} {σ : St} {H : Hp} {s s' : Shared}
/-- from a body: what a callee wants -/
theorem Inv.env0 (I : Inv X pins σ H s) : Env0 X.prog X.w X.K X.mg X.base X.A X.stack s H :=
  ⟨I.ok.frames, I.ok.mod, I.bs, Nat.le_trans I.ok.bsz I.sz, I.stack, I.stkFree, I.hok, I.bare⟩
/-- behind a call -/
theorem Inv.after {Q : VK} {u : Value} (I : Inv X pins σ H s) (h : CE X.stack X.prog X.w H s Q u s') : EP X pins σ Q u s' := by
  obtain ⟨v, H', os, bare, un, hok, r, q⟩ := h
  obtain ⟨hh, g, d, t, os'⟩ := s'
  obtain rfl : os' = s.os := os
  exact ⟨v, H', I.call (h' := hh) (g' := g) (d' := d) (t' := t) (ch := []) un hok bare (fun b z => absurd z (by simp)), r, q⟩
end

/-! ### calls -/
/-- f(..): the written arguments, then the defaults dvs; E: what is wanted of an exception -/
def tCall (sp : Sp) (dvs : List V) (E : XK) (t : TA) : TE := fun σ H Q => t σ H fun vs H1 => sp (vs ++ dvs) H1 Q E
/-- C(..): a new instance and its dict, then __init__ -/
def tMake (C : Addr) (sp : Sp) (dvs : List V) (E : XK) (t : TA) : TE := fun σ H Q => t σ H fun vs H1 => ∀ x dx, H1 x = none → H1 dx = none → dx ≠ x →
  sp (.ref x :: (vs ++ dvs)) (upd (upd H1 dx (.own x)) x (.ins C dx [])) (fun v H2 => v = .non ∧ Q (.ref x) H2) E

/-- how the parameters are bound: us the positional arguments, kw the keywords' values by name, ds the defaults that fill up -/
def Binds (K : PySem.W.Frag) (fd : FuncData) (ps : List Str) (ds : List Value) : Prop :=
  ∀ (s : Shared) (us : List Value), K.In s.heap → (us ++ ds).length = ps.length → BindsTo s fd ⟨us, []⟩ (ps.zip (us ++ ds))
/-- every parameter is given -/
theorem Binds.all {K : PySem.W.Frag} {fd : FuncData} {ps : List Str} (h : ∀ us : List Value, us.length = ps.length → bindArgs fd ⟨us, []⟩ = pure (ps.zip us)) : Binds K fd ps [] := fun s us _ hl => by
  rw [List.append_nil] at hl ⊢
  exact .of_eq (h us hl)

/-- an exception of a callee reaches what this body wants of exceptions -/
def Passes (CX : CXT) (X : Cx) (E : XK) : Prop := ∀ (pins : List (Addr × Obj)) (σ : St) (H : Hp) (s : Shared) (e : Value) (s' : Shared), Inv X pins σ H s → CX X.stack H s E e s' → X.xe e s'

section
variable {X : Cx} {CX : CXT} {k : Nat} {f C : Addr} {fd : FuncData} {ps : List Str} {sp : Sp} {dvs : List V} {ds : List Value} {E : XK} {x m : Str} {p pos apos : Pos} {e o : Expr} {es : List Expr} {ta : TE} {t : TA}

/-- the callee runs -/
theorem run_fn {pins : List (Addr × Obj)} {σ : St} {H : Hp} {s : Shared} {Q : VK} {us : List Value} {vs : List V} (F : FnOk X.prog X.w X.K X.mg X.base CX k f fd ps sp) (hr : Room k X.A) (hb : Binds X.K fd ps ds) (hd : Vals dvs ds) (hx : Passes CX X E)
    (I : Inv X pins σ H s) (r : Vals vs us) (h : sp (vs ++ dvs) H Q E) : wpAny (model X.prog X.w) X.A (call (.ref f) us) (EP X pins σ Q) X.xe s := by
  have r2 : Vals (vs ++ dvs) (us ++ ds) := r.append hd
  have hl : (us ++ ds).length = ps.length := by rw [← r2.length]; exact F.len _ _ _ _ h
  refine wpAny_call (codeAny_mono (F.run X.A X.stack s H ⟨us, []⟩ (us ++ ds) (vs ++ dvs) Q E hr I.env0 (hb s us I.kIn hl) r2 h) fun r s' hq => ?_)
  cases r with
  | error e => exact hx pins σ H s e s' I hq
  | ok fl =>
    cases fl with
    | ret u => exact I.after hq
    | next => exact False.elim hq
    | brk => exact False.elim hq
    | cont => exact False.elim hq

theorem pe_call (F : FnOk X.prog X.w X.K X.mg X.base CX k f fd ps sp) (hr : Room k X.A) (hg : Gl X x) (hm : X.mg x = some (.ref f)) (hk : PySem.W.keepIn X.K (.ref f) = true) (hb : Binds X.K fd ps ds) (hd : Vals dvs ds) (hx : Passes CX X E)
    (ha : PA X (e :: es) t) (hdb : (x == ("__debug__" : Str)) = false := by decide) (he : starEach (e :: es) X.env = (false, eval e X.env) :: starEach es X.env := by rfl) (hpl : (backTo pos (starEach es X.env)).any (·.1) = false := by rfl) :
    PE X (.Call (.Name x p) (e :: es) [] pos) (tCall sp dvs E t) := by
  intro pins s σ H Q I h
  refine wpAny_Call_Name_kw (ld_glob I hg hm ?_ hdb)
  refine PySem.W.callWith_K (h₀ := X.base) I.ok.mod.kin hk (thn (ha pos pins s σ H _ I h) fun us s1 ⟨vs, H1, I1, r, q⟩ => ⟨I1.kIn, ?_⟩) he hpl
  exact run_fn F hr hb hd hx I1 r q


/-- what a class must have to be made -/
structure Mk (K : PySem.W.Frag) (C f : Addr) : Prop where
  makes : PySem.W.makesIn K C = true
  init : PySem.W.findIn K (.ref C) "__init__" = some (some (.ref f))
  fn : PySem.W.isFn K (.ref f) = true
  kp : PySem.W.keepIn K (.ref C) = true

theorem run_make {pins : List (Addr × Obj)} {σ : St} {H : Hp} {s : Shared} {Q : VK} {us : List Value} {vs : List V} (M : Mk X.K C f) (F : FnOk X.prog X.w X.K X.mg X.base CX k f fd ps sp) (hr : Room (k + 1) X.A) (hb : Binds X.K fd ps ds) (hd : Vals dvs ds)
    (hx : Passes CX X E) (I : Inv X pins σ H s) (r : Vals vs us)
    (h : ∀ x dx, H x = none → H dx = none → dx ≠ x → sp (.ref x :: (vs ++ dvs)) (upd (upd H dx (.own x)) x (.ins C dx [])) (fun v H2 => v = .non ∧ Q (.ref x) H2) E) :
    wpAny (model X.prog X.w) X.A (call (.ref C) us) (EP X pins σ Q) X.xe s := by
  have hq := h (s.heap.objs.size + 1) s.heap.objs.size (I.hok.fresh (Nat.le_succ _)) (I.hok.fresh (Nat.le_refl _)) (Nat.ne_of_lt (Nat.lt_succ_self _))
  have I2 := Inv.made (C := C) I
  have r2 : Vals (V.ref (s.heap.objs.size + 1) :: (vs ++ dvs)) (Value.ref (s.heap.objs.size + 1) :: (us ++ ds)) := .cons rfl (r.append hd)
  have hl : (Value.ref (s.heap.objs.size + 1) :: us ++ ds).length = ps.length := by
    have e := r2.length
    rw [F.len _ _ _ _ hq] at e
    exact e.symm
  refine wpAny_call (make_map (f := f) I.kIn M.makes M.init (beq_iff_eq.mp M.fn) (codeAny_mono (F.run _ X.stack _ _ ⟨Value.ref (s.heap.objs.size + 1) :: us, []⟩ (Value.ref (s.heap.objs.size + 1) :: (us ++ ds)) _ _ E (hr.make C us [])
    (I2.env0.make C us []) (hb _ (Value.ref (s.heap.objs.size + 1) :: us) I2.kIn hl) r2 hq) fun r s' hq' => ?_))
  cases r with
  | error e => exact hx pins σ _ _ e s' I2 hq'
  | ok fl =>
    cases fl with
    | ret u =>
      obtain ⟨v, H', I3, rv, ev, q3⟩ := I2.after hq'
      subst ev
      exact ⟨rv, ⟨V.ref (s.heap.objs.size + 1), H', I3, rfl, q3⟩⟩
    | next => exact False.elim hq'
    | brk => exact False.elim hq'
    | cont => exact False.elim hq'
theorem pe_make (M : Mk X.K C f) (F : FnOk X.prog X.w X.K X.mg X.base CX k f fd ps sp) (hr : Room (k + 1) X.A) (hg : Gl X x) (hm : X.mg x = some (.ref C)) (hb : Binds X.K fd ps ds) (hd : Vals dvs ds) (hx : Passes CX X E)
    (ha : PA X (e :: es) t) (hdb : (x == ("__debug__" : Str)) = false := by decide) (he : starEach (e :: es) X.env = (false, eval e X.env) :: starEach es X.env := by rfl) (hpl : (backTo pos (starEach es X.env)).any (·.1) = false := by rfl) :
    PE X (.Call (.Name x p) (e :: es) [] pos) (tMake C sp dvs E t) := by
  intro pins s σ H Q I h
  refine wpAny_Call_Name_kw (ld_glob I hg hm ?_ hdb)
  refine PySem.W.callWith_K (h₀ := X.base) I.ok.mod.kin M.kp (thn (ha pos pins s σ H _ I h) fun us s1 ⟨vs, H1, I1, r, q⟩ => ⟨I1.kIn, ?_⟩) he hpl
  exact run_make M F hr hb hd hx I1 r q
theorem pe_make0 (M : Mk X.K C f) (F : FnOk X.prog X.w X.K X.mg X.base CX k f fd ps sp) (hr : Room (k + 1) X.A) (hg : Gl X x) (hm : X.mg x = some (.ref C)) (hb : Binds X.K fd ps ds) (hd : Vals dvs ds) (hx : Passes CX X E)
    (hdb : (x == ("__debug__" : Str)) = false := by decide) : PE X (.Call (.Name x p) [] [] pos) (tMake C sp dvs E tNil) := by
  intro pins s σ H Q I h
  refine wpAny_Call_Name_kw (ld_glob I hg hm ?_ hdb)
  exact PySem.W.callWith_K0 I.kIn M.kp (run_make (us := []) M F hr hb hd hx I .nil h)
end

/-! ### keywords -/
section
variable {X : Cx} {CX : CXT} {k : Nat} {f C : Addr} {fd : FuncData} {ps ks : List Str} {sp : Sp} {E : XK} {x m : Str} {p pos apos kpos : Pos} {e o : Expr} {es : List Expr} {kws : List Keyword} {te ta : TE} {t tk : TA} {nm : Option Str}

variable {g : List Value → List Value → List Value} {gV : List V → List V → List V}
end

/-! ### a def's body keeps its promise -/
/-- names: the parameters first -/
structure FnScope (N P : List Str) (sc : Scope) : Prop where
  kind : sc.kind = .function
  co : sc.isCoroutine = false
  gen : sc.isGenerator = false
  nd : N.Nodup
  pre : N.take P.length = P
  par : ∀ x ∈ P, sc.names.lookup x = some .local ∨ sc.names.lookup x = some .cell
  nofree : ∀ y ∈ sc.names, y.2 ≠ .free

theorem bindL_out {kindOf : Str → Option NameKind} {x : Str} : ∀ {binds : List (Str × Value)} {m : Str → Option Value}, (∀ v, (x, v) ∉ binds) → bindL kindOf binds m x = m x
  | [], _, _ => rfl
  | (n, v) :: r, m, h => by
    unfold bindL
    rw [bindL_out fun w hw => h w (List.mem_cons_of_mem _ hw)]
    split
    · have : x ≠ n := by rintro rfl; exact h v List.mem_cons_self
      simp [this]
    · rfl
theorem bindC_out {kindOf : Str → Option NameKind} {x : Str} : ∀ {binds : List (Str × Value)} {m : Str → Option Value}, (∀ v, (x, v) ∉ binds) → bindC kindOf binds m x = m x
  | [], _, _ => rfl
  | (n, v) :: r, m, h => by
    unfold bindC
    rw [bindC_out fun w hw => h w (List.mem_cons_of_mem _ hw)]
    split
    · rfl
    · have : x ≠ n := by rintro rfl; exact h v List.mem_cons_self
      simp [this]
theorem bindL_get {kindOf : Str → Option NameKind} {x : Str} {v : Value} : ∀ {P : List Str} {vs : List Value} {i : Nat} {m : Str → Option Value}, P.Nodup → P[i]? = some x → vs[i]? = some v → kindOf x = some .local →
    bindL kindOf (P.zip vs) m x = some v
  | [], _, _, _, _, h, _, _ => by simp at h
  | _ :: _, [], _, _, _, _, h, _ => by simp at h
  | p :: P, w :: vs, 0, m, nd, h1, h2, hk => by
    simp at h1 h2; subst h1; subst h2
    show bindL kindOf ((p, w) :: P.zip vs) m p = _
    unfold bindL
    rw [bindL_out fun v hv => (List.nodup_cons.mp nd).1 (List.of_mem_zip hv).1, if_pos hk]
    simp
  | p :: P, w :: vs, i + 1, m, nd, h1, h2, hk => by
    show bindL kindOf ((p, w) :: P.zip vs) m x = _
    unfold bindL
    exact bindL_get (i := i) (List.nodup_cons.mp nd).2 (by simpa using h1) (by simpa using h2) hk
theorem bindC_get {kindOf : Str → Option NameKind} {x : Str} {v : Value} : ∀ {P : List Str} {vs : List Value} {i : Nat} {m : Str → Option Value}, P.Nodup → P[i]? = some x → vs[i]? = some v → kindOf x ≠ some .local →
    bindC kindOf (P.zip vs) m x = some v
  | [], _, _, _, _, h, _, _ => by simp at h
  | _ :: _, [], _, _, _, _, h, _ => by simp at h
  | p :: P, w :: vs, 0, m, nd, h1, h2, hk => by
    simp at h1 h2; subst h1; subst h2
    show bindC kindOf ((p, w) :: P.zip vs) m p = _
    unfold bindC
    rw [bindC_out fun v hv => (List.nodup_cons.mp nd).1 (List.of_mem_zip hv).1, if_neg hk]
    simp
  | p :: P, w :: vs, i + 1, m, nd, h1, h2, hk => by
    show bindC kindOf ((p, w) :: P.zip vs) m x = _
    unfold bindC
    exact bindC_get (i := i) (List.nodup_cons.mp nd).2 (by simpa using h1) (by simpa using h2) hk

/-- the names' values at the entry -/
def start (N : List Str) (vs : List V) : St := vs.map some ++ List.replicate (N.length - vs.length) none

/-- the context of a def's body, at its entry; an exception leaves the frame, then lies as CX says -/
def cxOf (CX : CXT) (P : Program) (w : World) (K : PySem.W.Frag) (mg : Str → Option Value) (base : Heap) (N : List Str) (qual : Str) (scope : Scope) (f : Addr) (cd : Value) (A : Around) (outer : List Env) (s : Shared) (H : Hp) (E : XK) : Cx where
  prog := P
  w := w
  K := K
  mg := mg
  base := base
  A := A.deeper (envOfC qual scope s.heap.objs.size f cd)
  N := N
  s_0 := s
  H_0 := H
  env := envOfC qual scope s.heap.objs.size f cd
  outer := outer
  stack := envOfC qual scope s.heap.objs.size f cd :: outer
  ex := []
  calm := true
  fn := fun _ => true
  pn := []
  xe := fun e s' => wpAny (model P w) (A.deeper (envOfC qual scope s.heap.objs.size f cd)) (leaving (envOfC qual scope s.heap.objs.size f cd) e) (fun _ s'' => CX outer H s E e s'') (fun e' s'' => CX outer H s E e' s'') s'

theorem cell_has {sc : Scope} {n : Nat} {x : Str} (h : sc.names.lookup x = some .cell) : ∃ c, (cellsFrom n sc.names []).lookup x = some c := by
  have q := PySem.W.cellsFrom_some sc.names n [] (.inl h)
  exact Option.isSome_iff_exists.mp q

theorem inv_start {CX : CXT} {P : Program} {w : World} {K : PySem.W.Frag} {mg : Str → Option Value} {base : Heap} {N ps : List Str} {qual : Str} {scope : Scope} {f : Addr} {cd : Value} {A : Around} {outer : List Env} {s s1 : Shared} {H : Hp} {E : XK} {us : List Value} {vs : List V}
    (S : FnScope N ps scope) (hd : A.handled = none) (e0 : Env0 P w K mg base A outer s H) (hl : vs.length = ps.length) (r : Vals vs us)
    (x : InCallC s s.heap.objs.size (bindL (envOfC qual scope s.heap.objs.size f cd).kindOf (ps.zip us) fun _ => none) (cellsFrom (s.heap.objs.size + 1) scope.names []) (bindC (envOfC qual scope s.heap.objs.size f cd).kindOf (ps.zip us) fun _ => none) s1) :
    Inv (cxOf CX P w K mg base N qual scope f cd A outer s H E) [] (start N vs) H s1 := by
  have hpl : ps.length ≤ N.length := by have := congrArg List.length S.pre; rw [List.length_take] at this; omega
  obtain ⟨h1, tk, rfl, hk⟩ := x.done
  have noA : ∀ b : Addr, b ∉ (cxOf CX P w K mg base N qual scope f cd A outer s H E).ex := fun b z => absurd (show b ∈ ([] : List Addr) from z) (by simp)
  refine ⟨⟨e0.mod, S.kind, rfl, rfl, Nat.le_refl _, fun y z c h1 h2 => ?_, fun y hy => ?_, fun y c _ h => ?_, fun _ => hd, Around.frames_deeper e0.frames, .inr ⟨rfl, rfl⟩, fun b z => absurd z (noA b), e0.bs, e0.bsz, fun b _ _ => noA b, fun b z => absurd z (noA b), e0.funs, e0.frf⟩,
    rfl, e0.bare, Un.kept hk, ⟨_, x.toInCall.ns, fun i y v h1 h2 h3 => ?_⟩, fun y c h => ⟨_, x.cell y c h⟩, e0.hok.fresh (Nat.le_refl _), fun y c h => ?_, fun p hp => absurd (show p ∈ ([] : List (Addr × Obj)) from hp) (by simp), e0.hok.kept hk, ?_⟩
  · exact name_of_addr x.apart (PySem.mem_of_lookup h1) (PySem.mem_of_lookup h2)
  · have hy : scope.names.lookup y = some .cell ∨ scope.names.lookup y = some .free := hy
    rcases hy with hy | hy
    · exact cell_has hy
    · exact absurd rfl (S.nofree _ (PySem.mem_of_lookup hy))
  · exact Nat.le_of_lt (x.above y c (PySem.mem_of_lookup h))
  · have hi : i < vs.length := by
      unfold start at h2
      by_cases hi : i < vs.length
      · exact hi
      · rw [List.getElem?_append_right (by simpa using hi)] at h2
        rw [List.getElem?_replicate] at h2
        split at h2 <;> cases h2
    have ha : vs[i]? = some v := by
      unfold start at h2
      rw [List.getElem?_append_left (by simpa using hi), List.getElem?_map] at h2
      cases e : vs[i]? with
      | none => rw [e] at h2; cases h2
      | some a => rw [e] at h2; cases h2; rfl
    obtain ⟨u, hu, rv⟩ := r.get ha
    have hp : ps[i]? = some y := by
      rw [← S.pre, List.getElem?_take_of_lt (by omega)]; exact h1
    have ndP : ps.Nodup := by rw [← S.pre]; exact S.nd.sublist (List.take_sublist _ _)
    refine ⟨u, rv, ?_⟩
    rcases S.par y (List.mem_of_getElem? hp) with k | k
    · exact .inl ⟨k, bindL_get ndP hp hu k⟩
    · obtain ⟨c, e⟩ := cell_has (n := s.heap.objs.size + 1) k
      refine .inr ⟨.inl k, c, e, ?_⟩
      have q := x.cell y c e
      rw [bindC_get ndP hp hu (by show scope.names.lookup y ≠ _; rw [k]; decide)] at q
      exact q
  · exact e0.hok.fresh (Nat.le_of_lt (x.above y c (PySem.mem_of_lookup h)))
  · unfold start
    show _ = N.length
    rw [List.length_append, List.length_map, List.length_replicate]
    omega

/-- THE RULE: a def (or a method) of the text, by its body. The body's reading t is chosen for each entry; it is run at the parameters' values -/
theorem fn_of {CX : CXT} {P : Program} {w : World} {K : PySem.W.Frag} {mg : Str → Option Value} {base : Heap} {k : Nat} {f : Addr} {name qual : Str} {params : Arguments} {body : List Stmt} {scope : Scope} {dV kV doc pm cdv ct oc : Value} {an od : Option Addr}
    {osl : Array (Option Value)} {N ps : List Str} {sp : Sp} (lk : K.lookup f = some ⟨oc, od, .func (PySem.W.fnOf name qual params body scope dV kV doc pm an cdv ct), osl⟩) (hcd : PySem.W.codeIn K cdv qual = true) (S : FnScope N ps scope)
    (len : ∀ vs H Q E, sp vs H Q E → vs.length = ps.length)
    (hbody : ∀ (A : Around) (outer : List Env) (s : Shared) (H : Hp) (vs : List V) (Q : VK) (E : XK), Room k (A.deeper (envOfC qual scope s.heap.objs.size f cdv)) → sp vs H Q E →
      ∃ t, PSs (cxOf CX P w K mg base N qual scope f cdv A outer s H E) body t ∧ t { nx := fun _ H' => Q .non H', rt := Q } (start N vs) H) :
    FnOk P w K mg base CX (k + 1) f (PySem.W.fnOf name qual params body scope dV kV doc pm an cdv ct) ps sp := by
  refine ⟨len, fun A outer s H args us vs Q E hr e0 hb r hsp => ?_⟩
  have hl := len _ _ _ _ hsp
  have KX : K.In s.heap := e0.mod.kin.keeps fun b o e => (e0.bs b o e).1
  have lim : s.heap.NoLimit := e0.mod.nolimit.keeps fun b o e => (e0.bs b o e).1
  have hkind : ∀ y ∈ ps.zip us, scope.names.lookup y.1 = some .local ∨ (scope.names.lookup y.1 = some .cell ∧ ((cellsFrom (s.heap.objs.size + 1) scope.names []).lookup y.1).isSome = true) := fun ⟨n, v⟩ hy => by
    rcases S.par n (List.of_mem_zip hy).1 with q | q
    · exact .inl q
    · exact .inr ⟨q, PySem.W.cellsFrom_some _ _ _ (.inl q)⟩
  refine codeAny_call_function hr.depth (KX _ _ lk) rfl S.co S.gen rfl (PySem.W.codeRec_of KX hcd) (hb _ _ _ _ ?_)
  refine wpAny_newFunctionEnv_cells S.kind hkind fun env he s1 x => ?_
  subst he
  refine ⟨lim.keeps x.toInCall.keep, codeAny_func ?_⟩
  obtain ⟨t, ht, hq⟩ := hbody A outer s H vs Q E (hr.deeper _) hsp
  have I : Inv (cxOf CX P w K mg base N qual scope f cdv A outer s H E) [] (start N vs) H s1 := inv_start S hr.hd e0 hl r x
  refine wpAny_mono (ht [] s1 (start N vs) H _ I hq) (fun fl s' hs => ?_) fun e s' hs => hs
  have fin : ∀ {σ' : St} {H' : Hp} {v : V} {u : Value}, Inv (cxOf CX P w K mg base N qual scope f cdv A outer s H E) [] σ' H' s' → RelV v u → Q v H' → CE outer P w H s Q u s' :=
    fun {σ' H' v u} J rv q => ⟨v, H', J.os, J.bare, J.base, J.hok, rv, q⟩
  cases fl with
  | ret u =>
    obtain ⟨v, σ', H', J, rv, q⟩ := hs
    exact fin J rv q
  | next =>
    obtain ⟨σ', H', J, q⟩ := hs
    exact fin (v := V.non) (u := Value.none) J rfl q
  | brk =>
    obtain ⟨_, _, _, q⟩ := hs
    exact False.elim q
  | cont =>
    obtain ⟨_, _, _, q⟩ := hs
    exact False.elim q
end L2

namespace L2
open PySem PySem.Spec PyProof.Rows
section
variable {X : Cx} {x : Str} {p pos : Pos} {e : Expr} {es : List Expr} {t : TA} {id T : String} {r : List V → Hp → VK → Prop}

def tCB (r : List V → Hp → VK → Prop) (t : TA) : TE := fun σ H Q => t σ H fun vs H1 => r vs H1 Q
/-- f(e, ..), f a built-in function -/
theorem pe_callB (hc : CallR X (.builtin id) r) (hg : Gl X x) (hm : X.mg x = none) (hv : bootBuiltins x = some (.builtin id)) (ha : PA X (e :: es) t) (hn : x ≠ "__name__" := by decide) (hdb : (x == ("__debug__" : Str)) = false := by decide)
    (he : starEach (e :: es) X.env = (false, eval e X.env) :: starEach es X.env := by rfl) (hpl : (backTo pos (starEach es X.env)).any (·.1) = false := by rfl) : PE X (.Call (.Name x p) (e :: es) [] pos) (tCB r t) := by
  intro pins s σ H Q I h
  refine wpAny_Call_Name_kw (ld_blt I hg hm hv ?_ hn hdb)
  exact PyProof.Rows.callWith_builtin1 (thn (ha pos pins s σ H _ I h) fun us s1 ⟨vs, H1, I1, r1, q1⟩ => hc pins s1 σ H1 vs us Q I1 r1 q1) he hpl
/-- T(e, ..), T a built-in type -/
theorem pe_callTy (hc : CallR X (.type T) r) (hg : Gl X x) (hm : X.mg x = none) (hv : bootBuiltins x = some (.type T)) (ha : PA X (e :: es) t) (hn : x ≠ "__name__" := by decide) (hdb : (x == ("__debug__" : Str)) = false := by decide)
    (he : starEach (e :: es) X.env = (false, eval e X.env) :: starEach es X.env := by rfl) (hpl : (backTo pos (starEach es X.env)).any (·.1) = false := by rfl) : PE X (.Call (.Name x p) (e :: es) [] pos) (tCB r t) := by
  intro pins s σ H Q I h
  refine wpAny_Call_Name_kw (ld_blt I hg hm hv ?_ hn hdb)
  exact PyProof.Rows.callWith_type1 (thn (ha pos pins s σ H _ I h) fun us s1 ⟨vs, H1, I1, r1, q1⟩ => hc pins s1 σ H1 vs us Q I1 r1 q1) he hpl
end
end L2

namespace HT
open PySem PyProof.Rows



section
open PySem.SeqAt
open PySem.AutoSeq1 (wpAny_loadPart')
open PySem.MeetsSeq PySem.MeetsSeq2 PySem.MeetsSeq3

end

section
variable {prog : Program} {w : World} {A : Around} {E : Value → Shared → Prop} {s : Shared}



/-! ### t[a:b], not the whole -/
/-- a slice's bound as a place among n (d where it is left out) -/
def sIx (n d : Nat) : Option Int → Nat
  | none => d
  | some v => if v < 0 then (v + (n : Int)).toNat else min v.toNat n
theorem sIx_none (n d : Nat) : sIx n d none = d := rfl
theorem sIx_nat (n d k : Nat) : sIx n d (some (k : Int)) = min k n := by
  show (if (k : Int) < 0 then ((k : Int) + (n : Int)).toNat else min (k : Int).toNat n) = min k n
  rw [if_neg (by omega), Int.toNat_natCast]

end
end HT

namespace L2
open PySem PySem.Spec PyProof.Rows

/-! ### the parts of a slice -/
abbrev TO := St → Hp → (Option Int → Hp → Prop) → Prop
/-- a slice's part (left out, or an int) -/
def PO (X : Cx) (e : Option Expr) (t : TO) : Prop :=
  ∀ (pins : List (Addr × Obj)) (s : Shared) (σ : St) (H : Hp) (Q : Option Int → Hp → Prop), Inv X pins σ H s → t σ H Q →
    wpAny (model X.prog X.w) X.A (evalPart e X.env) (fun u s' => ∃ o H', Inv X pins σ H' s' ∧ IsPart u o ∧ Q o H') X.xe s
def tNoPart : TO := fun _ H Q => Q none H
def tPart (t : TE) : TO := fun σ H Q => t σ H fun x H1 => ∃ i, x = .int i ∧ Q (some i) H1


section
variable {X : Cx} {e : Expr} {te : TE} {lo hi : Option Expr} {tl th : TO} {pos p2 : Pos}

theorem po_none : PO X none tNoPart := by
  intro pins s σ H Q I h
  rw [evalPart_none]
  exact wpAny_pure ⟨none, H, I, .none, h⟩
theorem po_some (h : PE X e te) : PO X (some e) (tPart te) := by
  intro pins s σ H Q I hw
  rw [evalPart_some]
  refine thn (h pins s σ H _ I hw) fun u s1 ⟨x, H1, I1, r1, q1⟩ => ?_
  obtain ⟨i, rfl, q⟩ := q1
  obtain ⟨t, rfl⟩ := r1
  exact ⟨some i, H1, I1, .int i t, q⟩

/-- what a slice of a value is, by values: the slice object stands at sl -/
def SlR (X : Cx) (r : V → Option Int → Option Int → Hp → VK → Prop) : Prop :=
  ∀ (pins : List (Addr × Obj)) (s : Shared) (σ : St) (H : Hp) (x : V) (v vl vu : Value) (lo hi : Option Int) (sl : Addr) (Q : VK), Inv X pins σ H s → RelV x v → s.heap.IsSliceOf sl vl vu .none → IsPart vl lo → IsPart vu hi → r x lo hi H Q →
    ∃ T id, typeLookup (.type T) "__getitem__" = pure (some (.builtin id)) ∧ s.TypeIs v T ∧ wpAny (model X.prog X.w) X.A (getItem v (.ref sl)) (EP X pins σ Q) X.xe s
def tSl (r : V → Option Int → Option Int → Hp → VK → Prop) (te : TE) (tl th : TO) : TE := fun σ H Q => te σ H fun x H1 => tl σ H1 fun l H2 => th σ H2 fun u H3 => r x l u H3 Q
/-- a[lo:hi], any a -/
theorem pe_slice {r : V → Option Int → Option Int → Hp → VK → Prop} (hr : SlR X r) (he : PE X e te) (hl : PO X lo tl) (hu : PO X hi th) : PE X (.Subscript e (.Slice lo hi none p2) pos) (tSl r te tl th) := by
  intro pins s σ H Q I h
  refine Subscript_ (thn (he pins s σ H _ I h) fun v s1 ⟨x, H1, I1, r1, q1⟩ => ?_)
  refine wpAny_Slice (thn (hl pins s1 σ H1 _ I1 q1) fun vl s2 ⟨l, H2, I2, pl, q2⟩ => thn (hu pins s2 σ H2 _ I2 q2) fun vu s3 ⟨u, H3, I3, pu, q3⟩ => ?_)
  rw [evalPart_none]
  refine wpAny_pure ?_
  have I4 : Inv X pins σ H3 { s3 with heap := s3.heap.push { cls := .type "slice", data := .fields #[vl, vu, .none] } } := I3.kept (t' := s3.toks) fun b ob q => Heap.get?_push_of_some _ q
  obtain ⟨T, id, hT, ht, hg⟩ := hr pins { s3 with heap := s3.heap.push { cls := .type "slice", data := .fields #[vl, vu, .none] } } σ H3 x v vl vu l u s3.heap.objs.size Q I4 r1 (Heap.IsSliceOf.new ..) pl pu q3
  show wpAny (model X.prog X.w) X.A (subscriptTail e (.Slice lo hi none p2) v (.ref s3.heap.objs.size)) (EP X pins σ Q) X.xe { s3 with heap := s3.heap.push { cls := .type "slice", data := .fields #[vl, vu, .none] } }
  exact tail_any (ops := [.ref s3.heap.objs.size, v]) ht hT hg (by with_unfolding_all rfl)

/-- the items of xs[lo:hi] -/
def cutV (xs : List V) (lo hi : Option Int) : List V := (xs.drop (HT.sIx xs.length 0 lo)).take (HT.sIx xs.length xs.length hi - HT.sIx xs.length 0 lo)
theorem cutV_length (xs : List V) (lo hi : Option Int) : (cutV xs lo hi).length ≤ xs.length := by
  unfold cutV
  rw [List.length_take, List.length_drop]
  omega

/-! ### t < u, t + u -/
end
end L2

namespace L2
open PySem PySem.Spec PyProof.Rows

/-! ### places -/
/-- the place that an index of any sign means -/
def ixN (n : Nat) (i : Int) : Option Nat := if 0 ≤ i then (if i < n then some i.toNat else none) else if -(n : Int) ≤ i then some (i + n).toNat else none
def atI {α : Type} (xs : List α) (i : Int) : Option α := (ixN xs.length i).bind fun j => xs[j]?
theorem ixN_seq {n : Nat} {i : Int} {j : Nat} (h : ixN n i = some j) : seqIndex? i n = some j ∧ j < n ∧ -(n : Int) ≤ i ∧ i < n := by
  unfold ixN at h
  by_cases h0 : 0 ≤ i
  · rw [if_pos h0] at h
    by_cases h1 : i < n
    · rw [if_pos h1] at h
      have e : i.toNat = j := Option.some.inj h
      exact ⟨by rw [seqIndex_of h0 h1, e], by omega, by omega, h1⟩
    · rw [if_neg h1] at h; cases h
  · rw [if_neg h0] at h
    by_cases h1 : -(n : Int) ≤ i
    · rw [if_pos h1] at h
      have e : (i + n).toNat = j := Option.some.inj h
      exact ⟨by rw [seqIndex_neg (by omega) h1, e], by omega, h1, by omega⟩
    · rw [if_neg h1] at h; cases h
theorem atI_get {α : Type} {xs : List α} {i : Int} {v : α} (h : atI xs i = some v) : ∃ j, seqIndex? i xs.length = some j ∧ xs[j]? = some v ∧ j < xs.length ∧ -(xs.length : Int) ≤ i ∧ i < xs.length := by
  unfold atI at h
  cases e : ixN xs.length i with
  | none => rw [e] at h; cases h
  | some j =>
    rw [e] at h
    obtain ⟨h1, h2, h3, h4⟩ := ixN_seq e
    exact ⟨j, h1, h, h2, h3, h4⟩
theorem atI_nat {α : Type} {xs : List α} {j : Nat} {v : α} (h : xs[j]? = some v) : atI xs (j : Int) = some v := by
  have hj : j < xs.length := (List.getElem?_eq_some_iff.mp h).1
  have e : ixN xs.length (j : Int) = some j := by
    unfold ixN
    rw [if_pos (by omega), if_pos (by omega)]; simp
  unfold atI; rw [e]; exact h

/-! ### what may be subscripted -/
/-- what stands as an index of a plain subscript -/
def PlainIx (b : Expr) : Prop := ∀ o i, subscripted b false o i = operate [o, i] (getItem o i)
/-- a subscript by values -/
def IxR (X : Cx) (r : R2) : Prop :=
  ∀ (value slice : Expr) (pins : List (Addr × Obj)) (s : Shared) (σ : St) (H : Hp) (x y : V) (v u : Value) (Q : VK), Inv X pins σ H s → RelV x v → RelV y u → r x y H Q →
    subscripted slice false v u = operate [v, u] (getItem v u) → wpAny (model X.prog X.w) X.A (subscriptTail value slice v u) (EP X pins σ Q) X.xe s
/-- a call of a builtin's method by values: the receiver, the arguments -/
def MtR (X : Cx) (id : String) (r : V → List V → Hp → VK → Prop) : Prop :=
  ∀ (pins : List (Addr × Obj)) (s : Shared) (σ : St) (H : Hp) (x : V) (xs : List V) (v : Value) (us : List Value) (Q : VK), Inv X pins σ H s → RelV x v → Vals xs us → r x xs H Q →
    wpAny (model X.prog X.w) X.A (call (.builtin id) (v :: us)) (EP X pins σ Q) X.xe s
section
variable {X : Cx} {a b : Expr} {ta tb : TE} {pos : Pos}
/-- a[b] -/
theorem pe_ix {r : R2} (hr : IxR X r) (ha : PE X a ta) (hb : PE X b tb) (hs : PlainIx b) : PE X (.Subscript a b pos) (tOp r ta tb) := by
  intro pins s σ H Q I h
  exact Subscript_ (binT ha hb I h fun v u s2 x y H2 I2 rx ry q => hr a b pins s2 σ H2 x y v u Q I2 rx ry q (hs _ _))

def rIxL (K : PySem.W.Frag) : R2 := fun x y H Q => ∃ p xs i v, x = .ref p ∧ y = .int i ∧ SqL K H p xs ∧ atI xs i = some v ∧ Q v H
def rIxT (K : PySem.W.Frag) : R2 := fun x y H Q => ∃ p xs i v, x = .ref p ∧ y = .int i ∧ SqT K H p xs ∧ atI xs i = some v ∧ Q v H
theorem ix_list : IxR X (rIxL X.K) := by
  intro value slice pins s σ H x y v u Q I rx ry h hs
  obtain ⟨p, xs, i, z, rfl, rfl, hq, he, q⟩ := h
  cases rx
  obtain ⟨t, rfl⟩ := ry
  obtain ⟨its, r, pl, hz⟩ := I.list hq
  obtain ⟨j, h1, h2, h3, h4, h5⟩ := atI_get he
  obtain ⟨w, ew, rw'⟩ := r.get h2
  have hl := r.length
  have hn := line63
  have fin : EP X pins σ Q w s := ⟨z, H, I, rw', q⟩
  by_cases h0 : 0 ≤ i
  · have hj : i.toNat = j := by
      rw [seqIndex_of h0 h5] at h1
      exact Option.some.inj h1
    exact item_listR pl.isList h0 (by omega) (by rw [hj]; simpa using ew) fin hs
  · have hj : (i + (its.toArray.size : Int)).toNat = j := by
      rw [seqIndex_neg (by omega) h4] at h1
      rw [List.size_toArray, ← hl]
      exact Option.some.inj h1
    exact subscriptTail_builtinR (x := w) pl.isList.typeIs slot_list_getitem.lookup
      (wpAny_getItem_list_neg (Q := fun r s' => r = w ∧ EP X pins σ Q r s') pl.isList (by omega) (by rw [List.size_toArray] <;> omega) (by omega) (by rw [hj]; simpa using ew) ⟨rfl, fin⟩) hs
theorem ix_tup : IxR X (rIxT X.K) := by
  intro value slice pins s σ H x y v u Q I rx ry h hs
  obtain ⟨p, xs, i, z, rfl, rfl, hq, he, q⟩ := h
  cases rx
  obtain ⟨t, rfl⟩ := ry
  obtain ⟨its, r, pl, hz⟩ := I.tuple hq
  obtain ⟨j, h1, h2, h3, h4, h5⟩ := atI_get he
  obtain ⟨w, ew, rw'⟩ := r.get h2
  have hl := r.length
  have hn := line63
  have fin : EP X pins σ Q w s := ⟨z, H, I, rw', q⟩
  exact subscriptTail_builtinR (x := w) pl.typeIs slot_tuple_getitem.lookup
    (getItem_tuple (j := j) (Q := fun r s' => r = w ∧ EP X pins σ Q r s') pl (by omega) (by omega) (by rw [List.size_toArray, ← hl]; exact h1) (by simpa using ew) ⟨rfl, fin⟩) hs

/-! ### xs[i] = v, any sign -/

/-! ### slices -/
theorem slice_bounds (lo hi : Option Int) (n : Nat) : (sliceBounds lo hi none n).1 = ((HT.sIx n 0 lo : Nat) : Int) ∧ (sliceBounds lo hi none n).2.1 = ((HT.sIx n n hi : Nat) : Int) ∧ (sliceBounds lo hi none n).2.2 = 1 := by
  refine ⟨?_, ?_, rfl⟩
  · cases lo with
    | none => simp [sliceBounds, HT.sIx]
    | some i =>
      simp only [sliceBounds, HT.sIx, Option.getD_none, show (1 : Int) > 0 by decide, if_true]
      by_cases h : i < 0
      · simp only [h, if_true] <;> omega
      · simp only [h, if_false] <;> omega
  · cases hi with
    | none => simp [sliceBounds, HT.sIx]
    | some i =>
      simp only [sliceBounds, HT.sIx, Option.getD_none, show (1 : Int) > 0 by decide, if_true]
      by_cases h : i < 0
      · simp only [h, if_true] <;> omega
      · simp only [h, if_false] <;> omega
theorem slicePick_cut (its : List Value) (lo hi : Option Int) : slicePick its.toArray lo hi none = ((its.drop (HT.sIx its.length 0 lo)).take (HT.sIx its.length its.length hi - HT.sIx its.length 0 lo)).toArray := by
  obtain ⟨h1, h2, h3⟩ := slice_bounds lo hi its.toArray.size
  unfold slicePick
  rw [h1, h2, h3]
  simp only [sliceRange_one, pick_run, List.size_toArray] <;> rfl
/-- xs[lo:hi] of a list: a new list -/
def rSlL (K : PySem.W.Frag) : V → Option Int → Option Int → Hp → VK → Prop := fun x lo hi H Q => ∃ a xs, x = .ref a ∧ SqL K H a xs ∧ ∀ p, H p = none → Q (.ref p) (upd H p (.lst (cutV xs lo hi)))
theorem sl_list : SlR X (rSlL X.K) := by
  intro pins s σ H x v vl vu lo hi sl Q I rx hs pl pu h
  obtain ⟨a, xs, rfl, hx, q⟩ := h
  cases rx
  obtain ⟨its, r, ht, hz⟩ := I.list hx
  have hlen := r.length
  refine ⟨"list", _, slot_list_getitem.lookup, ht.isList.typeIs, ?_⟩
  refine wpAny_getItem_list_slice ht.isList hs pl pu .none (by simp) ?_ (by rw [List.size_toArray] <;> omega)
  rw [slicePick_cut, ← hlen]
  refine ⟨.ref s.heap.objs.size, _, I.laid (t' := s.toks) (o := .lst (cutV xs lo hi)) (fun b ob q => Heap.get?_push_of_some _ q) (Nat.le_refl _) ?_, rfl, q _ (I.hok.fresh (Nat.le_refl _))⟩
  exact ⟨Nat.le_trans (cutV_length xs lo hi) hz, _, 0, (r.drop (HT.sIx xs.length 0 lo)).take (HT.sIx xs.length xs.length hi - HT.sIx xs.length 0 lo), Heap.get?_push_size _ rfl⟩

/-! ### in, not in: flat items -/
def flatV : V → Bool
  | .non => true
  | .bl _ => true
  | .int _ => true
  | .str _ => true
  | _ => false
/-- == of flat values -/
def eqV : V → V → Bool
  | .non, .non => true
  | .bl a, .bl b => a == b
  | .bl a, .int b => (if a then 1 else 0) == b
  | .int a, .bl b => a == (if b then 1 else 0)
  | .int a, .int b => a == b
  | .str a, .str b => a == b
  | _, _ => false
theorem eqAt_V {A : Around} {s : Shared} {y x : V} {u v : Value} (ry : RelV y u) (rx : RelV x v) (fy : flatV y = true) (fx : flatV x = true) : SeqAt.EqAt A s u v (eqV y x) := by
  cases y with
  | non =>
    cases ry
    cases x with
    | non => cases rx; exact SeqAt.EqAt.same _
    | bl b => cases rx; exact SeqAt.EqAt.none_bool b
    | int b => obtain ⟨t, rfl⟩ := rx; exact SeqAt.EqAt.none_int b t
    | str b => obtain ⟨t, rfl⟩ := rx; exact SeqAt.EqAt.none_str b t
    | _ => exact absurd (show false = true from fx) Bool.false_ne_true
  | bl a =>
    cases ry
    cases x with
    | non => cases rx; exact SeqAt.EqAt.bool_none a
    | bl b => cases rx; exact SeqAt.EqAt.bool_bool a b
    | int b => obtain ⟨t, rfl⟩ := rx; exact SeqAt.EqAt.bool_int a b t
    | str b => obtain ⟨t, rfl⟩ := rx; exact SeqAt.EqAt.bool_str a b t
    | _ => exact absurd (show false = true from fx) Bool.false_ne_true
  | int a =>
    obtain ⟨t', rfl⟩ := ry
    cases x with
    | non => cases rx; exact SeqAt.EqAt.int_none a t'
    | bl b => cases rx; exact SeqAt.EqAt.int_bool a t' b
    | int b => obtain ⟨t, rfl⟩ := rx; exact SeqAt.EqAt.int_int a t' b t
    | str b => obtain ⟨t, rfl⟩ := rx; exact SeqAt.EqAt.int_str a t' b t
    | _ => exact absurd (show false = true from fx) Bool.false_ne_true
  | str a =>
    obtain ⟨t', rfl⟩ := ry
    cases x with
    | non => cases rx; exact SeqAt.EqAt.str_none a t'
    | bl b => cases rx; exact SeqAt.EqAt.str_bool a t' b
    | int b => obtain ⟨t, rfl⟩ := rx; exact SeqAt.EqAt.str_int a t' b t
    | str b => obtain ⟨t, rfl⟩ := rx; exact SeqAt.EqAt.str_str a t' b t
    | _ => exact absurd (show false = true from fx) Bool.false_ne_true
  | _ => exact absurd (show false = true from fy) Bool.false_ne_true
/-- the items' answers, read off the values (a value's own answer does not lean on its token) -/
def eqU (x : V) (u : Value) : Bool := match u with
  | .none => eqV .non x
  | .bool b => eqV (.bl b) x
  | .int i _ => eqV (.int i) x
  | .str z _ => eqV (.str z) x
  | _ => false
theorem eqU_of {x y : V} {u : Value} (r : RelV y u) (f : flatV y = true) : eqU x u = eqV y x := by
  cases y with
  | non => cases r; rfl
  | bl b => cases r; rfl
  | int i => obtain ⟨t, rfl⟩ := r; rfl
  | str z => obtain ⟨t, rfl⟩ := r; rfl
  | _ => exact absurd (show false = true from f) Bool.false_ne_true
theorem any_eqU {x : V} : ∀ {xs : List V} {us : List Value}, Vals xs us → xs.all flatV = true → us.any (eqU x) = xs.any fun y => eqV y x
  | _, _, .nil, _ => rfl
  | y :: xs, u :: us, .cons r t, f => by
    rw [List.all_cons, Bool.and_eq_true] at f
    rw [List.any_cons, List.any_cons, eqU_of r f.1, any_eqU t f.2]
theorem mem_eqAt {A : Around} {s : Shared} {x : V} {v : Value} (rx : RelV x v) (fx : flatV x = true) : ∀ {xs : List V} {us : List Value}, Vals xs us → xs.all flatV = true → ∀ u ∈ us, SeqAt.EqAt A s u v (eqU x u)
  | _, _, .nil, _ => fun u hu => by cases hu
  | y :: xs, u :: us, .cons r t, f => fun u' hu => by
    rw [List.all_cons, Bool.and_eq_true] at f
    rcases List.mem_cons.mp hu with rfl | hu
    · rw [eqU_of r f.1]; exact eqAt_V r rx f.1 fx
    · exact mem_eqAt rx fx t f.2 u' hu
def inV (x : V) (xs : List V) : Bool := xs.any fun y => eqV y x
/-- x in a list or tuple of flat items -/
def rIn (K : PySem.W.Frag) (neg : Bool) : R2 := fun x y H Q => ∃ p xs, y = .ref p ∧ (SqL K H p xs ∨ SqT K H p xs) ∧ flatV x = true ∧ xs.all flatV = true ∧ Q (.bl (if neg then !inV x xs else inV x xs)) H
theorem op_in_seq : OpR X (compareOp .In) (rIn X.K false) := by
  intro pins s σ H x y v u Q I rx ry h
  obtain ⟨p, xs, rfl, hq, fx, fs, q⟩ := h
  cases ry
  rcases hq with hq | hq
  · obtain ⟨its, r, pl, hz⟩ := I.list hq
    refine SeqAt.in_listAt (eqU x) pl.isList (fun w hw => mem_eqAt rx fx r fs w (by simpa using hw)) ⟨.bl _, H, I, rfl, ?_⟩
    rw [show its.toArray.any (eqU x) = its.any (eqU x) by simp, any_eqU r fs]
    exact q
  · obtain ⟨its, r, pl, hz⟩ := I.tuple hq
    refine SeqAt.in_tupleAt (eqU x) pl (fun w hw => mem_eqAt rx fx r fs w (by simpa using hw)) ⟨.bl _, H, I, rfl, ?_⟩
    rw [show its.toArray.any (eqU x) = its.any (eqU x) by simp, any_eqU r fs]
    exact q

/-! ### len, list(x), tuple(x) of any list or tuple that is read -/
theorem call_len_seq : CallR X (.builtin "len") (fun xs H Q => ∃ p ys, xs = [.ref p] ∧ (SqL X.K H p ys ∨ SqT X.K H p ys) ∧ Q (.int ys.length) H) := by
  intro pins s σ H xs us Q I r h
  obtain ⟨p, ys, rfl, hq, q⟩ := h
  obtain ⟨u, rfl, rx⟩ := vals1 r
  cases rx
  have hn := line63
  rcases hq with hq | hq
  · obtain ⟨its, r', pl, hz⟩ := I.list hq
    have hlen := r'.length
    exact Calls.call_len_list pl.isList (by simp only [List.size_toArray] <;> omega) ⟨.int ys.length, H, I.tok _, ⟨s.toks + 1, by rw [List.size_toArray, hlen]⟩, q⟩
  · obtain ⟨its, r', pl, hz⟩ := I.tuple hq
    have hlen := r'.length
    exact len_tuple pl (by simp only [List.size_toArray] <;> omega) ⟨.int ys.length, H, I.tok _, ⟨s.toks + 1, by rw [List.size_toArray, hlen]⟩, q⟩
theorem call_list_of : CallR X (.type "list") (fun xs H Q => ∃ p ys, xs = [.ref p] ∧ (SqL X.K H p ys ∨ SqT X.K H p ys) ∧ ∀ l, H l = none → Q (.ref l) (upd H l (.lst ys))) := by
  intro pins s σ H xs us Q I r h
  obtain ⟨p, ys, rfl, hq, q⟩ := h
  obtain ⟨u, rfl, rx⟩ := vals1 r
  cases rx
  have fin : ∀ (its : List Value), Vals ys its → ys.length ≤ sizeLine → ∀ (h' : Heap) (c' : Nat), (∀ b o', s.heap.get? b = some o' → h'.get? b = some o') →
      h'.get? s.heap.objs.size = some { cls := .type "list", dict := none, data := .seq its.toArray c', slots := #[] } → EP X pins σ Q (.ref s.heap.objs.size) { s with heap := h' } := fun its r' hz h' c' kp e =>
    ⟨.ref s.heap.objs.size, _, I.laid (t' := s.toks) kp (Nat.le_refl _) (show ObjOk X.prog X.w _ h' _ (.lst ys) from ⟨hz, its, c', r', e⟩), rfl, q _ (I.hok.fresh (Nat.le_refl _))⟩
  rcases hq with hq | hq
  · obtain ⟨its, r', pl, hz⟩ := I.list hq
    have hlen := r'.length
    obtain ⟨o, ho, hc, n, hd⟩ := pl.isList
    exact call_list_seq p (.inl rfl) ho hc hd (fun h' c' kp e => fin its r' hz h' c' kp e) (by simp only [List.size_toArray] <;> omega)
  · obtain ⟨its, r', pl, hz⟩ := I.tuple hq
    have hlen := r'.length
    obtain ⟨o, ho, hc, n, hd⟩ := pl
    exact call_list_seq p (.inr rfl) ho hc hd (fun h' c' kp e => fin its r' hz h' c' kp e) (by simp only [List.size_toArray] <;> omega)

/-! ### the call of a builtin's method: o.m(..) -/
/-- the value is of that builtin type -/
def tyV (K : PySem.W.Frag) (T : String) (x : V) (H : Hp) : Prop := match x with
  | .str _ => T = "str"
  | .int _ => T = "int"
  | .ref p => (T = "list" ∧ ∃ xs, SqL K H p xs) ∨ (T = "tuple" ∧ ∃ o, K.lookup p = some o ∧ o.cls = .type "tuple" ∧ o.dict = none) ∨
      (T = "dict" ∧ ((∃ kvs, H p = some (.dK kvs)) ∨ ∃ kvs, H p = some (.dT kvs))) ∨ (T = "set" ∧ ∃ S n, H p = some (.set S n))
  | _ => False
theorem tyV_is {pins : List (Addr × Obj)} {σ : St} {H : Hp} {s : Shared} {T : String} {x : V} {v : Value} (I : Inv X pins σ H s) (r : RelV x v) (ty : tyV X.K T x H) :
    s.TypeIs v T ∧ ∀ a, v = .ref a → ∃ ob, s.heap.get? a = some ob ∧ ob.dict = none := by
  cases x with
  | str z =>
    obtain ⟨t, rfl⟩ := r
    cases (show T = "str" from ty)
    exact ⟨typeIs_str s z t, fun _ e => nomatch e⟩
  | int i =>
    obtain ⟨t, rfl⟩ := r
    cases (show T = "int" from ty)
    exact ⟨typeIs_int s i t, fun _ e => nomatch e⟩
  | ref p =>
    cases r
    rcases ty with ⟨rfl, xs, hq⟩ | ⟨rfl, o, hk, hc, hd⟩ | ⟨rfl, hk⟩ | ⟨rfl, S, n, hk⟩
    · obtain ⟨its, _, pl, _⟩ := I.list hq
      refine ⟨pl.isList.typeIs, fun a e => ?_⟩
      cases e
      obtain ⟨o, n, e, c, hd, _⟩ := pl
      exact ⟨o, e, hd⟩
    · refine ⟨⟨o, I.kIn p o hk, hc⟩, fun a e => ?_⟩
      cases e
      exact ⟨o, I.kIn _ o hk, hd⟩
    · have z : ∃ o, s.heap.get? p = some o ∧ o.ExactDict := by
        rcases hk with ⟨kvs, hk⟩ | ⟨kvs, hk⟩
        · obtain ⟨_, _, _, _, o, _, _, e, ex, _⟩ := I.hok p _ hk
          exact ⟨o, e, ex⟩
        · obtain ⟨_, _, _, _, o, _, _, e, ex, _⟩ := I.hok p _ hk
          exact ⟨o, e, ex⟩
      obtain ⟨o, e, ex⟩ := z
      refine ⟨⟨o, e, ex.1⟩, fun a e2 => ?_⟩
      cases e2
      exact ⟨o, e, ex.2.1⟩
    · obtain ⟨o, _, _, _, e, ex, _⟩ := I.hok p _ hk
      refine ⟨⟨o, e, ex.1⟩, fun a e2 => ?_⟩
      cases e2
      exact ⟨o, e, ex.2.1⟩
  | _ => exact False.elim ty
def tBM (K : PySem.W.Frag) (T : String) (r : V → List V → Hp → VK → Prop) (to : TE) (t : TA) : TE := fun σ H Q => to σ H fun x H1 => tyV K T x H1 ∧ t σ H1 fun xs H2 => r x xs H2 Q
variable {o e : Expr} {es : List Expr} {to : TE} {t : TA} {name : Str} {apos cpos : Pos} {T id : String} {r : V → List V → Hp → VK → Prop}
theorem pe_bm (pa : PlainAttrs T) (slot : Slot T name id) (hty : typeOf (.builtin id) = pure (.type "method_descriptor")) (hm : MtR X id r) (ho : PE X o to) (ha : PA X (e :: es) t)
    (hbase : attributeBase o name X.env (eval o X.env) = eval o X.env := by rfl)
    (hfew : ((backTo cpos (starEach (e :: es) X.env)).all (fun x => !x.1) && (backToKw cpos (keywordEach [] X.env)).all (fun x => x.1.isSome)
      && decide ((e :: es).length + ([] : List Keyword).length + (if ([] : List Keyword).isEmpty then 0 else 1) < 30)) = true := by rfl)
    (hline : (apos.endLine == cpos.line) = true := by rfl) (hs : starEach (e :: es) X.env = (false, eval e X.env) :: starEach es X.env := by rfl) (hplain : (backTo cpos (starEach es X.env)).any (·.1) = false := by rfl) :
    PE X (.Call (.Attribute o name apos) (e :: es) [] cpos) (tBM X.K T r to t) := by
  intro pins s σ H Q I h
  refine wpAny_Call_method_late hbase hfew hline rfl (thn (ho pins s σ H _ I h) fun v s1 ⟨x, H1, I1, r1, ty, q1⟩ => ?_)
  obtain ⟨h1, h2⟩ := tyV_is I1 r1 ty
  refine ⟨T, id, pa, slot, hty, h1, h2, ?_⟩
  have hA := ha cpos pins s1 σ H1 _ I1 q1
  rw [hs] at hA ⊢
  refine Calls.callWith_builtin (by show (false || (backTo cpos (starEach es X.env)).any (·.1)) = false; rw [hplain] <;> rfl) (Calls.evalArgs_plain ?_)
  exact thn hA fun us s2 ⟨vs, H2, I2, r2, q2⟩ => hm pins s2 σ H2 x vs v us Q I2 r1 r2 q2
/- xs.append(e), list.index on a module's tuple .. are MtR facts of 06m -/
end
end L2

namespace L2
open PySem PySem.Spec PyProof.Rows

def MtM (X : Cx) (id : String) (r : V → List V → Hp → VK → Prop) : Prop :=
  ∀ (pins : List (Addr × Obj)) (s : Shared) (σ : St) (H : Hp) (x : V) (xs : List V) (v : Value) (us : List Value) (Q : VK), Inv X pins σ H s → RelV x v → Vals xs us → r x xs H Q →
    wpAny (model X.prog X.w) X.A (call (.builtin id) (v :: us)) (EP X pins σ Q) X.xe s

/-! ### lists of values -/
theorem Vals.one : ∀ {x : V} {us : List Value}, Vals [x] us → ∃ u, us = [u] ∧ RelV x u
  | _, _, .cons r .nil => ⟨_, rfl, r⟩
theorem len_erase {α : Type} : ∀ (l : List α) (i : Nat), (l.eraseIdx i).length ≤ l.length
  | [], _ => Nat.le_refl _
  | _ :: _, 0 => Nat.le_succ _
  | _ :: r, i + 1 => Nat.succ_le_succ (len_erase r i)

section
variable {X : Cx} {pins : List (Addr × Obj)} {σ : St} {H : Hp} {s : Shared} {l b : Addr} {xs ys zs : List V}

/-! ### the two steps: a tracked list is rewritten, a new list is laid -/
theorem Inv.lset {its its' : List Value} {n : Nat} {f : Array Value → Array Value} {t' : Nat} (I : Inv X pins σ H s) (hH : H l = some (.lst xs))
    (e : s.heap.get? l = some { cls := .type "list", data := .seq its.toArray n }) (hf : f its.toArray = its'.toArray) (hv : Vals ys its') (hz : ys.length ≤ sizeLine) :
    Inv X pins σ (upd H l (.lst ys)) { s with heap := s.heap.update l (Obj.mapSeq f), toks := t' } := by
  have q := PySem.IsL.update e f
  rw [hf] at q
  refine I.write (x := l) (e := l) (by rw [hH]; exact trivial) (.inl rfl) (fun b' u hb hu => (Heap.get?_update_other s.heap (Obj.mapSeq f) (Ne.symm hb)).trans hu) ⟨_, q⟩ ?_
  exact ⟨hz, its', _, hv, q⟩
theorem Inv.lnew {its : List Value} {t' : Nat} (I : Inv X pins σ H s) (hv : Vals ys its) (hz : ys.length ≤ sizeLine) :
    Inv X pins σ (upd H s.heap.objs.size (.lst ys)) { s with heap := s.heap.push { cls := .type "list", data := .seq its.toArray }, toks := t' } :=
  I.laid (fun _ _ q => Heap.get?_push_of_some _ q) (Nat.le_refl _) ⟨hz, its, 0, hv, Heap.get?_push_size _ rfl⟩
theorem Inv.fresh (I : Inv X pins σ H s) : H s.heap.objs.size = none := I.hok.fresh (Nat.le_refl _)
theorem Inv.lstM (I : Inv X pins σ H s) (hH : H l = some (.lst xs)) : xs.length ≤ sizeLine ∧ ∃ (its : List Value) (n : Nat), Vals xs its ∧ xs.length = its.length ∧ s.heap.get? l = some { cls := .type "list", data := .seq its.toArray n } := by
  obtain ⟨z, its, n, r, e⟩ := I.hok l _ hH
  exact ⟨z, its, n, r, r.length, e⟩

theorem notLongL {n : Nat} (h : n ≤ sizeLine) : Builtin.List.listTooLong n = false := by
  unfold Builtin.List.listTooLong
  exact decide_eq_false (by omega)
end

section
variable {X : Cx}

/-! ### methods -/
def rAppend : V → List V → Hp → VK → Prop := fun x vs H Q => ∃ l xs y, x = .ref l ∧ vs = [y] ∧ H l = some (.lst xs) ∧ xs.length < sizeLine ∧ Q .non (upd H l (.lst (xs ++ [y])))
theorem mt_append : MtM X "list.append" rAppend := by
  intro pins s σ H x vs v us Q I rx rv h
  obtain ⟨l, xs, y, rfl, rfl, hH, hz, q⟩ := h
  cases rx
  obtain ⟨u, rfl, ru⟩ := rv.one
  obtain ⟨z, its, n, r, hl, e⟩ := I.lstM hH
  refine call_meets F.slot_list_append ⟨_, e, rfl⟩ F.entry_list_append (F.args_list_append_2 _ _) (PySem.list_append l its.toArray n u (by rw [List.size_toArray]; omega)) ⟨e, ?_⟩
  refine ⟨.non, _, I.lset (its' := its ++ [u]) hH e (by simp) (r.append (.cons ru .nil)) ?_, rfl, q⟩
  rw [List.length_append, List.length_singleton]
  omega

def rExtend : V → List V → Hp → VK → Prop := fun x vs H Q => ∃ l b xs zs, x = .ref l ∧ vs = [.ref b] ∧ H l = some (.lst xs) ∧ H b = some (.lst zs) ∧ xs.length + zs.length ≤ sizeLine ∧ Q .non (upd H l (.lst (xs ++ zs)))
theorem mt_extend : MtM X "list.extend" rExtend := by
  intro pins s σ H x vs v us Q I rx rv h
  obtain ⟨l, b, xs, zs, rfl, rfl, hH, hB, hz, q⟩ := h
  cases rx
  obtain ⟨u, rfl, ru⟩ := rv.one
  cases ru
  obtain ⟨z, its, n, r, hl, e⟩ := I.lstM hH
  obtain ⟨z2, its2, n2, r2, hl2, e2⟩ := I.lstM hB
  have hsz : its.toArray.size + its2.toArray.size ≤ sizeLine := by rw [List.size_toArray, List.size_toArray]; omega
  have hlong : ¬ (!its.toArray.isEmpty && Builtin.List.listTooLong (its.toArray.size + its2.toArray.size)) = true := by
    rw [notLongL hsz, Bool.and_false]
    exact Bool.false_ne_true
  refine call_meets F.slot_list_extend ⟨_, e, rfl⟩ F.entry_list_extend (F.args_list_extend_2 _ _)
    (AutoSeq1.list_extend_list_list_0 l its.toArray n b its2.toArray n2 hlong (by rw [List.size_toArray]; omega) (by omega)) ⟨e, e2, ?_⟩
  refine ⟨.non, _, I.lset (its' := its ++ its2) hH e (by simp) (r.append r2) ?_, rfl, q⟩
  rw [List.length_append]
  omega





/-! ### list + list, list += list, list * int -/
def rCat : R2 := fun x y H Q => ∃ l b xs zs, x = .ref l ∧ y = .ref b ∧ H l = some (.lst xs) ∧ H b = some (.lst zs) ∧ xs.length + zs.length ≤ sizeLine ∧ ∀ p, H p = none → Q (.ref p) (upd H p (.lst (xs ++ zs)))
theorem op_cat : OpR X (binaryOp .Add) rCat := by
  intro pins s σ H x y v u Q I rx ry h
  obtain ⟨l, b, xs, zs, rfl, rfl, hH, hB, hz, q⟩ := h
  cases rx
  cases ry
  obtain ⟨z, its, n, r, hl, e⟩ := I.lstM hH
  obtain ⟨z2, its2, n2, r2, hl2, e2⟩ := I.lstM hB
  refine PySem.P.add_list e e2 ?_ (by rw [List.size_toArray, List.size_toArray]; omega)
  have ea : its.toArray ++ its2.toArray = (its ++ its2).toArray := by simp
  rw [ea]
  exact ⟨.ref _, _, I.lnew (t' := s.toks) (r.append r2) (by rw [List.length_append]; omega), rfl, q _ I.fresh⟩

/-! ### del xs[i] -/
end

/-! ### xs[a:b] = ys -/
section
variable {prog : Program} {w : World} {A : Around} {E : Value → Shared → Prop} {s : Shared}
end

section
variable {X : Cx}
end
end L2

namespace L2
open PySem PySem.Spec PyProof.Rows

theorem Vals.ints : ∀ {ns : List Int} {us : List Value}, Vals (ns.map V.int) us → IntsAre us ns
  | [], us, h => by
    rw [List.map_nil] at h
    cases h
    exact IntsAre.nil
  | n :: ns, us, h => by
    rw [List.map_cons] at h
    cases h with
    | cons r t =>
      obtain ⟨k, rfl⟩ := r
      exact IntsAre.cons n k (Vals.ints t)
theorem vals_of_ints : ∀ {us : List Value} {ns : List Int}, IntsAre us ns → Vals (ns.map V.int) us
  | _, _, .nil => by rw [List.map_nil]; exact Paired.nil
  | _, _, .cons n t h => by rw [List.map_cons]; exact Paired.cons (show RelV (V.int n) (Value.int n t) from ⟨t, rfl⟩) (vals_of_ints h)
theorem Vals.bls : ∀ {bs : List Bool} {us : List Value}, Vals (bs.map V.bl) us → us = bs.map Value.bool
  | [], us, h => by
    rw [List.map_nil] at h
    cases h
    rfl
  | b :: bs, us, h => by
    rw [List.map_cons] at h
    cases h with
    | cons r t =>
      cases r
      rw [Vals.bls t, List.map_cons]
theorem Vals.ref1 {a : Addr} {us : List Value} (r : Vals [V.ref a] us) : us = [Value.ref a] := by
  cases r with
  | cons r t =>
    cases t
    cases r
    rfl

/-! ### the library's walks over a list of ints, kept objects alone -/
section
variable {prog : Program} {w : World} {A : Around} {E : Value → Shared → Prop} {s : Shared} {l : Addr} {its : List Value} {ns : List Int} {Q : Value → Shared → Prop}
theorem max_raw (hh : A.handled = none) (hl : s.heap.IsList l its.toArray) (hi : IntsAre its ns) (hne : 0 < ns.length)
    (h : ∀ h' tk M t', (∀ b o, s.heap.get? b = some o → h'.get? b = some o) → M ∈ ns → (∀ a, a ∈ ns → a ≤ M) → Q (.int M t') { s with heap := h', toks := tk }) : wpAny (model prog w) A (call (.builtin "max") [.ref l]) Q E s := by
  obtain ⟨xs, e⟩ := hi.allInts.items
  have hn : numsOf (intItems xs).toList = ns := by rw [← e]; exact hi.numsOf
  rw [nums_intItems] at hn
  subst hn
  rw [e] at hl
  have hsz : 0 < xs.size := by simpa using hne
  refine PySem.max_intList hh hl hsz fun v h' tk hv hk => ?_
  obtain ⟨t, rfl⟩ := intItems_at hv
  obtain ⟨h1, h2⟩ := argBest_gt (numAt xs) (xs.size - 1)
  refine h h' tk _ t hk ?_ fun a ha => ?_
  · rw [numAt_eq]; exact PySem.getD_mem (by rw [List.length_map, Array.length_toList]; omega)
  · obtain ⟨j, hj, rfl⟩ := mem_getD ha
    rw [List.length_map, Array.length_toList] at hj
    rw [← numAt_eq]; exact h2 j (by omega)
end

/-! ### the calls, by values (CallR of 03t; MtR of 06l) -/
section
variable {X : Cx}
/-- max(xs), min(xs) of a list of ints -/
def rMax (K : PySem.W.Frag) : List V → Hp → VK → Prop := fun vs H Q => ∃ (a : Addr) (ns : List Int), vs = [V.ref a] ∧ SqL K H a (ns.map V.int) ∧ 0 < ns.length ∧ ∀ m, m ∈ ns → (∀ y, y ∈ ns → y ≤ m) → Q (.int m) H
theorem cr_max (hc : X.calm = true) : CallR X (.builtin "max") (rMax X.K) := by
  intro pins s σ H vs us Q I r h
  obtain ⟨a, ns, rfl, hs, hne, q⟩ := h
  obtain ⟨its, rv, hl, _⟩ := I.list hs
  rw [Vals.ref1 r]
  exact max_raw (I.ok.hd hc) hl.isList rv.ints hne fun h' tk m t' hk h1 h2 => ⟨.int _, H, I.kept hk, ⟨_, rfl⟩, q m h1 h2⟩

/-! sorted, sort (fewer than 64 items: the library's own bound) -/
end

/-! ### list.index, flat items -/
section
variable {X : Cx}
end

/-! ### type(x) of an own instance; is, is not of a module's class -/
section
variable {X : Cx}
end

/-! ### any(xs), all(xs) of a list of bools -/
theorem iter_any {prog : Program} {w : World} {A : Around} {E : Value → Shared → Prop} {s : Shared} {l : Addr} {items : Array Value} {Q : Value → Shared → Prop} (hl : s.heap.IsList l items)
    (h : ∀ s₂ : Shared, s₂ = { s with heap := s.heap.push { cls := .type "list_iterator", data := .fields #[.ref l, .int 0 0] } } →
      (s₂.heap.IsListIter s.heap.objs.size l 0 ∧ s₂.heap.IsList l items) → l ≠ s.heap.objs.size → Q (.ref s.heap.objs.size) s₂) : wpAny (model prog w) A (pyIter (.ref l)) Q E s := by
  have hlt : l < s.heap.objs.size := by obtain ⟨_, e, _⟩ := hl; exact Heap.lt_size e
  exact wpAny_pyIter_list hl (h _ rfl ⟨⟨_, Heap.get?_push_size _ rfl, rfl, rfl⟩, hl.push _⟩ (Nat.ne_of_lt hlt))
theorem truth_bools {prog : Program} {w : World} {A : Around} {bs : List Bool} {its : List Value} (e : its = bs.map Value.bool) :
    TruthOf prog w A (fun i v => its.toArray[i]? = some v) (fun i => bs.getD i false) := fun i v s Q E hv hq => by
  have hv' : its[i]? = some v := by simpa using hv
  rw [e, List.getElem?_map] at hv'
  obtain ⟨b, hb, rfl⟩ := Option.map_eq_some_iff.mp hv'
  have hg : bs.getD i false = b := by rw [List.getD_eq_getElem?_getD, hb] <;> rfl
  have hq' : Q (bs.getD i false) s := hq
  rw [hg] at hq'
  exact wpAny_truthy_bool hq'
theorem any_range : ∀ bs : List Bool, (List.range bs.length).any (fun i => bs.getD i false) = bs.any id
  | [] => rfl
  | b :: bs => by
    rw [List.length_cons, List.range_succ_eq_map, List.any_cons, List.any_map, List.any_cons, ← any_range bs]
    all_goals rfl
theorem all_range : ∀ bs : List Bool, (List.range bs.length).all (fun i => bs.getD i false) = bs.all id
  | [] => rfl
  | b :: bs => by
    rw [List.length_cons, List.range_succ_eq_map, List.all_cons, List.all_map, List.all_cons, ← all_range bs]
    all_goals rfl
section
variable {X : Cx}
def rAny (K : PySem.W.Frag) : List V → Hp → VK → Prop := fun vs H Q => ∃ (a : Addr) (bs : List Bool), vs = [V.ref a] ∧ SqL K H a (bs.map V.bl) ∧ Q (.bl (bs.any id)) H
def rAll (K : PySem.W.Frag) : List V → Hp → VK → Prop := fun vs H Q => ∃ (a : Addr) (bs : List Bool), vs = [V.ref a] ∧ SqL K H a (bs.map V.bl) ∧ Q (.bl (bs.all id)) H
theorem cr_any (hc : X.calm = true) : CallR X (.builtin "any") (rAny X.K) := by
  intro pins s σ H vs us Q I r h
  obtain ⟨a, bs, rfl, hs, q⟩ := h
  obtain ⟨its, rv, hl, _⟩ := I.list hs
  rw [Vals.ref1 r]
  have hb := rv.bls
  refine call_any_walk (iter_any hl.isList fun s₂ e2 st hne => ?_)
  subst e2
  refine ⟨_, _, _, _, _, _, _, rfl, Walks.list (A := X.A.in1) (I.ok.hd hc) _ a hne its.toArray, st, truth_bools hb, fun h' tk hk => ?_⟩
  refine ⟨.bl _, H, I.kept fun b o eo => hk b o (fun hmem => ?_) (Heap.get?_push_of_some _ eo), ?_, q⟩
  · rcases List.mem_cons.mp hmem with e1 | hmem
    · exact absurd (e1 ▸ Heap.lt_size eo) (Nat.lt_irrefl _)
    · cases hmem
  · show Value.bool _ = Value.bool _
    rw [← any_range, hb, List.size_toArray, List.length_map]
theorem cr_all (hc : X.calm = true) : CallR X (.builtin "all") (rAll X.K) := by
  intro pins s σ H vs us Q I r h
  obtain ⟨a, bs, rfl, hs, q⟩ := h
  obtain ⟨its, rv, hl, _⟩ := I.list hs
  rw [Vals.ref1 r]
  have hb := rv.bls
  refine call_all_walk (iter_any hl.isList fun s₂ e2 st hne => ?_)
  subst e2
  refine ⟨_, _, _, _, _, _, _, rfl, Walks.list (A := X.A.in1) (I.ok.hd hc) _ a hne its.toArray, st, truth_bools hb, fun h' tk hk => ?_⟩
  refine ⟨.bl _, H, I.kept fun b o eo => hk b o (fun hmem => ?_) (Heap.get?_push_of_some _ eo), ?_, q⟩
  · rcases List.mem_cons.mp hmem with e1 | hmem
    · exact absurd (e1 ▸ Heap.lt_size eo) (Nat.lt_irrefl _)
    · cases hmem
  · show Value.bool _ = Value.bool _
    rw [← all_range, hb, List.size_toArray, List.length_map]
end

/-! ### == and != of data at any depth: none, bools, ints, texts, lists, tuples -/
section
variable {X : Cx} {pins : List (Addr × Obj)} {σ : St} {H : Hp} {s : Shared}
end
section
variable {X : Cx}
end
end L2

namespace L2
open PySem PySem.Spec PyProof.Rows
abbrev CellAt (h : Heap) (c : Addr) (v : Option Value) : Prop := h.IsCell c v
def relS (scope sc : Scope) : Scope :=
  { scope with names := scope.names.map fun (n, k) => if (k == .free && sc.kind == .function && sc.names.lookup n == some .cell) then (n, .cell) else (n, k) }

def cloFrom (cells : List (Str × Addr)) : List (Str × NameKind) → List (Str × Addr) → List (Str × Addr)
  | [], acc => acc
  | (n, k) :: r, acc => if k == .free then cloFrom cells r ((n, (cells.lookup n).getD 0) :: acc) else cloFrom cells r acc

theorem closure_loop (env : Env) (f : Str × NameKind → List (Str × Addr) → Sem (ForInStep (List (Str × Addr))))
    (hf : ∀ n k c, f (n, k) c = if k == .free then (do let a ← cellOf env n; pure (.yield ((n, a) :: c))) else pure (.yield c)) :
    ∀ (names : List (Str × NameKind)) (acc : List (Str × Addr)), (∀ y ∈ names, y.2 = .free → ∃ c, env.cells.lookup y.1 = some c) → forIn names acc f = pure (cloFrom env.cells names acc)
  | [], acc, _ => by rw [List.forIn_nil]; rfl
  | (n, k) :: r, acc, h => by
    rw [List.forIn_cons, hf]
    have ih := fun acc => closure_loop env f hf r acc fun y hy => h y (List.mem_cons_of_mem _ hy)
    unfold cloFrom
    by_cases hk : (k == NameKind.free) = true
    · rw [if_pos hk, if_pos hk]
      obtain ⟨c, hc⟩ := h (n, k) List.mem_cons_self (by simpa using hk)
      have e : cellOf env n = pure c := by unfold cellOf; rw [hc]
      rw [e]
      have e2 : (env.cells.lookup n).getD 0 = c := by rw [hc]; rfl
      rw [e2]
      exact ih _
    · rw [if_neg hk, if_neg hk]
      exact ih _
theorem closure_ok {scope : Scope} {env : Env} (h : ∀ y ∈ scope.names, y.2 = .free → ∃ c, env.cells.lookup y.1 = some c) : closureFor scope env = pure (cloFrom env.cells scope.names []) := by
  simp only [closureFor]
  rw [closure_loop env _ (fun n k c => rfl) scope.names [] h]
  rfl

theorem mem_lookup {α : Type} : ∀ {l : List (Str × α)} {n : Str} {c : α}, (n, c) ∈ l → ∃ c', l.lookup n = some c'
  | (k, v) :: r, n, c, h => by
    rw [List.lookup_cons]
    cases hb : n == k with
    | true => exact ⟨_, rfl⟩
    | false =>
      rcases List.mem_cons.mp h with e | h
      · cases e; simp at hb
      · exact mem_lookup h

theorem cloFrom_mem {cells : List (Str × Addr)} : ∀ {names : List (Str × NameKind)} {acc : List (Str × Addr)} {n : Str} {c : Addr}, (n, c) ∈ cloFrom cells names acc → (n, c) ∈ acc ∨ ((n, .free) ∈ names ∧ c = (cells.lookup n).getD 0)
  | [], _, _, _, h => .inl h
  | (m, k) :: r, acc, n, c, h => by
    unfold cloFrom at h
    split at h
    · rename_i hk
      have hk : k = .free := by simpa using hk
      rcases cloFrom_mem h with h | ⟨h1, h2⟩
      · rcases List.mem_cons.mp h with e | h
        · cases e; exact .inr ⟨hk ▸ List.mem_cons_self, rfl⟩
        · exact .inl h
      · exact .inr ⟨List.mem_cons_of_mem _ h1, h2⟩
    · rcases cloFrom_mem h with h | ⟨h1, h2⟩
      · exact .inl h
      · exact .inr ⟨List.mem_cons_of_mem _ h1, h2⟩
theorem cloFrom_acc {cells : List (Str × Addr)} : ∀ {names : List (Str × NameKind)} {acc : List (Str × Addr)} {p : Str × Addr}, p ∈ acc → p ∈ cloFrom cells names acc
  | [], _, _, h => h
  | (m, k) :: r, acc, p, h => by
    unfold cloFrom
    split
    · exact cloFrom_acc (List.mem_cons_of_mem _ h)
    · exact cloFrom_acc h
theorem cloFrom_has {cells : List (Str × Addr)} : ∀ {names : List (Str × NameKind)} {acc : List (Str × Addr)} {n : Str}, (n, .free) ∈ names → (n, (cells.lookup n).getD 0) ∈ cloFrom cells names acc
  | (m, k) :: r, acc, n, h => by
    unfold cloFrom
    rcases List.mem_cons.mp h with e | h
    · cases e
      exact cloFrom_acc List.mem_cons_self
    · split
      · exact cloFrom_has h
      · exact cloFrom_has h

theorem cells_mem : ∀ {names : List (Str × NameKind)} {h : Heap} {acc : List (Str × Addr)} {x : Str} {c : Addr}, (x, c) ∈ cellsFrom h.objs.size names acc →
    (x, c) ∈ acc ∨ ((x, .cell) ∈ names ∧ h.objs.size ≤ c ∧ CellAt (pushCells h names) c none)
  | [], _, _, _, _, h => .inl h
  | (n, k) :: r, h, acc, x, c, hm => by
    unfold cellsFrom at hm
    unfold pushCells
    split at hm
    · rename_i hk
      rw [if_pos hk]
      have hk : k = .cell := by simpa using hk
      rw [← Heap.size_push h { cls := .type "cell", data := .cell none }] at hm
      rcases cells_mem hm with hm | ⟨h1, h2, h3⟩
      · rcases List.mem_cons.mp hm with e | hm
        · cases e
          exact .inr ⟨hk ▸ List.mem_cons_self, Nat.le_refl _, _, pushCells_keeps r _ _ _ (Heap.get?_push_size _ rfl), rfl⟩
        · exact .inl hm
      · rw [Heap.size_push] at h2
        exact .inr ⟨List.mem_cons_of_mem _ h1, Nat.le_of_succ_le h2, h3⟩
    · rename_i hk
      rw [if_neg hk]
      rcases cells_mem hm with hm | ⟨h1, h2, h3⟩
      · exact .inl hm
      · exact .inr ⟨List.mem_cons_of_mem _ h1, h2, h3⟩
theorem cells_acc : ∀ {names : List (Str × NameKind)} {n : Nat} {acc : List (Str × Addr)} {p : Str × Addr}, p ∈ acc → p ∈ cellsFrom n names acc
  | [], _, _, _, h => h
  | (m, k) :: r, n, acc, p, h => by
    unfold cellsFrom
    split
    · exact cells_acc (List.mem_cons_of_mem _ h)
    · exact cells_acc h
theorem cells_has : ∀ {names : List (Str × NameKind)} {n : Nat} {acc : List (Str × Addr)} {x : Str}, (x, .cell) ∈ names → ∃ c, (x, c) ∈ cellsFrom n names acc
  | (m, k) :: r, n, acc, x, h => by
    unfold cellsFrom
    rcases List.mem_cons.mp h with e | h
    · cases e
      exact ⟨n, cells_acc List.mem_cons_self⟩
    · split
      · exact cells_has h
      · exact cells_has h
theorem cells_inj : ∀ {names : List (Str × NameKind)} {h : Heap} {acc : List (Str × Addr)} {x y : Str} {c : Addr}, (∀ p ∈ acc, p.2 < h.objs.size) → (∀ x y c, (x, c) ∈ acc → (y, c) ∈ acc → x = y) →
    (x, c) ∈ cellsFrom h.objs.size names acc → (y, c) ∈ cellsFrom h.objs.size names acc → x = y
  | [], _, _, _, _, _, _, hi, h1, h2 => hi _ _ _ h1 h2
  | (n, k) :: r, h, acc, x, y, c, hl, hi, h1, h2 => by
    unfold cellsFrom at h1 h2
    split at h1
    · rename_i hk
      rw [if_pos hk] at h2
      rw [← Heap.size_push h { cls := .type "cell", data := .cell none }] at h1 h2
      refine cells_inj (h := h.push _) (fun p hp => ?_) (fun x y c a b => ?_) h1 h2
      · rw [Heap.size_push]
        rcases List.mem_cons.mp hp with rfl | hp
        · exact Nat.lt_succ_self _
        · exact Nat.lt_succ_of_lt (hl p hp)
      · rcases List.mem_cons.mp a with e | a <;> rcases List.mem_cons.mp b with e' | b
        · cases e; cases e'; rfl
        · cases e; exact absurd (hl _ b) (Nat.lt_irrefl _)
        · cases e'; exact absurd (hl _ a) (Nat.lt_irrefl _)
        · exact hi _ _ _ a b
    · rename_i hk
      rw [if_neg hk] at h2
      exact cells_inj hl hi h1 h2

theorem newEnv_comp {M : Model} {A : Around} {E : Value → Shared → Prop} {s : Shared} {scope : Scope} {globals : Addr} {closure : List (Str × Addr)} {qual : Str} {func : Option Addr} {code : Value} {around : Env} {builtins : Addr} {Q : Env → Shared → Prop}
    (h : Q (newEnv scope s.heap.objs.size globals (cellsFrom (s.heap.objs.size + 1) scope.names closure) qual func code (some around) builtins)
      { s with heap := pushCells (s.heap.push { cls := .type "dict", data := .dict #[] }) scope.names }) :
    wpAny M A (newFunctionEnv scope globals closure [] qual func code (some around) builtins) Q E s := by
  simp only [newFunctionEnv, Option.isSome_some, if_true]
  refine wpAny_bind (wpAny_alloc ?_)
  refine wpAny_bind (wpAny_layCells _ (fun n k c => rfl) scope.names closure _ _ ?_)
  rw [show ({ s with heap := s.heap.push { cls := .type "dict", data := .dict #[] } } : Shared).heap.objs.size = s.heap.objs.size + 1 from Heap.size_push ..]
  rw [List.forIn_nil]
  exact wpAny_bind (wpAny_pure (wpAny_pure h))

/-- every name of the written scope, in the scope that runs -/
theorem lookup_relS {sc : Scope} : ∀ {names : List (Str × NameKind)} {x : Str} {k : NameKind},
    (names.map fun (n, k) => if (k == NameKind.free && sc.kind == .function && sc.names.lookup n == some .cell) then (n, NameKind.cell) else (n, k)).lookup x = some k →
    ∃ k', names.lookup x = some k' ∧ (k = k' ∨ (k' = .free ∧ k = .cell))
  | [], _, _, h => by simp at h
  | (n, k₀) :: r, x, k, h => by
    have ih := @lookup_relS sc r x k
    have h' : List.lookup x ((if (k₀ == NameKind.free && sc.kind == .function && sc.names.lookup n == some .cell) = true then (n, NameKind.cell) else (n, k₀)) :: (r.map _)) = some k := h
    cases hx : x == n with
    | true =>
      simp only [List.lookup_cons, hx]
      by_cases hc : (k₀ == NameKind.free && sc.kind == .function && sc.names.lookup n == some .cell) = true
      · rw [if_pos hc] at h'
        simp only [List.lookup_cons, hx] at h'
        cases h'
        simp only [Bool.and_eq_true, beq_iff_eq] at hc
        exact ⟨k₀, rfl, .inr ⟨hc.1.1, rfl⟩⟩
      · rw [if_neg hc] at h'
        simp only [List.lookup_cons, hx] at h'
        cases h'
        exact ⟨_, rfl, .inl rfl⟩
    | false =>
      simp only [List.lookup_cons, hx]
      by_cases hc : (k₀ == NameKind.free && sc.kind == .function && sc.names.lookup n == some .cell) = true
      · rw [if_pos hc] at h'
        simp only [List.lookup_cons, hx] at h'
        exact ih h'
      · rw [if_neg hc] at h'
        simp only [List.lookup_cons, hx] at h'
        exact ih h'



/-- the names of a comprehension's block: its own (with their places in N), or captured -/
structure BlkOk (N : List Str) (sc scope : Scope) (own : List (Str × Nat)) : Prop where
  kind : scope.kind = .function
  uniq : ∀ y ∈ scope.names, scope.names.lookup y.1 = some y.2
  ix : ∀ p ∈ own, N[p.2]? = some p.1
  free : ∀ y ∈ scope.names, y.2 = .free → sc.names.lookup y.1 = some .cell ∨ sc.names.lookup y.1 = some .free
  own : ∀ y ∈ scope.names, y.2 = .local ∨ y.2 = .cell → y.1 ∈ own.map (·.1) ∨ y.1 ∉ N
/-- the slots of the block's own names forgotten -/
def wipe (σ : St) : List Nat → St
  | [] => σ
  | v :: vs => (wipe σ vs).set v none
theorem wipe_length (σ : St) : ∀ vs : List Nat, (wipe σ vs).length = σ.length
  | [] => rfl
  | v :: vs => by unfold wipe; rw [List.length_set, wipe_length σ vs]
theorem wipe_some {σ : St} {i : Nat} {x : V} : ∀ {vs : List Nat}, (wipe σ vs)[i]? = some (some x) → σ[i]? = some (some x) ∧ i ∉ vs
  | [], h => ⟨h, by simp⟩
  | v :: vs, h => by
    unfold wipe at h
    by_cases hi : v = i
    · subst hi
      by_cases hv : v < (wipe σ vs).length
      · rw [List.getElem?_set_self hv] at h; cases h
      · rw [List.getElem?_eq_none (by simpa using hv)] at h; cases h
    · rw [List.getElem?_set_ne hi] at h
      obtain ⟨h1, h2⟩ := wipe_some h
      exact ⟨h1, by simp only [List.mem_cons, not_or]; exact ⟨fun e => hi e.symm, h2⟩⟩

/-- the context of a block that starts at s, its iterator's objects at fp -/
abbrev Cx.blk (X : Cx) (s : Shared) (H : Hp) (scope : Scope) (cenv : Env) (fp : List Addr) : Cx := { X with s_0 := s, H_0 := H, env := cenv, outer := X.stack, ex := fp, fn := fun x => scope.names.lookup x == some .cell, pn := [], xe := fun _ _ => False }
section
variable {X : Cx} {pins : List (Addr × Obj)} {σ : St} {H : Hp} {s : Shared}
theorem block_start {scope : Scope} {own : List (Str × Nat)} {fp : List Addr} (I : Inv X pins σ H s) (ok : BlkOk X.N X.env.scope scope own) (hN : X.N.Nodup) (hfp : ∀ b ∈ fp, FpOk X pins H b ∧ b < s.heap.objs.size) :
    Inv (X.blk s H scope (compEnvC scope (cellsFrom (s.heap.objs.size + 1) scope.names (cloFrom X.env.cells scope.names [])) s.heap.objs.size X.env) fp) [] (wipe σ (own.map (·.2))) H { s with heap := pushCells (s.heap.push { cls := .type "dict", data := .dict #[] }) scope.names } := by
  have hfree : ∀ y ∈ scope.names, y.2 = .free → ∃ c, X.env.cells.lookup y.1 = some c := fun y hy e => by
    rcases ok.free y hy e with k | k
    · exact I.ok.has _ (.inl k)
    · exact I.ok.has _ (.inr k)
  generalize hcenv : compEnvC scope (cellsFrom (s.heap.objs.size + 1) scope.names (cloFrom X.env.cells scope.names [])) s.heap.objs.size X.env = cenv
  have kp : ∀ b o, s.heap.get? b = some o → (pushCells (s.heap.push { cls := .type "dict", data := .dict #[] }) scope.names).get? b = some o := fun b o e => pushCells_keeps _ _ _ _ (Heap.get?_push_of_some _ e)
  have hL : cenv.locals = s.heap.objs.size := by rw [← hcenv]; rfl
  have hcl : cenv.cells = cellsFrom (s.heap.objs.size + 1) scope.names (cloFrom X.env.cells scope.names []) := by rw [← hcenv]; rfl
  have hsc : cenv.scope = relS scope X.env.scope := by rw [← hcenv]; rfl
  rw [← Heap.size_push s.heap { cls := .type "dict", data := .dict #[] }] at hcl
  have cm : ∀ {y c}, (y, c) ∈ cloFrom X.env.cells scope.names [] → X.env.cells.lookup y = some c ∧ c < s.heap.objs.size := fun {y c} hm => by
    rcases cloFrom_mem hm with hm | ⟨h1, rfl⟩
    · cases hm
    · obtain ⟨c, hc⟩ := hfree _ h1 rfl
      rw [hc]
      obtain ⟨w, z⟩ := I.cell _ _ hc
      exact ⟨rfl, z.lt⟩
  have mem : ∀ {y c}, cenv.cells.lookup y = some c → (X.env.cells.lookup y = some c ∧ c < s.heap.objs.size) ∨ (s.heap.objs.size + 1 ≤ c ∧ CellAt (pushCells (s.heap.push { cls := .type "dict", data := .dict #[] }) scope.names) c none) := fun {y c} e => by
    rw [hcl] at e
    rcases cells_mem (PySem.mem_of_lookup e) with hm | ⟨_, h2, h3⟩
    · exact .inl (cm hm)
    · rw [Heap.size_push] at h2; exact .inr ⟨h2, h3⟩
  have look : ∀ {y}, scope.names.lookup y = some .free → ∃ c, cenv.cells.lookup y = some c ∧ X.env.cells.lookup y = some c := fun {y} hl => by
    have hy : (y, NameKind.free) ∈ scope.names := PySem.mem_of_lookup hl
    obtain ⟨c', e'⟩ := mem_lookup (cells_acc (names := scope.names) (n := (s.heap.push { cls := .type "dict", data := .dict #[] }).objs.size) (cloFrom_has (cells := X.env.cells) (acc := []) hy))
    rw [← hcl] at e'
    refine ⟨c', e', ?_⟩
    rw [hcl] at e'
    rcases cells_mem (PySem.mem_of_lookup e') with hm | ⟨h1, _, _⟩
    · exact (cm hm).1
    · have := ok.uniq _ h1
      rw [hl] at this; cases this
  have okB : (X.blk s H scope cenv fp).Ok := by
    refine ⟨I.ok.mod, by show cenv.scope.kind = _; rw [hsc]; exact ok.kind, by show cenv.globals = _; rw [← hcenv]; exact I.ok.glob, by show cenv.builtins = _; rw [← hcenv]; exact I.ok.blt, by show s.heap.objs.size ≤ cenv.locals; rw [hL]; exact Nat.le_refl _,
      fun y z c e1 e2 => ?_, fun y hy => ?_, fun y c z e => ?_, I.ok.hd, I.ok.frames, .inl rfl, fun b hb => ⟨?_, fun y c e z => ?_⟩, I.bs, Nat.le_trans I.ok.bsz I.sz, fun b o e hb => ?_, fun b hb z => ?_, I.stack, I.stkFree⟩
    · have e1 : cenv.cells.lookup y = some c := e1
      have e2 : cenv.cells.lookup z = some c := e2
      rw [hcl] at e1 e2
      refine cells_inj (fun p hp => ?_) (fun y z c a b => I.ok.inj y z c (cm a).1 (cm b).1) (PySem.mem_of_lookup e1) (PySem.mem_of_lookup e2)
      rw [Heap.size_push]
      exact Nat.lt_succ_of_lt (cm (y := p.1) (c := p.2) hp).2
    · show ∃ c, cenv.cells.lookup y = some c
      have key : ∀ k, cenv.kindOf y = some k → (k = .cell ∨ k = .free) → ∃ c, cenv.cells.lookup y = some c := fun k hk hk' => by
        unfold Env.kindOf at hk
        rw [hsc] at hk
        obtain ⟨k', e, r⟩ := lookup_relS hk
        have : k' = .cell ∨ k' = .free := by
          rcases r with rfl | ⟨rfl, _⟩
          · exact hk'
          · exact .inr rfl
        rcases this with rfl | rfl
        · obtain ⟨c, hm⟩ := cells_has (n := (s.heap.push { cls := .type "dict", data := .dict #[] }).objs.size) (acc := cloFrom X.env.cells scope.names []) (PySem.mem_of_lookup e)
          obtain ⟨c', e'⟩ := mem_lookup hm
          exact ⟨c', by rw [hcl]; exact e'⟩
        · obtain ⟨c, h1, _⟩ := look e
          exact ⟨c, h1⟩
      rcases hy with hy | hy
      · exact key _ hy (.inl rfl)
      · exact key _ hy (.inr rfl)
    · have z : (scope.names.lookup y == some NameKind.cell) = true := z
      have z : scope.names.lookup y = some .cell := by simpa using z
      have e : cenv.cells.lookup y = some c := e
      rw [hcl] at e
      rcases cells_mem (PySem.mem_of_lookup e) with hm | ⟨_, h2, _⟩
      · rcases cloFrom_mem hm with hm | ⟨h1, _⟩
        · cases hm
        · have q := ok.uniq _ h1
          rw [z] at q; cases q
      · rw [Heap.size_push] at h2
        exact Nat.le_of_succ_le h2
    · show b ≠ cenv.locals
      rw [hL]; exact Nat.ne_of_lt (hfp b hb).2
    · have e : cenv.cells.lookup y = some c := e
      rcases mem e with ⟨h1, _⟩ | ⟨h1, _⟩
      · exact (hfp b hb).1.2.2.2.2.1 y c h1 z
      · have h2 : s.heap.objs.size + 1 ≤ b := by rw [← z]; exact h1
        exact absurd (Nat.lt_of_lt_of_le (hfp b hb).2 (Nat.le_of_succ_le h2)) (Nat.lt_irrefl _)
    · rcases (hfp b hb).1.2.2.2.1 with z | z
      · exact I.ok.noex b o e z
      · exact absurd (Nat.lt_of_lt_of_le (Heap.lt_size e) (Nat.le_trans I.ok.bsz z)) (Nat.lt_irrefl _)
    · rcases List.mem_cons.mp (I.stkSub b z) with z | z
      · exact (hfp b hb).1.2.1 z
      · exact (hfp b hb).1.2.2.1 z
  refine ⟨okB, rfl, I.bare, Un.kept kp, ⟨fun _ => none, ?_, fun i y av e1 e2 e3 => ?_⟩, fun y c e => ?_, ?_, fun y c e => ?_, fun p hp => ?_, I.hok.kept kp, by rw [wipe_length]; exact I.len⟩
  · show Heap.Ns _ cenv.locals _
    rw [hL]
    exact Heap.Ns.keeps (Heap.Ns.new ..) fun b o e => pushCells_keeps _ _ _ _ e
  · obtain ⟨e2, hne⟩ := wipe_some e2
    have hfr : scope.names.lookup y = some .free ∧ (cenv.kindOf y = some .cell ∨ cenv.kindOf y = some .free) := by
      have key : ∀ k, cenv.scope.names.lookup y = some k → k = .local ∨ k = .cell ∨ k = .free → scope.names.lookup y = some .free ∧ (cenv.kindOf y = some .cell ∨ cenv.kindOf y = some .free) := fun k hk hk' => by
        have hk0 := hk
        rw [hsc] at hk
        obtain ⟨k', e, r⟩ := lookup_relS hk
        have no : ¬ (k' = .local ∨ k' = .cell) := fun hh => by
          rcases ok.own _ (PySem.mem_of_lookup e) hh with e' | e'
          · obtain ⟨p, hp, hpy⟩ := List.mem_map.mp e'
            have e3 := ok.ix p hp
            have : p.1 = y := hpy
            rw [this] at e3
            exact hne (List.mem_map.mpr ⟨p, hp, nodup_ix hN e3 e1⟩)
          · exact e' (List.mem_of_getElem? e1)
        rcases r with rfl | ⟨rfl, rfl⟩
        · rcases hk' with rfl | rfl | rfl
          · exact absurd (.inl rfl) no
          · exact absurd (.inr rfl) no
          · exact ⟨e, .inr hk0⟩
        · exact ⟨e, .inl hk0⟩
      have e3 : Vis cenv.scope y := e3
      rcases e3 with e3 | e3 | e3
      · exact key _ e3 (.inl rfl)
      · exact key _ e3 (.inr (.inl rfl))
      · exact key _ e3 (.inr (.inr rfl))
    obtain ⟨m, hn, hl⟩ := I.loc
    have hvis : Vis X.env.scope y := (ok.free _ (PySem.mem_of_lookup hfr.1) rfl).elim (fun k => .inr (.inl k)) (fun k => .inr (.inr k))
    obtain ⟨w, r, q⟩ := hl i y av e1 e2 hvis
    refine ⟨w, r, .inr ⟨hfr.2, ?_⟩⟩
    obtain ⟨c, h1, h2⟩ := look hfr.1
    rcases q with ⟨k, _⟩ | ⟨_, c', e', z⟩
    · have k : X.env.scope.names.lookup y = some .local := k
      rcases ok.free _ (PySem.mem_of_lookup hfr.1) rfl with k' | k' <;> rw [show X.env.scope.names.lookup y = _ from k'] at k <;> cases k
    · rw [h2] at e'; cases e'
      exact ⟨c, h1, z.keeps kp⟩
  · have e : cenv.cells.lookup y = some c := e
    rcases mem e with ⟨h1, _⟩ | ⟨_, z⟩
    · obtain ⟨w, z⟩ := I.cell y c h1
      exact ⟨w, z.keeps kp⟩
    · exact ⟨_, z⟩
  · show H cenv.locals = none
    rw [hL]; exact I.hok.fresh (Nat.le_refl _)
  · have e : cenv.cells.lookup y = some c := e
    rcases mem e with ⟨h1, _⟩ | ⟨h1, _⟩
    · exact I.freeC y c h1
    · exact I.hok.fresh (Nat.le_of_succ_le h1)
  · exact absurd (show p ∈ ([] : List (Addr × Obj)) ++ [] from hp) (by simp)

/-- an item appended to a tracked list -/
theorem app_ok {E : Value → Shared → Prop} {D : Addr} {xs : List V} {y : V} {v : Value} {Q : Value → Shared → Prop} (I : Inv X pins σ H s) (hD : H D = some (.lst xs)) (hz : xs.length < sizeLine) (r : RelV y v)
    (h : ∀ s', Inv X pins σ (upd H D (.lst (xs ++ [y]))) s' → Q .none s') : wpAny (model X.prog X.w) X.A (call (.builtin "list.append") [.ref D, v]) Q E s := by
  obtain ⟨hz', its, n, ri, e⟩ := I.hok D _ hD
  have hl := ri.length
  refine append_at (hsz := by rw [List.size_toArray]; omega) e fun h' sb ho' => ?_
  refine h { s with heap := h' } (I.write (t' := s.toks) (by rw [hD]; trivial) (.inl rfl) (fun b u hb q => (sb.2 b hb).trans q) ⟨_, ho'⟩ ⟨by rw [List.length_append]; exact hz, its ++ [v], n + 1, ri.append (.cons r .nil), ?_⟩)
  rw [ho']
  simp

/-- a clause's tests -/
def PTs (X : Cx) (ifs : List Expr) (t : TT) : Prop :=
  ∀ (pins : List (Addr × Obj)) (s : Shared) (σ : St) (H : Hp) (Q : Bool → Hp → Prop), Inv X pins σ H s → t σ H Q →
    wpAny (model X.prog X.w) X.A (forIn ifs true fun c r => if r = true then do let ok ← isTrue c X.env (eval c X.env); pure (ForInStep.yield ok) else pure (ForInStep.yield r)) (TP X pins σ Q) X.xe s
def tYes : TT := fun _ H Q => Q true H
theorem pts_nil : PTs X [] tYes := fun _ _ _ H _ I h => wpAny_tests_nil ⟨H, I, h⟩
theorem pts_one {c : Expr} {t : TT} (h : PT X c t) : PTs X [c] t := fun pins s σ H Q I hw => wpAny_tests_one (h pins s σ H Q I hw)
end

theorem thnF {α : Type} {t : Sem α} {Q Q' : α → Shared → Prop} {M : Model} {A : Around} {E : Value → Shared → Prop} {s : Shared} (h : wpAny M A t Q (fun _ _ => False) s) (hQ : ∀ a s, Q a s → Q' a s) : wpAny M A t Q' E s := wpAny_mono h hQ fun _ _ z => False.elim z

/-- the loop of a list comprehension's block, the target of any form (codeAny_compLoop_tests asks a target that no tuple goes to; statement and proof follow it, PyProof/CompMap.lean:41-61, with the step letOwnedTupleGo kept) -/
theorem compLoop_any {prog : Program} {w : World} {A : Around} {R : Result → Shared → Prop} {s : Shared} {elt target iter : Expr} {ifs : List Expr} {scope : Scope} {pos : Pos} {it acc : Value} {env : Env} (I : Nat → Shared → Prop)
    (turn : ∀ n s, I n s → wpAny (model prog w) A (pyNext it) (fun r s₁ => match r with
      | none => R (.ok .next) s₁
      | some v => wpAny (model prog w) A (letOwnedTupleGo target it v) (fun _ s₁' => wpAny (model prog w) A (assign target env v) (fun _ s₂ =>
          wpAny (model prog w) A (forIn ifs true fun c r => if r = true then do let ok ← isTrue c env (eval c env); pure (ForInStep.yield ok) else pure (ForInStep.yield r)) (fun ok s₃ =>
            if ok = true then wpAny (model prog w) A (eval elt env) (fun x s₄ =>
              wpAny (model prog w) A (call (.builtin "list.append") [acc, x]) (fun _ s₅ => ∃ m, m < n ∧ I m s₅) (notedBy (model prog w) A env fun e s' => R (.error e) s') s₄) (notedBy (model prog w) A env fun e s' => R (.error e) s') s₃
            else ∃ m, m < n ∧ I m s₃) (notedBy (model prog w) A env fun e s' => R (.error e) s') s₂) (notedBy (model prog w) A env fun e s' => R (.error e) s') s₁') (notedBy (model prog w) A env fun e s' => R (.error e) s') s₁) (notedBy (model prog w) A env fun e s' => R (.error e) s') s)
    (n : Nat) (h : I n s) :
    codeAny (model prog w) A (.compLoop (.ListComp elt [⟨target, iter, ifs, 0⟩] scope pos) 0 it acc env) R s := by
  refine codeAny_loop rfl I (fun n s hI => ?_) n h
  show wpAny _ A ((compTurn (.ListComp elt [⟨target, iter, ifs, 0⟩] scope pos) 0 it acc env).onRaise (fun x => do noteFrame x env; theTreesLotGoes x)) _ _ s
  refine wpAny_noted ?_
  rw [compTurn_list]
  refine wpAny_bind (wpAny_standAt (wpAny_bind (wpAny_mono (turn n s hI) (fun r s₁ h₁ => ?_) fun _ _ h' => h')))
  cases r with
  | none => exact wpAny_pure h₁
  | some v =>
    refine wpAny_bind (wpAny_mono h₁ (fun _ s₁' h₁' => ?_) fun _ _ h' => h')
    refine wpAny_bind (wpAny_mono h₁' (fun _ s₂ h₂ => wpAny_bind (wpAny_mono h₂ (fun ok s₃ h₃ => ?_) fun _ _ h' => h')) fun _ _ h' => h')
    cases ok with
    | false => exact wpAny_pure ⟨rfl, h₃⟩
    | true =>
      exact wpAny_bind (wpAny_bind (wpAny_mono h₃ (fun x s₄ h₄ => wpAny_bind (wpAny_mono h₄ (fun _ s₅ h₅ => wpAny_pure (wpAny_pure ⟨rfl, h₅⟩)) fun _ _ h' => h')) fun _ _ h' => h'))

section
variable {X : Cx}
/-- [elt for target in iter if ..]: D the new list; W by the turn and a measure, Nx what a turn is to reach -/
def tLc (wi : TI) (g : TG) (tt : TT) (te : TE) (vs : List Nat) : TE := fun σ H Q => wi σ H fun J H1 => ∀ D, H1 D = none → ∃ W : Nat → Nat → Hp → Prop, (∃ m, W 0 m (upd H1 D (.lst []))) ∧ ∀ i m H, W i m H →
  (J.stop i H ∧ Q (.ref D) H) ∨ (J.go i H ∧ ∃ Nx : Hp → Prop, (∀ H', Nx H' → ∃ m', m' < m ∧ W (i + 1) m' H') ∧ ∀ x H', J.yld i H x H' → g x (wipe σ vs) H' fun σ2 H2 => wipe σ2 vs = wipe σ vs ∧ tt σ2 H2 fun b H3 =>
    if b = true then te σ2 H3 fun y H4 => ∃ acc, H4 D = some (.lst acc) ∧ acc.length < sizeLine ∧ Nx (upd H4 D (.lst (acc ++ [y]))) else Nx H3)
theorem lc_core {pins : List (Addr × Obj)} {s : Shared} {σ : St} {H : Hp} {Q : VK} {elt tg iter : Expr} {ifs : List Expr} {scope : Scope} {own : List (Str × Nat)} {pos pos' : Pos} {wi : TI} {g : TG} {tt : TT} {te : TE} {use : Option (Value → Sem Unit)} {Qf : Value → Shared → Prop}
    (hc : X.calm = true) (hN : X.N.Nodup) (I : Inv X pins σ H s) (hi : PI X tg iter wi) (ok : BlkOk X.N X.env.scope scope own)
    (hg : ∀ (s : Shared) (H : Hp) (C : Addr) (cl : List (Str × Addr)) (fp : List Addr), PG (X.blk s H scope (compEnvC scope cl C X.env) fp) tg g) (ht : ∀ (s : Shared) (H : Hp) (C : Addr) (cl : List (Str × Addr)) (fp : List Addr), PTs (X.blk s H scope (compEnvC scope cl C X.env) fp) ifs tt)
    (he : ∀ (s : Shared) (H : Hp) (C : Addr) (cl : List (Str × Addr)) (fp : List Addr), PE (X.blk s H scope (compEnvC scope cl C X.env) fp) elt te) (hs : ∀ x, foldedSetIterable iter X.env x = pure x)
    (h : tLc wi g tt te (own.map (·.2)) σ H Q)
    (hRR : ∀ D C s' m H', Inv X pins σ H' s' → Q (.ref D) H' → s'.heap.Ns C m → FpOk X pins H' C → compPost (model X.prog X.w) X.A X.xe use Qf (.ref D) C (.ok .next) s') :
    wpAny (model X.prog X.w) X.A (comprehension (.ListComp elt [⟨tg, iter, ifs, 0⟩] scope pos) scope X.env pos' (newList []) false (eval iter X.env) use) Qf X.xe s := by
  have hfree : ∀ y ∈ scope.names, y.2 = .free → ∃ c, X.env.cells.lookup y.1 = some c := fun y hy e => by
    rcases ok.free y hy e with k | k
    · exact I.ok.has _ (.inl k)
    · exact I.ok.has _ (.inr k)
  refine wpAny_comprehension_free (use := use) rfl hs (closure_ok hfree) ok.kind (fun y hy e => by rw [ok.uniq y hy, e])
    (thn (hi pins s σ H _ I h) fun xv s1 hx => thn hx fun itv s2 h2 => ?_)
  obtain ⟨it, fp, tn, J, H2, e, I2, T, st2, f2, q⟩ := h2
  subst e
  refine wpAny_newObj_type (newEnv_comp ?_) (by show 0 ≤ sizeLine; decide)
  generalize hD : s2.heap.objs.size = D
  have hDn : H2 D = none := I2.hok.fresh (Nat.le_of_eq hD)
  obtain ⟨W, ⟨m0, w0⟩, turn⟩ := q D hDn
  -- the new list
  generalize hs3 : ({ s2 with heap := s2.heap.push { cls := .type "list", data := .seq ([] : List Value).toArray } } : Shared) = s3
  have I3 : Inv X pins σ (upd H2 D (.lst [])) s3 := by
    rw [← hs3]
    refine I2.laid (t' := s2.toks) (fun b o e => Heap.get?_push_of_some _ e) (Nat.le_of_eq hD) ⟨Nat.zero_le _, [], 0, .nil, ?_⟩
    rw [← hD]
    exact Heap.get?_push_size _ rfl
  have h3 : s3.heap = s2.heap.push { cls := .type "list", data := .seq ([] : List Value).toArray } := by rw [← hs3]
  have sz : ∀ b ∈ fp, b < s2.heap.objs.size := fun b hb => by
    obtain ⟨o, e, _⟩ := T.obj _ _ st2 b hb
    exact Heap.lt_size e
  have f3 : ∀ b ∈ fp, FpOk X pins (upd H2 D (.lst [])) b ∧ b < s3.heap.objs.size := fun b hb => by
    have hlt := sz b hb
    refine ⟨⟨?_, (f2 b hb).2⟩, by rw [h3, Heap.size_push]; exact Nat.lt_succ_of_lt hlt⟩
    rw [upd_ne (by rw [← hD]; exact Nat.ne_of_lt hlt)]
    exact (f2 b hb).1
  have st3 : tn 0 s3.heap := T.keep _ _ _ st2 fun b _ o e => by rw [h3]; exact Heap.get?_push_of_some _ e
  have I4 := block_start I3 ok hN f3
  have pg := hg s3 (upd H2 D (.lst [])) s3.heap.objs.size (cellsFrom (s3.heap.objs.size + 1) scope.names (cloFrom X.env.cells scope.names [])) fp
  have pt := ht s3 (upd H2 D (.lst [])) s3.heap.objs.size (cellsFrom (s3.heap.objs.size + 1) scope.names (cloFrom X.env.cells scope.names [])) fp
  have pe := he s3 (upd H2 D (.lst [])) s3.heap.objs.size (cellsFrom (s3.heap.objs.size + 1) scope.names (cloFrom X.env.cells scope.names [])) fp
  show codeAny _ _ (.compStart (.ListComp elt [⟨tg, iter, ifs, 0⟩] scope pos) 0 (.ref it) (.ref D) (compEnvC scope (cellsFrom (s3.heap.objs.size + 1) scope.names (cloFrom X.env.cells scope.names [])) s3.heap.objs.size X.env)) (compPost (model X.prog X.w) X.A X.xe use Qf (.ref D) s3.heap.objs.size) { s3 with heap := pushCells (s3.heap.push { cls := .type "dict", data := .dict #[] }) scope.names }
  have nfp : ∀ b ∈ fp, (upd H2 D (.lst [])) b = none := fun b hb => (f3 b hb).1.1
  generalize hce : compEnvC scope (cellsFrom (s3.heap.objs.size + 1) scope.names (cloFrom X.env.cells scope.names [])) s3.heap.objs.size X.env = ce at I4 pg pt pe ⊢
  have cL : ce.locals = s3.heap.objs.size := by subst hce; rfl
  generalize hH3 : upd H2 D (.lst []) = H3 at I3 I4 pg pt pe w0 nfp f3
  generalize hs4 : ({ s3 with heap := pushCells (s3.heap.push { cls := .type "dict", data := .dict #[] }) scope.names } : Shared) = s4 at I4 ⊢
  have st4 : tn 0 s4.heap := T.keep _ _ _ st3 fun b _ o e => by rw [← hs4]; exact pushCells_keeps _ _ _ _ (Heap.get?_push_of_some _ e)
  have stat : ∀ {σ' : St} {H' : Hp} {s' : Shared}, Inv (X.blk s3 H3 scope ce fp) [] σ' H' s' → (∀ b ∈ fp, H' b = none) → ∀ b ∈ fp, FpOk (X.blk s3 H3 scope ce fp) [] H' b := fun {σ' H' s'} I' hn b hb =>
    ⟨hn b hb, (I'.ok.exf b hb).1, I'.ok.exfs b hb, .inl hb, fun x c e => (I'.ok.exf b hb).2 x c e, fun p hp => absurd (show p ∈ ([] : List (Addr × Obj)) ++ [] from hp) (by simp)⟩
  have loop : codeAny (model X.prog X.w) X.A (.compLoop (.ListComp elt [⟨tg, iter, ifs, 0⟩] scope pos) 0 (.ref it) (.ref D) ce) (compPost (model X.prog X.w) X.A X.xe use Qf (.ref D) s3.heap.objs.size) s4 := by
    refine compLoop_any (fun n s' => ∃ i H', Inv (X.blk s3 H3 scope ce fp) [] (wipe σ (own.map (·.2))) H' s' ∧ tn i s'.heap ∧ (∀ b ∈ fp, H' b = none) ∧ W i n H') ?_ m0 ⟨0, H3, I4, st4, nfp, w0⟩
    rintro n s5 ⟨i, H5, I5, st5, n5, w5⟩
    rcases turn i n H5 w5 with ⟨stop, qq⟩ | ⟨go, Nx, hNx, step⟩
    · have td := T.done (X.blk s3 H3 scope ce fp) rfl rfl rfl hc i [] s5 _ H5 (fun _ _ => False) I5 (stat I5 n5) st5 stop
      refine thnF td fun r s6 ⟨hr, I6⟩ => ?_
      subst hr
      -- back in the def's context
      have I7 : Inv X pins σ H5 s6 := I3.call' (ch := fp) I6.os I6.base I6.hok I6.bare fun b hb => ⟨(f3 b hb).1.2.2.2.1, (f3 b hb).1.2.1, (f3 b hb).1.2.2.2.2.1, (f3 b hb).1.2.2.2.2.2⟩
      have nC : H5 s3.heap.objs.size = none := by
        have z : H5 ce.locals = none := I6.free
        rw [cL] at z
        exact z
      obtain ⟨m, hn, _⟩ := I6.loc
      have hn : s6.heap.Ns ce.locals m := hn
      rw [cL] at hn
      exact hRR D s3.heap.objs.size s6 m H5 I7 qq hn (I3.fpOk (Nat.le_refl _) nC)
    · have ti := T.item (X.blk s3 H3 scope ce fp) rfl rfl rfl hc i [] s5 _ H5 (fun _ _ => False) I5 (stat I5 n5) st5 go
      refine thnF ti fun r s6 ⟨u, hr, h6⟩ => ?_
      subst hr
      refine thnF h6 fun _ s7 ⟨x, H7, I7, r7, y7, st7, n7⟩ => ?_
      have I7' := I7.pinned (stat I7 n7) (T.obj _ _ st7)
      refine thnF (pg _ s7 _ H7 x u _ I7' r7 (step x H7 y7)) fun _ s8 ⟨σ8, H8, I8, hw8, q8⟩ => ?_
      refine thnF (pt _ s8 σ8 H8 _ I8 q8) fun b s9 ⟨H9, I9, q9⟩ => ?_
      -- the turn's end
      have fin : ∀ {s' : Shared} {H' : Hp}, Inv (X.blk s3 H3 scope ce fp) ([] ++ pinsAt fp s7.heap) σ8 H' s' → Nx H' → ∃ m, m < n ∧ ∃ i H', Inv (X.blk s3 H3 scope ce fp) [] (wipe σ (own.map (·.2))) H' s' ∧ tn i s'.heap ∧ (∀ b ∈ fp, H' b = none) ∧ W i m H' := fun {s' H'} I' nx => by
        obtain ⟨m', hm, w'⟩ := hNx H' nx
        have pin' : ∀ b ∈ fp, ∀ o, s7.heap.get? b = some o → s'.heap.get? b = some o ∧ H' b = none := fun b hb o e =>
          let z := I'.pin (b, o) (List.mem_append_right _ (List.mem_append_right _ (mem_pinsAt hb e)))
          ⟨z.1, z.2.1⟩
        have hl : (wipe σ (own.map (·.2))).length = σ8.length := by rw [← hw8, wipe_length]
        refine ⟨m', hm, i + 1, H', (I'.unpinned (pins := [])).weak hl (fun j v e => ?_), T.keep _ _ _ st7 fun b hb o e => (pin' b hb o e).1, fun b hb => ?_, w'⟩
        · rw [← hw8] at e
          exact (wipe_some e).1
        · obtain ⟨o, e, _⟩ := T.obj _ _ st7 b hb
          exact (pin' b hb o e).2
      cases b with
      | false =>
        simp only [Bool.false_eq_true, if_false] at q9 ⊢
        exact fin I9 q9
      | true =>
        simp only [if_true] at q9 ⊢
        refine thnF (pe _ s9 σ8 H9 _ I9 q9) fun z s10 ⟨yv, H10, I10, r10, acc, hD10, hz10, nx⟩ => ?_
        exact app_ok (X := X.blk s3 H3 scope ce fp) I10 hD10 hz10 r10 fun s11 I11 => fin I11 nx
  exact codeAny_compStart_list loop (T.self X.A 0 _ _ _ st4 loop)
/-- as a value -/
theorem pe_lc {elt tg iter : Expr} {ifs : List Expr} {scope : Scope} {own : List (Str × Nat)} {pos : Pos} {wi : TI} {g : TG} {tt : TT} {te : TE} (hc : X.calm = true) (hN : X.N.Nodup) (hi : PI X tg iter wi) (ok : BlkOk X.N X.env.scope scope own)
    (hg : ∀ (s : Shared) (H : Hp) (C : Addr) (cl : List (Str × Addr)) (fp : List Addr), PG (X.blk s H scope (compEnvC scope cl C X.env) fp) tg g) (ht : ∀ (s : Shared) (H : Hp) (C : Addr) (cl : List (Str × Addr)) (fp : List Addr), PTs (X.blk s H scope (compEnvC scope cl C X.env) fp) ifs tt)
    (he : ∀ (s : Shared) (H : Hp) (C : Addr) (cl : List (Str × Addr)) (fp : List Addr), PE (X.blk s H scope (compEnvC scope cl C X.env) fp) elt te) (hs : ∀ x, foldedSetIterable iter X.env x = pure x := by intro _; rfl) :
    PE X (.ListComp elt [⟨tg, iter, ifs, 0⟩] scope pos) (tLc wi g tt te (own.map (·.2))) := by
  intro pins s σ H Q I h
  rw [eval_ListComp]
  refine lc_core hc hN I hi ok hg ht he hs h fun D C s' m H' I' q hn f => ⟨m, hn, fun h'' sb => ?_⟩
  obtain ⟨f0, f1, f2, f3, f4, f5⟩ := f
  exact ⟨.ref D, H', I'.turned (t' := s'.toks) (fun b o hb e => (sb.2 b hb).trans e) f0 f1 f3 f4 f5, rfl, q⟩
/-- name = [..] on one line, the name a local -/
theorem ps_setLc {i : Nat} {y : Str} {py : Pos} {elt tg iter : Expr} {ifs : List Expr} {scope : Scope} {own : List (Str × Nat)} {pos spos : Pos} {wi : TI} {g : TG} {tt : TT} {te : TE} (hc : X.calm = true) (hN : X.N.Nodup) (hy : X.N[i]? = some y) (hyl : X.env.scope.names.lookup y = some .local)
    (hsw : swapsWith (.ListComp elt [⟨tg, iter, ifs, 0⟩] scope pos) (some (.Name y py)) spos.line X.env = pure true) (hi : PI X tg iter wi) (ok : BlkOk X.N X.env.scope scope own)
    (hg : ∀ (s : Shared) (H : Hp) (C : Addr) (cl : List (Str × Addr)) (fp : List Addr), PG (X.blk s H scope (compEnvC scope cl C X.env) fp) tg g) (ht : ∀ (s : Shared) (H : Hp) (C : Addr) (cl : List (Str × Addr)) (fp : List Addr), PTs (X.blk s H scope (compEnvC scope cl C X.env) fp) ifs tt)
    (he : ∀ (s : Shared) (H : Hp) (C : Addr) (cl : List (Str × Addr)) (fp : List Addr), PE (X.blk s H scope (compEnvC scope cl C X.env) fp) elt te) (hs : ∀ x, foldedSetIterable iter X.env x = pure x := by intro _; rfl) :
    PS X (.Assign [.Name y py] (.ListComp elt [⟨tg, iter, ifs, 0⟩] scope pos) spos) (tAsg (tLc wi g tt te (own.map (·.2))) (gName i)) := by
  intro pins s σ H D I h
  rw [exec_Assign_Name_used _ _ _ _ hsw]
  refine wpAny_bind (wpAny_standAt (wpAny_bind ?_))
  show wpAny _ X.A (do let _ ← comprehension (.ListComp elt [⟨tg, iter, ifs, 0⟩] scope pos) scope X.env (firstIterPos [⟨tg, iter, ifs, 0⟩] pos) (newList []) false (eval iter X.env) (some (assign (.Name y py) X.env))) _ _ s
  have h : tLc wi g tt te (own.map (·.2)) σ H (fun x H1 => gName i x σ H1 D.nx) := h
  refine wpAny_bind (thn (lc_core (Qf := fun _ s' => SP X pins D .next s') hc hN I hi ok hg ht he hs h fun L C s' m H' I' q hn f => ?_) fun _ s' hq => wpAny_pure (wpAny_pure hq))
  show wpAny _ _ (assign (.Name y py) X.env (.ref L)) _ _ _
  refine wpAny_assign_Name (store_ok2 (v := V.ref L) I' hN hy (.inl hyl) rfl (fun s2 I2 ⟨a, sb, ha⟩ => ?_) (.inr hyl))
  obtain ⟨f0, f1, f2, f3, f4, f5⟩ := f
  have haC : C ≠ a := by
    rcases ha with z | z
    · rw [z]; exact f1
    · exact fun e => f4 y a z e.symm
  refine ⟨m, hn.sameBut sb haC, fun h3 sb3 => ?_⟩
  exact ⟨_, H', I2.turned (t' := s2.toks) (fun b o hb e => (sb3.2 b hb).trans e) f0 f1 f3 f4 f5, q⟩
theorem sw_true {elt : Expr} {gs : List Comprehension} {scope : Scope} {pos py : Pos} {y : Str} {l : Nat} {env : Env} (hk : env.scope.kind = .function) (hy : env.scope.names.lookup y = some .local) (hl : (py.line == pos.line) = true)
    (ha : (scope.names.any fun (n, k) => n == y && (k == .local || k == .cell)) = false) : swapsWith (.ListComp elt gs scope pos) (some (.Name y py)) l env = pure true := by
  have ky : env.kindOf y = some .local := hy
  have hb : env.blockKind = .function := by unfold Env.blockKind; rw [hk]; rfl
  unfold swapsWith
  simp only [hb, ky, ha, Expr.pos, hl]
  rfl
end

/-! ### the forms one uses -/
/-- over a range: Pv by the turn and the heap (the new list at D within) -/
theorem lc_range {lo : Int} {n : Nat} {g : TG} {tt : TT} {te : TE} {vs : List Nat} {σ : St} {H1 : Hp} {D : Addr} {Qd : Hp → Prop} (Pv : Nat → Hp → Prop) (h0 : Pv 0 (upd H1 D (.lst [])))
    (hs : ∀ i H, i < n → Pv i H → g (.int (lo + i)) (wipe σ vs) H fun σ2 H2 => wipe σ2 vs = wipe σ vs ∧ tt σ2 H2 fun b H3 =>
      if b = true then te σ2 H3 fun y H4 => ∃ acc, H4 D = some (.lst acc) ∧ acc.length < sizeLine ∧ Pv (i + 1) (upd H4 D (.lst (acc ++ [y]))) else Pv (i + 1) H3) (hd : ∀ H, Pv n H → Qd H) :
    ∃ W : Nat → Nat → Hp → Prop, (∃ m, W 0 m (upd H1 D (.lst []))) ∧ ∀ i m H, W i m H →
      ((Itr lo n).stop i H ∧ Qd H) ∨ ((Itr lo n).go i H ∧ ∃ Nx : Hp → Prop, (∀ H', Nx H' → ∃ m', m' < m ∧ W (i + 1) m' H') ∧ ∀ x H', (Itr lo n).yld i H x H' → g x (wipe σ vs) H' fun σ2 H2 => wipe σ2 vs = wipe σ vs ∧ tt σ2 H2 fun b H3 =>
        if b = true then te σ2 H3 fun y H4 => ∃ acc, H4 D = some (.lst acc) ∧ acc.length < sizeLine ∧ Nx (upd H4 D (.lst (acc ++ [y]))) else Nx H3) := by
  refine ⟨fun i m H => m = n - i ∧ i ≤ n ∧ Pv i H, ⟨n, by simp, Nat.zero_le _, h0⟩, ?_⟩
  rintro i m H ⟨rfl, hi, p⟩
  by_cases hlt : i < n
  · refine .inr ⟨hlt, Pv (i + 1), fun H' p' => ⟨n - (i + 1), by omega, rfl, hlt, p'⟩, fun x H' y => ?_⟩
    obtain ⟨e, y⟩ := y
    subst e y
    exact hs i _ hlt p
  · have e : i = n := by omega
    subst e
    exact .inl ⟨Nat.le_refl _, hd H p⟩
/-- over a list that the block leaves as it is -/
theorem lc_list {K : PySem.W.Frag} {a : Addr} {xs : List V} {g : TG} {tt : TT} {te : TE} {vs : List Nat} {σ : St} {H1 : Hp} {D : Addr} {Qd : Hp → Prop} (Pv : Nat → Hp → Prop) (h0 : Pv 0 (upd H1 D (.lst []))) (hl : ∀ i H, i ≤ xs.length → Pv i H → SqL K H a xs)
    (hs : ∀ i x H, xs[i]? = some x → Pv i H → g x (wipe σ vs) H fun σ2 H2 => wipe σ2 vs = wipe σ vs ∧ tt σ2 H2 fun b H3 =>
      if b = true then te σ2 H3 fun y H4 => ∃ acc, H4 D = some (.lst acc) ∧ acc.length < sizeLine ∧ Pv (i + 1) (upd H4 D (.lst (acc ++ [y]))) else Pv (i + 1) H3) (hd : ∀ H, Pv xs.length H → Qd H) :
    ∃ W : Nat → Nat → Hp → Prop, (∃ m, W 0 m (upd H1 D (.lst []))) ∧ ∀ i m H, W i m H →
      ((Itl K a).stop i H ∧ Qd H) ∨ ((Itl K a).go i H ∧ ∃ Nx : Hp → Prop, (∀ H', Nx H' → ∃ m', m' < m ∧ W (i + 1) m' H') ∧ ∀ x H', (Itl K a).yld i H x H' → g x (wipe σ vs) H' fun σ2 H2 => wipe σ2 vs = wipe σ vs ∧ tt σ2 H2 fun b H3 =>
        if b = true then te σ2 H3 fun y H4 => ∃ acc, H4 D = some (.lst acc) ∧ acc.length < sizeLine ∧ Nx (upd H4 D (.lst (acc ++ [y]))) else Nx H3) := by
  refine ⟨fun i m H => m = xs.length - i ∧ i ≤ xs.length ∧ Pv i H, ⟨xs.length, by simp, Nat.zero_le _, h0⟩, ?_⟩
  rintro i m H ⟨rfl, hi, p⟩
  have q := hl i H hi p
  by_cases hlt : i < xs.length
  · refine .inr ⟨⟨xs, xs[i], q, by simp [hlt]⟩, Pv (i + 1), fun H' p' => ⟨xs.length - (i + 1), by omega, rfl, hlt, p'⟩, fun x H' y => ?_⟩
    obtain ⟨e, y⟩ := y
    subst e
    exact hs i x _ (y xs q) p
  · have e : i = xs.length := by omega
    subst e
    exact .inl ⟨⟨xs, q, Nat.le_refl _⟩, hd H p⟩
/-- over a tuple -/
theorem lc_tup {K : PySem.W.Frag} {a : Addr} {xs : List V} {g : TG} {tt : TT} {te : TE} {vs : List Nat} {σ : St} {H1 : Hp} {D : Addr} {Qd : Hp → Prop} (Pv : Nat → Hp → Prop) (h0 : Pv 0 (upd H1 D (.lst []))) (hl : ∀ i H, i ≤ xs.length → Pv i H → SqT K H a xs)
    (hs : ∀ i x H, xs[i]? = some x → Pv i H → g x (wipe σ vs) H fun σ2 H2 => wipe σ2 vs = wipe σ vs ∧ tt σ2 H2 fun b H3 =>
      if b = true then te σ2 H3 fun y H4 => ∃ acc, H4 D = some (.lst acc) ∧ acc.length < sizeLine ∧ Pv (i + 1) (upd H4 D (.lst (acc ++ [y]))) else Pv (i + 1) H3) (hd : ∀ H, Pv xs.length H → Qd H) :
    ∃ W : Nat → Nat → Hp → Prop, (∃ m, W 0 m (upd H1 D (.lst []))) ∧ ∀ i m H, W i m H →
      ((Itt K a).stop i H ∧ Qd H) ∨ ((Itt K a).go i H ∧ ∃ Nx : Hp → Prop, (∀ H', Nx H' → ∃ m', m' < m ∧ W (i + 1) m' H') ∧ ∀ x H', (Itt K a).yld i H x H' → g x (wipe σ vs) H' fun σ2 H2 => wipe σ2 vs = wipe σ vs ∧ tt σ2 H2 fun b H3 =>
        if b = true then te σ2 H3 fun y H4 => ∃ acc, H4 D = some (.lst acc) ∧ acc.length < sizeLine ∧ Nx (upd H4 D (.lst (acc ++ [y]))) else Nx H3) := by
  refine ⟨fun i m H => m = xs.length - i ∧ i ≤ xs.length ∧ Pv i H, ⟨xs.length, by simp, Nat.zero_le _, h0⟩, ?_⟩
  rintro i m H ⟨rfl, hi, p⟩
  have q := hl i H hi p
  by_cases hlt : i < xs.length
  · refine .inr ⟨⟨xs, xs[i], q, by simp [hlt]⟩, Pv (i + 1), fun H' p' => ⟨xs.length - (i + 1), by omega, rfl, hlt, p'⟩, fun x H' y => ?_⟩
    obtain ⟨e, y⟩ := y
    subst e
    exact hs i x _ (y xs q) p
  · have e : i = xs.length := by omega
    subst e
    exact .inl ⟨⟨xs, q, Nat.le_refl _⟩, hd H p⟩
def blkC (N : List Str) (sc scope : Scope) (own : List (Str × Nat)) : Bool :=
  (match scope.kind with | .function => true | _ => false) && (scope.names.all fun y => decide (scope.names.lookup y.1 = some y.2)) && (own.all fun p => decide (N[p.2]? = some p.1)) &&
    (scope.names.all fun y => match y.2 with
      | .free => (match sc.names.lookup y.1 with | some .cell => true | some .free => true | _ => false)
      | .local => decide (y.1 ∈ own.map (·.1)) || decide (y.1 ∉ N)
      | .cell => decide (y.1 ∈ own.map (·.1)) || decide (y.1 ∉ N)
      | _ => true)
theorem blkOk_by {N : List Str} {sc scope : Scope} {own : List (Str × Nat)} (h : blkC N sc scope own = true) : BlkOk N sc scope own := by
  unfold blkC at h
  simp only [Bool.and_eq_true, List.all_eq_true, decide_eq_true_eq] at h
  obtain ⟨⟨⟨h1, h2⟩, h3⟩, h4⟩ := h
  refine ⟨?_, h2, h3, fun y hy e => ?_, fun y hy e => ?_⟩
  · split at h1
    · assumption
    · cases h1
  · have q := h4 y hy
    simp only [e] at q
    split at q <;> first | exact .inl (by assumption) | exact .inr (by assumption) | cases q
  · have q := h4 y hy
    rcases e with e | e <;> (simp only [e, Bool.or_eq_true, decide_eq_true_eq] at q; exact q)
end L2

namespace L2
open PySem PySem.Spec PyProof.Rows


section
variable {prog : Program} {w : World} {A : Around} {R : Result → Shared → Prop} {s : Shared} {elt t0 i0 t1 i1 : Expr} {ifs0 ifs1 : List Expr} {scope : Scope} {pos : Pos} {it acc : Value} {env : Env}
end

section
variable {X : Cx}
end
end L2

namespace L2
open PySem PySem.Spec PyProof.Rows

/-! ### lists of pairs as tables -/
section
variable {κ : Type} [DecidableEq κ]



end


/-! ### a tracked dict, its keys ints and texts or tuples of these -/


section
variable {P : Program} {w : World} {H : Hp} {h : Heap} {a : Addr}
end



section
variable {X : Cx} {pins : List (Addr × Obj)} {σ : St} {H : Hp} {s : Shared} {a : Addr} {y v : V} {u r : Value} {o : Option V} {A : Around} {E : Value → Shared → Prop}


end

section
variable {X : Cx} {pins : List (Addr × Obj)} {σ : St} {H : Hp} {s : Shared} {a : Addr} {kvs : List (Key × V)} {k : Key} {u : Value} {A : Around} {E : Value → Shared → Prop}
end


/-! ### readings and rules -/



section
variable {X : Cx} {o i e value : Expr} {pos pos' tpos : Pos} {td ty tv : TE}
end


/-! ### displays -/
section
variable {X : Cx} {pos : Pos}
end




/-! ### methods -/


section
variable {X : Cx} {pins : List (Addr × Obj)} {σ : St} {H : Hp} {s : Shared} {a : Addr} {y d : V} {u r : Value} {o : Option V} {A : Around} {E : Value → Shared → Prop}
end

section
variable {X : Cx} {o e f : Expr} {apos cpos : Pos} {td ty tx : TE}
end

/-! ### dict(d): a copy -/
section
variable {X : Cx} {pins : List (Addr × Obj)} {σ : St} {H : Hp} {s : Shared} {a : Addr} {kvs : List (Key × V)} {A : Around} {E : Value → Shared → Prop}
end


section
variable {X : Cx} {pins : List (Addr × Obj)} {σ : St} {H : Hp} {s : Shared} {a : Addr} {y : V} {u : Value} {A : Around} {E : Value → Shared → Prop}
end
end L2

namespace L2
open PySem PySem.Spec PyProof.Rows


section
variable {prog : Program} {w : World} {A : Around} {E : Value → Shared → Prop}


end

section
variable {X : Cx}
end
end L2

namespace L2
open PySem PySem.Spec PyProof.Rows


section
variable {X : Cx} {pins : List (Addr × Obj)} {σ : St} {H : Hp} {s : Shared} {h' : Heap}

/-! ### locking a thing while a statement runs -/
end
section
variable {X : Cx}

/-! ### one iterator just laid -/
end

/-! ### range with a step -/
section
variable {X : Cx} {tg : Expr}
end

/-! ### reversed(list) -/
section
variable {X : Cx} {tg : Expr}
end

/-! ### a str -/

/-! ### a dict's keys: any dict's entries -/
section
variable {prog : Program} {w : World} {A : Around} {E : Value → Shared → Prop} {s : Shared}
end

/-! ### a locked dict -/
section
variable {X : Cx} {pins : List (Addr × Obj)} {σ : St} {H : Hp} {s : Shared} {d : Addr} {o : Obj}
end

section
variable {P : Program} {w : World} {K : PySem.W.Frag} {tg : Expr} {d : Addr} {o : Obj} {es : Array DictEntry} {ep : Nat}
end

/-! ### for k in d, d.keys(), d.values(), d.items() -/
section
variable {X : Cx} {tg e : Expr} {td : TE} {apos cpos : Pos}
end

/-! ### enumerate(list) -/
/-! ### zip(list, list) -/
end L2

section 
namespace Bits
open PySem PyProof.Rows








end Bits
end 

section 
namespace TL
open PySem PySem.Builtin PySem.Builtin.Str PySem.StrLaws


/-! ### the list functions -/




/-! ### the model's split and partition are these -/




/-! ### computing spl and par -/


/-! ### digits -/

/-! ### words: x.split() -/
end TL
end 

namespace L2
open PySem PySem.Spec PyProof.Rows




section
variable {X : Cx} {pins : List (Addr × Obj)} {σ : St} {H : Hp} {s : Shared} {Q : VK}
end

section
variable {X : Cx}





/-! ### of a text alone -/

/-! ### of a text and a text -/

end

section
variable {X : Cx} {o e : Expr} {to te : TE}

end
end L2

namespace L2
open PySem PySem.Spec PyProof.Rows

section
variable {X : Cx}
end

/-! ### slices of a text -/


end L2

namespace Att
open PySem PySem.W PySem.Calls PyProof.Rows

/-! ### the script -/



/-! ### the attachment: holds_open's last premise (the goal 'hc' behind k_head) from a wpAny of the law's body -/



/-! ### rules over ANY heap (no ledger) from facts about the written part K: the library's own take a ledger (News) for what they write -/
section
variable {prog : Program} {w : World} {A : Around} {E : Value → Shared → Prop} {s : Shared} {K : Frag}





/-! the whole heap as the ledger: makes every rule that writes through a ledger a rule over any heap -/

end
end Att

namespace L2
open PySem PySem.Spec PyProof.Rows



end L2

namespace L2
open PySem PySem.Spec PyProof.Rows


end L2

/- THE LAST THEOREM (shape; LID, My.* are yours):
   My.Adr: a structure of the addresses that your layer names (classes, functions); My.Txt K t: a structure (Prop) of the equations over K;
   My.txt_mk : {K} {implicit addresses ..} (e1 : nsIn K mainGlobals "law" = some (some (.ref f))) (e2 : K.lookup f = some ⟨oc, od, .func (fnOf "law" "law" params body scope dV kV doc pm an cdv ct), sl⟩) (e3 : codeIn K cdv "law" = true) .. : ∃ t, My.Txt K t

set_option maxRecDepth 100000 in
set_option maxHeartbeats 0 in
theorem PySem.Challenge.cw_LID_holds : PySem.Challenge.rw_LID.Holds := by
  w_on; o_law; k_head; (case hw => w_witness2)
  k_fill
  refine L2.walk_of (l := PySem.Challenge.rw_LID) (n := 63) (k := 40) (x := "script") (CX := fun w => ..) (sp := fun _ => My.sp_law) rfl (by decide) rfl ⟨rfl, by decide, by decide⟩ (fun w h Y => PySem.W.kIn_of Y) ?F ?S ?C
  case F =>
    intro w mg fa h KX G hmg
    have T : ∃ t, My.Txt (L2.KOf KX) t := by
      dsimp only [L2.KOf]                          -- K must stand as «<heap const> w.params» for k_is
      refine' My.txt_mk ?e1 ?e2 ?e3 ..
      (case e1 => PySem.W.k_is)                    -- in the order: a name -> its address -> its object -> its parts
      (case e2 => PySem.W.k_is)
      ..
    obtain ⟨t, T⟩ := T
    have e0 := hmg.symm.trans (PySem.W.mg_of KX G T.law)
    cases e0                                       -- fa is the law's own address
    exact ⟨_, fun s u => .of_eq rfl, fun base kb nb => My.law_fn T kb nb⟩     -- if «.of_eq rfl» comes too early: refine' ⟨_, ?b, fun base kb nb => My.law_fn T kb nb⟩; exact fun s u => .of_eq rfl
  case S => exact fun w H a ns hl hO hS => ..
  case C => exact ..
(the tactic k_is has no namespace: write k_is) -/

/-! SHORT WORDS over the layer: a def of the text, its body, what a loop and a test want. -/
namespace L2
open PySem PySem.Spec PyProof.Rows

/-! ### the text by places -/
/-- the j-th statement of a class's body -/
def inClass (s : Stmt) (j : Nat) : Stmt := match s with
  | .ClassDef _ _ _ body _ _ _ _ _ _ _ => body.getD j (.Pass ⟨0, 0, 0, 0⟩)
  | _ => .Pass ⟨0, 0, 0, 0⟩
def defArgs (s : Stmt) : Arguments := match s with
  | .FunctionDef _ a _ _ _ _ _ _ _ _ => a
  | _ => { posonlyargs := [], args := [], vararg := none, kwonlyargs := [], kw_defaults := [], kwarg := none, defaults := [] }
def defBody (s : Stmt) : List Stmt := match s with
  | .FunctionDef _ _ b _ _ _ _ _ _ _ => b
  | _ => []
def defScope (s : Stmt) : Scope := match s with
  | .FunctionDef _ _ _ _ _ _ sc _ _ _ => sc
  | _ => { kind := .function, names := [], isGenerator := false, isCoroutine := false }

/-! ### no exception leaves a def -/
abbrev CX0 : CXT := fun _ _ _ _ _ _ => False
abbrev E0 : XK := fun _ _ _ => False
theorem pass0 {X : Cx} : Passes CX0 X E0 := fun _ _ _ _ _ _ _ h => h.elim

/-! ### a def (or method) of the text as it stands behind the top -/
structure Fun (K : PySem.W.Frag) (x qual : Str) (st : Stmt) (f : Addr) (fd : FuncData) : Prop where
  ex : ∃ (oc : Value) (od : Option Addr) (kV doc pm : Value) (an : Option Addr) (cdv ct : Value) (osl : Array (Option Value)),
    fd = PySem.W.fnOf x qual (defArgs st) (defBody st) (defScope st) .none kV doc pm an cdv ct ∧ K.lookup f = some ⟨oc, od, .func fd, osl⟩ ∧ PySem.W.codeIn K cdv qual = true
  kp : PySem.W.keepIn K (.ref f) = true
section
variable {P : Program} {w : World} {K : PySem.W.Frag} {mg : Str → Option Value} {base : Heap}
/-- THE RULE for a def: its body as a term of rules, and the reading of that term -/
theorem Fun.ok {x qual : Str} {st : Stmt} {f : Addr} {fd : FuncData} {N ps : List Str} {k : Nat} {sp : Sp} (F : Fun K x qual st f fd) (S : FnScope N ps (defScope st)) (len : ∀ vs H Q E, sp vs H Q E → vs.length = ps.length)
    (hbody : ∀ (cdv : Value) (A : Around) (outer : List Env) (s : Shared) (H : Hp) (vs : List V) (Q : VK) (E : XK), Room k (A.deeper (envOfC qual (defScope st) s.heap.objs.size f cdv)) → sp vs H Q E →
      ∃ t, PSs (cxOf CX0 P w K mg base N qual (defScope st) f cdv A outer s H E).nox (defBody st) t ∧ t { nx := fun _ H' => Q .non H', rt := Q } (start N vs) H) : FnOk P w K mg base CX0 (k + 1) f fd ps sp := by
  obtain ⟨oc, od, kV, doc, pm, an, cdv, ct, osl, rfl, lk, hcd⟩ := F.ex
  refine fn_of lk hcd S len fun A outer s H vs Q E hr hsp => ?_
  obtain ⟨t, h, q⟩ := hbody cdv A outer s H vs Q E hr hsp
  exact ⟨t, h.nox, q⟩
/-- how its arguments bind (no defaults): h is «fun _ _ _ _ _ _ us hl => match us, hl with | [_, _], _ => rfl», one _ a parameter -/
theorem Fun.binds {x qual : Str} {st : Stmt} {f : Addr} {fd : FuncData} {ps : List Str} (F : Fun K x qual st f fd)
    (h : ∀ (kV doc pm : Value) (an : Option Addr) (cdv ct : Value) (us : List Value), us.length = ps.length → bindArgs (PySem.W.fnOf x qual (defArgs st) (defBody st) (defScope st) .none kV doc pm an cdv ct) ⟨us, []⟩ = pure (ps.zip us)) : Binds K fd ps [] := by
  obtain ⟨oc, od, kV, doc, pm, an, cdv, ct, osl, rfl, lk, hcd⟩ := F.ex
  exact .all (h kV doc pm an cdv ct)
theorem fun_mk {x qual : Str} {st : Stmt} {f : Addr} {oc : Value} {od an : Option Addr} {osl : Array (Option Value)} {kV doc pm cdv ct : Value} (l : K.lookup f = some ⟨oc, od, .func (PySem.W.fnOf x qual (defArgs st) (defBody st) (defScope st) .none kV doc pm an cdv ct), osl⟩)
    (c : PySem.W.codeIn K cdv qual = true) (k : PySem.W.keepIn K (.ref f) = true) : Fun K x qual st f (PySem.W.fnOf x qual (defArgs st) (defBody st) (defScope st) .none kV doc pm an cdv ct) := ⟨⟨oc, od, kV, doc, pm, an, cdv, ct, osl, rfl, l, c⟩, k⟩
end
theorem hu_of {A : Around} {k : Nat} (hr : Room k A) : A.units + 1 < cLine := Nat.lt_of_le_of_lt (Nat.add_le_add_left (by decide : 1 ≤ 64) _) hr.units

/-! ### expressions in short: the name that stands in the i-th slot -/
section
variable {X : Cx}
theorem pv (i : Nat) {x : Str} {pos : Pos} (hN : X.N[i]? = some x := by rfl) (hv : Vis X.env.scope x := by first | exact Or.inl rfl | exact Or.inr (Or.inl rfl) | exact Or.inr (Or.inr rfl)) (hd : (x == ("__debug__" : Str)) = false := by decide)
    (hcd : (x == ("__classdict__" : Str)) = false := by decide) : PE X (.Name x pos) (tVar i) := pe_var hN hv hd hcd
end

/-! ### tests -/
theorem iteF {A B : Prop} (h : B) : if false = true then A else B := by
  rw [if_neg Bool.false_ne_true]
  exact h
theorem iteT {A B : Prop} (h : A) : if true = true then A else B := by
  rw [if_pos rfl]
  exact h
theorem ite2 {c A B : Prop} [Decidable c] (h1 : c → A) (h2 : ¬ c → B) : if c then A else B := by
  by_cases h : c
  · rw [if_pos h]
    exact h1 h
  · rw [if_neg h]
    exact h2 h

/-! ### heaps -/
/-- all that was tracked is as it was -/
def Same (H H' : Hp) : Prop := ∀ b o, H b = some o → H' b = some o
theorem Same.refl (H : Hp) : Same H H := fun _ _ h => h
theorem Same.trans {H H1 H2 : Hp} (a : Same H H1) (b : Same H1 H2) : Same H H2 := fun c o h => b c o (a c o h)
theorem Same.free {H H' : Hp} (e : Same H H') {l : Addr} (h : H' l = Option.none) : H l = Option.none := by
  cases q : H l with
  | none => rfl
  | some o =>
    rw [e l o q] at h
    cases h
theorem Same.seq {K : PySem.W.Frag} {H H' : Hp} {a : Addr} {xs : List V} (e : Same H H') (h : SqL K H a xs) : SqL K H' a xs := by
  rcases h with (h | ⟨o, h⟩) | h
  · exact .inl (.inl (e _ _ h))
  · exact .inl (.inr ⟨o, e _ _ h⟩)
  · exact .inr h

/-! ### a dict's pairs: keys that differ -/
section
variable {κ : Type} [DecidableEq κ]
end
/-! ### lists -/
theorem at_of {xs : List V} {z : Int} {j : Nat} {v : V} (e : z = (j : Int)) (h : xs[j]? = some v) : atI xs z = some v := by
  rw [e]
  exact atI_nat h
end L2

section
set_option Elab.async false
set_option linter.all false
set_option maxRecDepth 100000
set_option maxHeartbeats 2000000
namespace L2
open PySem PySem.Spec PyProof.Rows
open PySem.W (WData Codec OpenSpec Well WellAll ReadsW ReadsAllW)
/-! ### an answer as data -/
mutual
/-- x stands for the datum d, lists and tuples all the way -/
inductive Dw (K : PySem.W.Frag) (H : Hp) : V → WData → Prop
  | non : Dw K H .non .none
  | bl (b : Bool) : Dw K H (.bl b) (.bool b)
  | int (i : Int) : Dw K H (.int i) (.int i)
  | str (x : Str) : Dw K H (.str x) (.str x)
  | byt (b : Array UInt8) : Dw K H (.byt b) (.bytes b.toList)
  | lst {a : Addr} {xs : List V} {ds : List WData} : SqL K H a xs → DwAll K H xs ds → Dw K H (.ref a) (.list ds)
  | tup {a : Addr} {xs : List V} {ds : List WData} : SqT K H a xs → DwAll K H xs ds → Dw K H (.ref a) (.tuple ds)
inductive DwAll (K : PySem.W.Frag) (H : Hp) : List V → List WData → Prop
  | nil : DwAll K H [] []
  | cons {v : V} {vs : List V} {d : WData} {ds : List WData} : Dw K H v d → DwAll K H vs ds → DwAll K H (v :: vs) (d :: ds)
end
theorem dw_ints {K : PySem.W.Frag} {H : Hp} : ∀ ns : List Int, DwAll K H (ns.map V.int) (ns.map WData.int)
  | [] => .nil
  | n :: r => .cons (.int n) (dw_ints r)
theorem ints_dw {K : PySem.W.Frag} {H : Hp} : ∀ (ns : List Int) (xs : List V), DwAll K H xs (ns.map WData.int) → xs = ns.map V.int
  | [], xs, h => by
    cases h
    rfl
  | n :: r, xs, h => by
    cases h with
    | cons h1 h2 =>
      cases h1
      rw [ints_dw r _ h2] <;> rfl
section
variable {P : Program} {w : World} {K : PySem.W.Frag} {H : Hp} {h : Heap} {R : PySem.W.WRecords} {cl : Str → Option Addr}
theorem sqL_at {a : Addr} {xs : List V} (hok : HOk P w H h) (KX : K.In h) (q : SqL K H a xs) : ∃ (its : List Value) (o : Obj) (n : Nat), Vals xs its ∧ h.get? a = some o ∧ o.cls = .type "list" ∧ o.data = .seq its.toArray n := by
  rcases q with q | ⟨o, its, n, e, hc, _, hd, _, hv⟩
  · obtain ⟨_, its, n, hv, e⟩ := (show ObjOk P w H h a (.lst xs) from q.ok hok)
    exact ⟨its, _, n, hv, e, rfl, rfl⟩
  · exact ⟨its.toList, o, n, hv, KX _ _ e, hc, by simp [hd]⟩
theorem sqT_at {a : Addr} {xs : List V} (hok : HOk P w H h) (KX : K.In h) (q : SqT K H a xs) : ∃ (its : List Value) (o : Obj) (n : Nat), Vals xs its ∧ h.get? a = some o ∧ o.cls = .type "tuple" ∧ o.data = .seq its.toArray n := by
  rcases q with q | ⟨o, its, n, e, hc, hd, _, hv⟩
  · obtain ⟨_, its, hv, o, e, hc, n, hd⟩ := (show ObjOk P w H h a (.tup xs) from q.ok hok)
    exact ⟨its, o, n, hv, e, hc, hd⟩
  · exact ⟨its.toList, o, n, hv, KX _ _ e, hc, by simp [hd]⟩
mutual
theorem Dw.reads (hok : HOk P w H h) (KX : K.In h) : ∀ (d : WData) (v : V) (u : Value), Dw K H v d → RelV v u → ∃ as, ReadsW R cl h u d as
  | .none, _, _, x, r => by
    cases x
    cases r
    exact ⟨_, ReadsW.none⟩
  | .bool b, _, _, x, r => by
    cases x
    cases r
    exact ⟨_, ReadsW.bool b⟩
  | .int i, _, _, x, r => by
    cases x
    obtain ⟨t, rfl⟩ := r
    exact ⟨_, ReadsW.int i t⟩
  | .str s, _, _, x, r => by
    cases x
    obtain ⟨t, rfl⟩ := r
    exact ⟨_, ReadsW.str s t⟩
  | .bytes b, _, _, x, r => by
    cases x
    obtain ⟨t, rfl⟩ := r
    exact ⟨_, ReadsW.bytes _ t⟩
  | .list ds, _, _, x, r => by
    cases x with
    | lst hs ha =>
      cases r
      obtain ⟨its, o, n, rv, ho, hc, hd⟩ := sqL_at hok KX hs
      obtain ⟨as, hr⟩ := Dw.readsAll hok KX ds _ its ha rv
      exact ⟨_, ReadsW.list ho hc hd hr⟩
  | .tuple ds, _, _, x, r => by
    cases x with
    | tup hs ha =>
      cases r
      obtain ⟨its, o, n, rv, ho, hc, hd⟩ := sqT_at hok KX hs
      obtain ⟨as, hr⟩ := Dw.readsAll hok KX ds _ its ha rv
      exact ⟨_, ReadsW.tuple ho hc hd hr⟩
  | .float _, _, _, x, _ => by cases x
  | .dict _, _, _, x, _ => by cases x
  | .bytearray _, _, _, x, _ => by cases x
  | .set _, _, _, x, _ => by cases x
  | .frozenset _, _, _, x, _ => by cases x
  | .obj _ _, _, _, x, _ => by cases x
theorem Dw.readsAll (hok : HOk P w H h) (KX : K.In h) : ∀ (ds : List WData) (vs : List V) (us : List Value), DwAll K H vs ds → Vals vs us → ∃ as, ReadsAllW R cl h us ds as
  | [], _, _, x, r => by
    cases x
    cases r
    exact ⟨_, ReadsAllW.nil⟩
  | d :: ds, _, _, x, r => by
    cases x with
    | cons h1 h2 =>
      cases r with
      | cons r1 r2 =>
        obtain ⟨as, q1⟩ := Dw.reads hok KX d _ _ h1 r1
        obtain ⟨bs, q2⟩ := Dw.readsAll hok KX ds _ _ h2 r2
        exact ⟨_, ReadsAllW.cons q1 q2⟩
end
end
/-! ### the arguments -/
mutual
/-- data that a codec tells -/
def plW : WData → Bool
  | .none => true
  | .bool _ => true
  | .int _ => true
  | .str _ => true
  | .bytes _ => true
  | .list xs => plWs xs
  | .tuple xs => plWs xs
  | _ => false
def plWs : List WData → Bool
  | [] => true
  | x :: r => plW x && plWs r
end
theorem plWs_map {α : Type} {f : α → WData} (h : ∀ a, plW (f a) = true) : ∀ l : List α, plWs (l.map f) = true
  | [] => rfl
  | x :: r => by
    show (plW (f x) && plWs (r.map f)) = true
    rw [h x, plWs_map h r] <;> rfl
theorem pl_enc : ∀ (c : Codec) (a : c.denote), plW (c.enc a) = true
  | .unit, _ => rfl
  | .bool, _ => rfl
  | .int _ _, _ => rfl
  | .nat _ _, _ => rfl
  | .u8, _ => rfl
  | .bytes _ _, _ => rfl
  | .text _ _ _ _, _ => rfl
  | .list _ _ c, a => plWs_map (fun x => pl_enc c x) a
  | .pair c d, a => by
    show (plW (c.enc a.1) && (plW (d.enc a.2) && true)) = true
    rw [pl_enc c a.1, pl_enc d a.2] <;> rfl
  | .triple c d e, a => by
    show (plW (c.enc a.1) && (plW (d.enc a.2.1) && (plW (e.enc a.2.2) && true))) = true
    rw [pl_enc c a.1, pl_enc d a.2.1, pl_enc e a.2.2] <;> rfl
  | .option c, none => rfl
  | .option c, some x => pl_enc c x
theorem pl_encAll : ∀ (cs : List Codec) (a : Codec.denoteAll cs), plWs (Codec.encAll cs a) = true
  | [], _ => rfl
  | c :: cs, a => by
    show (plW (c.enc a.1) && plWs (Codec.encAll cs a.2)) = true
    rw [pl_enc c a.1, pl_encAll cs a.2] <;> rfl
theorem weight_mem : ∀ {xs : List WData} {d : WData}, d ∈ xs → d.weight ≤ WData.weightAll xs
  | [], d, h => absurd h (by simp)
  | x :: r, d, h => by
    show d.weight ≤ x.weight + 1 + WData.weightAll r
    rcases List.mem_cons.mp h with e | m
    · rw [e]
      omega
    · have z := weight_mem m
      omega
def toV : Value → V
  | .none => .non
  | .bool b => .bl b
  | .int i _ => .int i
  | .str x _ => .str x
  | .bytes b _ => .byt b
  | .ref a => .ref a
  | _ => .non
/-- a value of the arguments, its objects among A -/
def OkU (A : List Addr) : Value → Prop
  | .none => True
  | .bool _ => True
  | .int _ _ => True
  | .str _ _ => True
  | .bytes _ _ => True
  | .ref a => a ∈ A
  | _ => False
theorem OkU.mono {A B : List Addr} (h : ∀ a ∈ A, a ∈ B) : ∀ {u : Value}, OkU A u → OkU B u := fun {u} x => by
  cases u with
  | ref a => exact h a x
  | none => trivial
  | bool b => trivial
  | int i t => trivial
  | str s t => trivial
  | bytes b t => trivial
  | _ => exact False.elim x
theorem relV_toV {A : List Addr} {u : Value} (x : OkU A u) : RelV (toV u) u := by
  cases u with
  | ref a => rfl
  | none => rfl
  | bool b => rfl
  | int i t => exact ⟨t, rfl⟩
  | str s t => exact ⟨t, rfl⟩
  | bytes b t => exact ⟨t, rfl⟩
  | _ => exact False.elim x
theorem vals_toV {A : List Addr} : ∀ {vs : List Value}, (∀ u ∈ vs, OkU A u) → Vals (vs.map toV) vs
  | [], _ => .nil
  | u :: r, h => .cons (relV_toV (h u (List.mem_cons_self ..))) (vals_toV fun x hx => h x (List.mem_cons_of_mem _ hx))
/-- an object of the arguments -/
def ArgOb (h : Heap) (A : List Addr) (a : Addr) : Prop := ∃ vs : List Value, vs.length ≤ sizeLine ∧ (∀ u ∈ vs, OkU A u) ∧
  (h.get? a = some { cls := .type "list", data := .seq vs.toArray } ∨ h.get? a = some { cls := .type "tuple", data := .seq vs.toArray })
theorem ArgOb.mono {h : Heap} {A B : List Addr} {a : Addr} (k : ∀ a ∈ A, a ∈ B) (x : ArgOb h A a) : ArgOb h B a := by
  obtain ⟨vs, h1, h2, h3⟩ := x
  exact ⟨vs, h1, fun u hu => (h2 u hu).mono k, h3⟩
theorem wellAll_len {P : Params} {h : Heap} : ∀ {vs : List Value} {ds : List WData}, WellAll P h vs ds → vs.length = ds.length
  | _, _, .nil => rfl
  | _, _, .cons _ b => by
    show _ + 1 = _ + 1
    rw [wellAll_len b]
theorem well_list {P : Params} {h : Heap} {v : Value} {ds : List WData} (x : Well P h v (.list ds)) : ∃ (a : Addr) (vs : List Value), v = .ref a ∧ h.get? a = some { cls := .type "list", data := .seq vs.toArray } ∧ WellAll P h vs ds := by
  cases x with
  | list ho hall => exact ⟨_, _, rfl, ho, hall⟩
theorem well_tuple {P : Params} {h : Heap} {v : Value} {ds : List WData} (x : Well P h v (.tuple ds)) : ∃ (a : Addr) (vs : List Value), v = .ref a ∧ h.get? a = some { cls := .type "tuple", data := .seq vs.toArray } ∧ WellAll P h vs ds := by
  cases x with
  | tuple ho hall => exact ⟨_, _, rfl, ho, hall⟩
theorem well_cons {P : Params} {h : Heap} {us : List Value} {d : WData} {ds : List WData} (x : WellAll P h us (d :: ds)) : ∃ (v : Value) (vs : List Value), us = v :: vs ∧ Well P h v d ∧ WellAll P h vs ds := by
  cases x with
  | cons a b => exact ⟨_, _, rfl, a, b⟩
theorem line_of {n : Nat} (h : n ≤ 1048576) : n ≤ sizeLine := Nat.le_trans h (by decide)
section
variable {P : Params} {h : Heap}
mutual
theorem area_one : ∀ (d : WData) (v : Value), Well P h v d → plW d = true → d.weight ≤ 1048576 → ∃ A : List Addr, OkU A v ∧ ∀ a ∈ A, ArgOb h A a
  | .none, _, x, _, _ => by
    cases x
    exact ⟨[], trivial, fun a m => absurd m (by simp)⟩
  | .bool b, _, x, _, _ => by
    cases x
    exact ⟨[], trivial, fun a m => absurd m (by simp)⟩
  | .int i, _, x, _, _ => by
    cases x
    exact ⟨[], trivial, fun a m => absurd m (by simp)⟩
  | .str s, _, x, _, _ => by
    cases x
    exact ⟨[], trivial, fun a m => absurd m (by simp)⟩
  | .bytes b, _, x, _, _ => by
    cases x
    exact ⟨[], trivial, fun a m => absurd m (by simp)⟩
  | .list ds, _, x, p, z => by
    obtain ⟨a, vs, rfl, ho, hall⟩ := well_list x
    have z2 : WData.weightAll ds ≤ 1048576 := z
    obtain ⟨A, h1, h2⟩ := area_all ds _ hall p fun d hd => Nat.le_trans (weight_mem hd) z2
    have k : ∀ b ∈ A, b ∈ a :: A := fun b hb => List.mem_cons_of_mem _ hb
    refine ⟨a :: A, List.mem_cons_self .., fun b hb => ?_⟩
    rcases List.mem_cons.mp hb with e | m
    · rw [e]
      exact ⟨vs, line_of (by rw [wellAll_len hall]; exact Nat.le_trans (PySem.W.length_le_weightAllW ds) z2), fun u hu => (h1 u hu).mono k, .inl ho⟩
    · exact (h2 b m).mono k
  | .tuple ds, _, x, p, z => by
    obtain ⟨a, vs, rfl, ho, hall⟩ := well_tuple x
    have z2 : WData.weightAll ds ≤ 1048576 := z
    obtain ⟨A, h1, h2⟩ := area_all ds _ hall p fun d hd => Nat.le_trans (weight_mem hd) z2
    have k : ∀ b ∈ A, b ∈ a :: A := fun b hb => List.mem_cons_of_mem _ hb
    refine ⟨a :: A, List.mem_cons_self .., fun b hb => ?_⟩
    rcases List.mem_cons.mp hb with e | m
    · rw [e]
      exact ⟨vs, line_of (by rw [wellAll_len hall]; exact Nat.le_trans (PySem.W.length_le_weightAllW ds) z2), fun u hu => (h1 u hu).mono k, .inr ho⟩
    · exact (h2 b m).mono k
  | .float _, _, _, p, _ => Bool.noConfusion (show false = true from p)
  | .dict _, _, _, p, _ => Bool.noConfusion (show false = true from p)
  | .bytearray _, _, _, p, _ => Bool.noConfusion (show false = true from p)
  | .set _, _, _, p, _ => Bool.noConfusion (show false = true from p)
  | .frozenset _, _, _, p, _ => Bool.noConfusion (show false = true from p)
  | .obj _ _, _, _, p, _ => Bool.noConfusion (show false = true from p)
theorem area_all : ∀ (ds : List WData) (vs : List Value), WellAll P h vs ds → plWs ds = true → (∀ d ∈ ds, d.weight ≤ 1048576) → ∃ A : List Addr, (∀ u ∈ vs, OkU A u) ∧ ∀ a ∈ A, ArgOb h A a
  | [], _, x, _, _ => by
    cases x
    exact ⟨[], fun u m => absurd m (by simp), fun a m => absurd m (by simp)⟩
  | d :: ds, _, x, p, z => by
    obtain ⟨v, vs, rfl, x1, x2⟩ := well_cons x
    have q : plW d = true ∧ plWs ds = true := Bool.and_eq_true_iff.mp p
    obtain ⟨A, a1, a2⟩ := area_one d v x1 q.1 (z d (List.mem_cons_self ..))
    obtain ⟨B, b1, b2⟩ := area_all ds vs x2 q.2 fun e he => z e (List.mem_cons_of_mem _ he)
    have kA : ∀ b ∈ A, b ∈ A ++ B := fun b hb => List.mem_append.mpr (.inl hb)
    have kB : ∀ b ∈ B, b ∈ A ++ B := fun b hb => List.mem_append.mpr (.inr hb)
    refine ⟨A ++ B, fun u hu => ?_, fun b hb => ?_⟩
    · rcases List.mem_cons.mp hu with e | m
      · rw [e]
        exact a1.mono kA
      · exact (b1 u m).mono kB
    · rcases List.mem_append.mp hb with m | m
      · exact (a2 b m).mono kA
      · exact (b2 b m).mono kB
end
end
/-- what is tracked of an argument's object -/
def hoOf (o : Obj) : Option HO := match o.data with
  | .seq vs _ => if (o.cls == Value.type "list") = true then some (.frz o (.lst (vs.toList.map toV))) else some (.frz o (.tup (vs.toList.map toV)))
  | _ => none
def argH (K : PySem.W.Frag) (h : Heap) (A : List Addr) : Hp := fun b => if b ∈ A then (if (K.lookup b).isNone = true then (h.get? b).bind hoOf else none) else none
/-- nothing is tracked but what is known to the object -/
def OnlyF (H : Hp) : Prop := ∀ b, H b = none ∨ ∃ o u, H b = some (.frz o u)
theorem hoOf_lst (vs : List Value) : hoOf { cls := .type "list", data := .seq vs.toArray } = some (.frz { cls := .type "list", data := .seq vs.toArray } (.lst (vs.map toV))) := by
  show (if (Value.type "list" == Value.type "list") = true then some (HO.frz { cls := .type "list", data := .seq vs.toArray } (.lst (vs.toArray.toList.map toV))) else some (HO.frz { cls := .type "list", data := .seq vs.toArray } (.tup (vs.toArray.toList.map toV)))) = _
  rw [if_pos (beq_self_eq_true _)]
theorem hoOf_tup (vs : List Value) : hoOf { cls := .type "tuple", data := .seq vs.toArray } = some (.frz { cls := .type "tuple", data := .seq vs.toArray } (.tup (vs.map toV))) := by
  show (if (Value.type "tuple" == Value.type "list") = true then some (HO.frz { cls := .type "tuple", data := .seq vs.toArray } (.lst (vs.toArray.toList.map toV))) else some (HO.frz { cls := .type "tuple", data := .seq vs.toArray } (.tup (vs.toArray.toList.map toV)))) = _
  rw [if_neg (by decide)]
section
variable {P : Program} {w : World} {K : PySem.W.Frag} {h : Heap} {A : List Addr}
theorem argH_at {b : Addr} {o : Obj} (hb : b ∈ A) (hk : K.lookup b = none) (e : h.get? b = some o) : argH K h A b = hoOf o := by
  unfold argH
  rw [if_pos hb, hk, if_pos (show (none : Option Obj).isNone = true from rfl), e] <;> rfl
theorem of_argH {b : Addr} {u : HO} (q : argH K h A b = some u) : b ∈ A ∧ K.lookup b = none := by
  unfold argH at q
  by_cases hb : b ∈ A
  · rw [if_pos hb] at q
    cases hk : K.lookup b with
    | none => exact ⟨hb, rfl⟩
    | some o =>
      rw [hk, if_neg (by simp)] at q
      cases q
  · rw [if_neg hb] at q
    cases q
/-- what stands tracked -/
theorem argH_is (ar : ∀ a ∈ A, ArgOb h A a) {b : Addr} {u : HO} (q : argH K h A b = some u) : K.lookup b = none ∧ ∃ vs : List Value, vs.length ≤ sizeLine ∧ (∀ u ∈ vs, OkU A u) ∧
    ((h.get? b = some { cls := .type "list", data := .seq vs.toArray } ∧ u = .frz { cls := .type "list", data := .seq vs.toArray } (.lst (vs.map toV))) ∨
     (h.get? b = some { cls := .type "tuple", data := .seq vs.toArray } ∧ u = .frz { cls := .type "tuple", data := .seq vs.toArray } (.tup (vs.map toV)))) := by
  obtain ⟨hb, hk⟩ := of_argH q
  obtain ⟨vs, h1, h2, h3⟩ := ar b hb
  refine ⟨hk, vs, h1, h2, ?_⟩
  rcases h3 with e | e
  · rw [argH_at hb hk e, hoOf_lst] at q
    exact .inl ⟨e, (Option.some.inj q).symm⟩
  · rw [argH_at hb hk e, hoOf_tup] at q
    exact .inr ⟨e, (Option.some.inj q).symm⟩
theorem argH_only (ar : ∀ a ∈ A, ArgOb h A a) : OnlyF (argH K h A) := fun b => by
  cases q : argH K h A b with
  | none => exact .inl rfl
  | some u =>
    obtain ⟨_, vs, _, _, ⟨_, e⟩ | ⟨_, e⟩⟩ := argH_is ar q
    · exact .inr ⟨_, _, by rw [e]⟩
    · exact .inr ⟨_, _, by rw [e]⟩
theorem argH_ok (ar : ∀ a ∈ A, ArgOb h A a) : HOk P w (argH K h A) h := fun b u q => by
  obtain ⟨_, vs, h1, h2, ⟨e, rfl⟩ | ⟨e, rfl⟩⟩ := argH_is ar q
  · exact ⟨e, by rw [List.length_map]; exact h1, vs, _, vals_toV h2, e⟩
  · exact ⟨e, by rw [List.length_map]; exact h1, vs, vals_toV h2, _, e, rfl, _, rfl⟩
theorem seq_inj {c c' : Value} {vs us : List Value} (e : (some { cls := c, data := .seq vs.toArray } : Option Obj) = some { cls := c', data := .seq us.toArray }) : c = c' ∧ vs = us := by
  have e1 := Option.some.inj e
  have e2 : c = c' := congrArg Obj.cls e1
  have e3 : Data.seq vs.toArray = Data.seq us.toArray := congrArg Obj.data e1
  injection e3 with e4
  refine ⟨e2, ?_⟩
  have e5 := congrArg Array.toList e4
  simpa using e5
/-- a list argument -/
theorem argL (KX : K.In h) (ar : ∀ a ∈ A, ArgOb h A a) {a : Addr} {vs : List Value} (ha : a ∈ A) (e : h.get? a = some { cls := .type "list", data := .seq vs.toArray }) : (∀ u ∈ vs, OkU A u) ∧ SqL K (argH K h A) a (vs.map toV) := by
  obtain ⟨us, h1, h2, h3⟩ := ar a ha
  have hu : us = vs := by
    rcases h3 with q | q
    · rw [e] at q
      exact (seq_inj q).2.symm
    · rw [e] at q
      exact absurd (Value.type.inj (seq_inj q).1) (by decide)
  subst hu
  refine ⟨h2, ?_⟩
  cases hk : K.lookup a with
  | none => exact .inl (.inr ⟨_, by rw [argH_at ha hk e, hoOf_lst]⟩)
  | some o =>
    have e2 := KX a o hk
    rw [e] at e2
    obtain rfl := Option.some.inj e2
    exact .inr ⟨_, us.toArray, _, hk, rfl, rfl, rfl, by rw [List.size_toArray]; exact h1, by simpa using vals_toV h2⟩
theorem argT (KX : K.In h) (ar : ∀ a ∈ A, ArgOb h A a) {a : Addr} {vs : List Value} (ha : a ∈ A) (e : h.get? a = some { cls := .type "tuple", data := .seq vs.toArray }) : (∀ u ∈ vs, OkU A u) ∧ SqT K (argH K h A) a (vs.map toV) := by
  obtain ⟨us, h1, h2, h3⟩ := ar a ha
  have hu : us = vs := by
    rcases h3 with q | q
    · rw [e] at q
      exact absurd (Value.type.inj (seq_inj q).1) (by decide)
    · rw [e] at q
      exact (seq_inj q).2.symm
  subst hu
  refine ⟨h2, ?_⟩
  cases hk : K.lookup a with
  | none => exact .inl (.inr ⟨_, by rw [argH_at ha hk e, hoOf_tup]⟩)
  | some o =>
    have e2 := KX a o hk
    rw [e] at e2
    obtain rfl := Option.some.inj e2
    exact .inr ⟨_, us.toArray, _, hk, rfl, rfl, by rw [List.size_toArray]; exact h1, by simpa using vals_toV h2⟩
mutual
theorem dw_one {Pm : Params} (KX : K.In h) (ar : ∀ a ∈ A, ArgOb h A a) : ∀ (d : WData) (v : Value), Well Pm h v d → plW d = true → OkU A v → Dw K (argH K h A) (toV v) d
  | .none, _, x, _, _ => by
    cases x
    exact .non
  | .bool b, _, x, _, _ => by
    cases x
    exact .bl b
  | .int i, _, x, _, _ => by
    cases x
    exact .int i
  | .str s, _, x, _, _ => by
    cases x
    exact .str s
  | .bytes b, _, x, _, _ => by
    cases x
    have z := Dw.byt (K := K) (H := argH K h A) b.toArray
    exact z
  | .list ds, _, x, p, hu => by
    obtain ⟨a, vs, rfl, ho, hall⟩ := well_list x
    obtain ⟨h2, hs⟩ := argL KX ar hu ho
    exact .lst hs (dw_all KX ar ds _ hall p h2)
  | .tuple ds, _, x, p, hu => by
    obtain ⟨a, vs, rfl, ho, hall⟩ := well_tuple x
    obtain ⟨h2, hs⟩ := argT KX ar hu ho
    exact .tup hs (dw_all KX ar ds _ hall p h2)
  | .float _, _, _, p, _ => Bool.noConfusion (show false = true from p)
  | .dict _, _, _, p, _ => Bool.noConfusion (show false = true from p)
  | .bytearray _, _, _, p, _ => Bool.noConfusion (show false = true from p)
  | .set _, _, _, p, _ => Bool.noConfusion (show false = true from p)
  | .frozenset _, _, _, p, _ => Bool.noConfusion (show false = true from p)
  | .obj _ _, _, _, p, _ => Bool.noConfusion (show false = true from p)
theorem dw_all {Pm : Params} (KX : K.In h) (ar : ∀ a ∈ A, ArgOb h A a) : ∀ (ds : List WData) (vs : List Value), WellAll Pm h vs ds → plWs ds = true → (∀ u ∈ vs, OkU A u) → DwAll K (argH K h A) (vs.map toV) ds
  | [], _, x, _, _ => by
    cases x
    exact .nil
  | d :: ds, _, x, p, hu => by
    obtain ⟨v, vs, rfl, x1, x2⟩ := well_cons x
    have q : plW d = true ∧ plWs ds = true := Bool.and_eq_true_iff.mp p
    exact .cons (dw_one KX ar d v x1 q.1 (hu _ (List.mem_cons_self ..))) (dw_all KX ar ds vs x2 q.2 fun u m => hu u (List.mem_cons_of_mem _ m))
end
end
/-! ### the call -/
theorem spec_call {P : Program} {w : World} {K : PySem.W.Frag} {mg mb : Str → Option Value} {CX : CXT} {k : Nat} {fa : Addr} {fd : FuncData} {ps : List Str} {sp : Sp} {s₁ : Shared} {vals : List Value} {ds : List WData} {R : PySem.W.WRecords} {cl : Str → Option Addr} {d0 : WData}
    (KX : K.In s₁.heap) (hns : s₁.heap.Ns mainGlobals mg) (hb : s₁.heap.Ns builtinsNs mb) (hbb : ∀ x : Str, x ≠ "__name__" → mb x = bootBuiltins x) (hlim : s₁.heap.NoLimit) (hg : s₁.gens = #[])
    (hwl : WellAll w.params s₁.heap vals ds) (hpl : plWs ds = true) (hwt : ∀ d ∈ ds, d.weight ≤ 1048576) (hr : Room k callerA)
    (F : ∀ base : Heap, K.In base → base.Ns mainGlobals mg → FnOk P w K mg base CX k fa fd ps sp) (hbind : ∀ (s : Shared) (us : List Value), us.length = ps.length → BindsTo s fd ⟨us, []⟩ (ps.zip us)) (hlen : ds.length = ps.length)
    (hsp : ∀ (H : Hp) (xs : List V), OnlyF H → DwAll K H xs ds → sp xs H (fun v H' => Dw K H' v d0) fun _ _ _ => False)
    (hCX : ∀ H e s', CX [] H s₁ (fun _ _ _ => False) e s' → False) :
    codeAny (model P w) callerA (.call (.ref fa) ⟨vals, []⟩) (fun r s' => ∃ u as, r = .ok (.ret u) ∧ ReadsW R cl s'.heap u d0 as ∧ OldK s₁.heap s'.heap ∧ s'.os = s₁.os ∧ AllBare s'.gens) s₁ := by
  obtain ⟨A, ho, ar⟩ := area_all ds vals hwl hpl hwt
  have hO : OnlyF (argH K s₁.heap A) := argH_only ar
  have hok : HOk P w (argH K s₁.heap A) s₁.heap := argH_ok ar
  have hS := dw_all KX ar ds vals hwl hpl ho
  have hV := vals_toV ho
  have hK : ∀ b u, argH K s₁.heap A b = some u → K.lookup b = none := fun b u q => (argH_is ar q).1
  have noA : ∀ {b : Addr} {o : Obj} {es : Array DictEntry} {ep : Nat}, s₁.heap.get? b = some o → o.data = .dict es ep → argH K s₁.heap A b = none := fun {b o es ep} e d => by
    cases q : argH K s₁.heap A b with
    | none => rfl
    | some u =>
      obtain ⟨_, vs, _, _, ⟨e2, _⟩ | ⟨e2, _⟩⟩ := argH_is ar q
      · rw [e2] at e
        cases e
        have d' : Data.seq vs.toArray _ = Data.dict es ep := d
        cases d'
      · rw [e2] at e
        cases e
        have d' : Data.seq vs.toArray _ = Data.dict es ep := d
        cases d'
  generalize argH K s₁.heap A = H at hO hok hS hK noA
  have base_of : ∀ {b : Addr} {o : Obj}, s₁.heap.get? b = some o → H b = none → (hidT s₁.heap H).get? b = some o := fun e n => hidT_get e n
  have nsK : ∀ {b : Addr} {m : Str → Option Value}, s₁.heap.Ns b m → (hidT s₁.heap H).Ns b m := fun {b m} ⟨o, es, ep, e, d, r⟩ => ⟨o, es, ep, base_of e (noA e d), d, r⟩
  have nK : ∀ b o, K.lookup b = some o → H b = none := fun b o e => by
    cases q : H b with
    | none => rfl
    | some u =>
      rw [hK b u q] at e
      cases e
  have hKb : K.In (hidT s₁.heap H) := fun b o e => base_of (KX b o e) (nK b o e)
  have hM : Mod K mg (hidT s₁.heap H) := ⟨hKb, nsK hns, ⟨mb, nsK hb, hbb⟩, let ⟨mc, h1, h2⟩ := hlim; ⟨mc, nsK h1, h2⟩⟩
  have e0 : Env0 P w K mg (hidT s₁.heap H) callerA [] s₁ H := ⟨rfl, hM, fun b o e => of_hidT e, Nat.le_of_eq (hidT_size _ _), trivial, fun b hb => absurd (show b ∈ ([] : List Addr) from hb) (by simp), hok, .of_eq hg⟩
  have hl : vals.length = ps.length := by rw [wellAll_len hwl]; exact hlen
  refine codeAny_mono ((F _ hKb (nsK hns)).run callerA [] s₁ H ⟨vals, []⟩ vals (vals.map toV) _ _ hr e0 (hbind s₁ vals hl) hV (hsp H _ hO hS)) fun r s' x => ?_
  cases r with
  | error e => exact (hCX H e s' x).elim
  | ok fl =>
    cases fl with
    | next => exact False.elim x
    | brk => exact False.elim x
    | cont => exact False.elim x
    | ret u =>
      obtain ⟨v, H', os, bare, un, hok', r', q⟩ := x
      have kept : ∀ b o, s₁.heap.get? b = some o → s'.heap.get? b = some o := fun b o e => by
        cases q2 : H b with
        | none => exact un.keep b o e q2 (by intro z; exact absurd (show b ∈ ([] : List Addr) from z) (by simp)) (by simp)
        | some u2 =>
          rcases hO b with z | ⟨ob, u3, z⟩
          · rw [q2] at z
            cases z
          · have z2 := un.frzs b ob _ z
            obtain ⟨e1, _⟩ := hok b _ z
            obtain ⟨e2, _⟩ := hok' b _ z2
            rw [e] at e1
            cases e1
            exact e2
      have KX' : K.In s'.heap := fun b o e => kept b o (KX b o e)
      obtain ⟨as, hrd⟩ := Dw.reads (R := R) (cl := cl) hok' KX' d0 v u q r'
      exact ⟨u, as, rfl, hrd, OldK.of_keep kept, os, bare⟩
/-! ### the row -/
theorem layable_weight {ds : List WData} (h : WData.layableAll ds = true) : ∀ d ∈ ds, d.weight ≤ 1048576 := fun d hd =>
  (PySem.W.layableW_iff.mp (List.all_eq_true.mp h d hd)).2.2
theorem encAll_len : ∀ (cs : List Codec) (a : Codec.denoteAll cs), (Codec.encAll cs a).length = cs.length
  | [], _ => rfl
  | c :: cs, a => by
    show (Codec.encAll cs a.2).length + 1 = cs.length + 1
    rw [encAll_len cs a.2]
/-- the goal that k_headS leaves (case hc), from the promise of the row's def: whatever the arguments that the codecs let and the row asks for, the def gives what stands for enc (f ..) -/
theorem walk_spec {r : OpenSpec} {k : Nat} {q : Program} {loose : List Str} {XP : (Str → Option Value) → Heap → Prop} {YP : World → Heap → Prop} {d : DefRec} {K : Params → PySem.W.Frag} {CX : World → CXT} {ps : List Str} {sp : World → Sp}
    (hwell : r.wellSaid = true) (hdf : d.params.defaults = []) (hlen : r.args.length = ps.length) (hr : Room k callerA)
    (hY : ∀ (w : World) (h : Heap), YP w h → (K w.params).In h)
    (F : ∀ (w : World) (mg : Str → Option Value) (fa : Addr) (h : Heap), YP w h → (K w.params).In h → h.Ns mainGlobals mg → mg d.name = some (.ref fa) →
      ∃ fd : FuncData, (∀ (s : Shared) (us : List Value), us.length = ps.length → BindsTo s fd ⟨us, []⟩ (ps.zip us)) ∧
        ∀ base : Heap, (K w.params).In base → base.Ns mainGlobals mg → FnOk r.prog w (K w.params) mg base (CX w) k fa fd ps (sp w))
    (hsp : ∀ (w : World) (H : Hp) (xs : List V) (a : Codec.denoteAll r.args), OnlyF H → Codec.withinAll r.args a = true → Codec.app r.args r.asked a = true → DwAll (K w.params) H xs (Codec.encAll r.args a) →
      sp w xs H (fun v H' => Dw (K w.params) H' v (r.ret.enc (Codec.app r.args r.f a))) fun _ _ _ => False)
    (hCX : ∀ (w : World) (H : Hp) (s : Shared) (e : Value) (s' : Shared), CX w [] H s (fun _ _ _ => False) e s' → False) :
    PySem.W.WalkOS q loose XP YP r d [] (fun f vs => PySem.call f vs) := by
  intro w s_0 s₁ mg mb G Y fa o pm cd doc dV kV ho hd hcd hD hmg hg args vals as hpre hlay hrd hwl hlo
  obtain ⟨a, e1, e2⟩ := PySem.W.os_pre_some hpre
  obtain ⟨e3, hwi⟩ := Codec.encAll_of_decAll r.args args a e1
  subst e3
  have KX := hY w _ Y
  obtain ⟨fd, hb, hF⟩ := F w mg fa _ Y KX G.T.g hmg
  refine PySem.W.enter_call (codeAny_mono (spec_call (R := []) (cl := classAt s_0.heap) (d0 := r.ret.enc (Codec.app r.args r.f a)) KX G.T.g G.T.b G.T.builtins G.T.nolimit hg hwl (pl_encAll _ _) (layable_weight hlay) hr hF hb (by rw [encAll_len]; exact hlen)
    (fun H xs hO hS => hsp w H xs a hO hwi e2 hS) fun H e s' => hCX w H s₁ e s') fun r' s' hq => ?_)
  obtain ⟨u, as', rfl, h1, h2, h3, h4⟩ := hq
  exact ⟨.inl ⟨u, _, as', rfl, fun _ => rfl, h1, (OpenSpec.post_iff hwell hwi _ _).mpr rfl, fun z => Bool.noConfusion (show false = true from z)⟩, h2, h3, h4⟩
/-- the same where the promise hangs on the written part alone -/
theorem walk_specK {r : OpenSpec} {k : Nat} {q : Program} {loose : List Str} {XP : (Str → Option Value) → Heap → Prop} {YP : World → Heap → Prop} {d : DefRec} {K : Params → PySem.W.Frag} {CX : CXT} {ps : List Str} {sp : PySem.W.Frag → Sp}
    (hwell : r.wellSaid = true) (hdf : d.params.defaults = []) (hlen : r.args.length = ps.length) (hr : Room k callerA)
    (hY : ∀ (w : World) (h : Heap), YP w h → (K w.params).In h)
    (F : ∀ (w : World) (mg : Str → Option Value) (fa : Addr) (h : Heap), YP w h → (K w.params).In h → h.Ns mainGlobals mg → mg d.name = some (.ref fa) →
      ∃ fd : FuncData, (∀ (s : Shared) (us : List Value), us.length = ps.length → BindsTo s fd ⟨us, []⟩ (ps.zip us)) ∧
        ∀ base : Heap, (K w.params).In base → base.Ns mainGlobals mg → FnOk r.prog w (K w.params) mg base CX k fa fd ps (sp (K w.params)))
    (hsp : ∀ (K : PySem.W.Frag) (H : Hp) (xs : List V) (a : Codec.denoteAll r.args), OnlyF H → Codec.withinAll r.args a = true → Codec.app r.args r.asked a = true → DwAll K H xs (Codec.encAll r.args a) →
      sp K xs H (fun v H' => Dw K H' v (r.ret.enc (Codec.app r.args r.f a))) fun _ _ _ => False)
    (hCX : ∀ (H : Hp) (s : Shared) (e : Value) (s' : Shared), CX [] H s (fun _ _ _ => False) e s' → False) :
    PySem.W.WalkOS q loose XP YP r d [] (fun f vs => PySem.call f vs) :=
  walk_spec (K := K) (CX := fun _ => CX) (sp := fun w => sp (K w.params)) hwell hdf hlen hr hY F (fun w H xs a h1 h2 h3 h4 => hsp (K w.params) H xs a h1 h2 h3 h4) fun _ H s e s' => hCX H s e s'
end L2
end
end

section
namespace Rt
open Su69

/-! ### the first best of a list -/
section best
variable {α : Type}
def pick (lt : α → α → Bool) (b : Option α) (x : α) : Option α := match b with
  | none => some x
  | some y => if lt x y = true then some x else some y
def best (lt : α → α → Bool) (l : List α) : Option α := l.foldl (pick lt) none
/-- rising by the key, but for what was there before -/
def Asc (key : α → Nat) : List α → List α → Prop
  | _, [] => True
  | seen, x :: r => (x ∈ seen ∨ ∀ y ∈ seen, key y ≤ key x) ∧ Asc key (x :: seen) r
structure IsBest (lt : α → α → Bool) (key : α → Nat) (l : List α) (x : α) : Prop where
  mem : x ∈ l
  top : ∀ y ∈ l, lt y x = false
  first : ∀ y ∈ l, lt x y = false → key x ≤ key y
structure Ord (lt : α → α → Bool) (D : α → Prop) : Prop where
  ir : ∀ x, D x → lt x x = false
  tr : ∀ x y z, D x → D y → D z → lt x y = true → lt y z = true → lt x z = true
  ng : ∀ x y z, D x → D y → D z → lt x z = true → lt x y = true ∨ lt y z = true
theorem best_go {lt : α → α → Bool} {key : α → Nat} {D : α → Prop} (O : Ord lt D) : ∀ (l seen : List α) (b : α), (∀ x ∈ l, D x) → (∀ x ∈ seen, D x) → Asc key seen l → IsBest lt key seen b →
    ∃ x, l.foldl (pick lt) (some b) = some x ∧ IsBest lt key (l.reverse ++ seen) x
  | [], seen, b, _, _, _, h => ⟨b, rfl, by simpa using h⟩
  | x :: r, seen, b, hD, hS, ha, h => by
    obtain ⟨h1, h2⟩ := ha
    have Dx : D x := hD x (List.mem_cons_self ..)
    have Db : D b := hS b h.mem
    have hS' : ∀ y ∈ x :: seen, D y := fun y hy => by
      rcases List.mem_cons.mp hy with e | m
      · rw [e]; exact Dx
      · exact hS y m
    rw [List.foldl_cons, List.reverse_cons, List.append_assoc]
    show ∃ z, r.foldl (pick lt) (if lt x b = true then some x else some b) = some z ∧ _
    by_cases hx : lt x b = true
    · rw [if_pos hx]
      refine best_go O r (x :: seen) x (fun y hy => hD y (List.mem_cons_of_mem _ hy)) hS' h2 ⟨List.mem_cons_self .., fun y hy => ?_, fun y hy hlt => ?_⟩
      · rcases List.mem_cons.mp hy with e | m
        · rw [e]; exact O.ir x Dx
        · cases q : lt y x with
          | false => rfl
          | true => have z := O.tr y x b (hS y m) Dx Db q hx; rw [h.top y m] at z; cases z
      · rcases List.mem_cons.mp hy with e | m
        · rw [e]; exact Nat.le_refl _
        · rcases O.ng x y b Dx (hS y m) Db hx with z | z
          · rw [hlt] at z; cases z
          · rw [h.top y m] at z; cases z
    · rw [if_neg hx]
      have hx' : lt x b = false := by simpa using hx
      refine best_go O r (x :: seen) b (fun y hy => hD y (List.mem_cons_of_mem _ hy)) hS' h2 ⟨List.mem_cons_of_mem _ h.mem, fun y hy => ?_, fun y hy hlt => ?_⟩
      · rcases List.mem_cons.mp hy with e | m
        · rw [e]; exact hx'
        · exact h.top y m
      · rcases List.mem_cons.mp hy with e | m
        · subst e
          rcases h1 with h1 | h1
          · exact h.first y h1 hlt
          · exact h1 b h.mem
        · exact h.first y m hlt
theorem best_is {lt : α → α → Bool} {key : α → Nat} {D : α → Prop} (O : Ord lt D) {l : List α} (hD : ∀ x ∈ l, D x) (ha : Asc key [] l) (hl : l ≠ []) : ∃ x, best lt l = some x ∧ IsBest lt key l x := by
  cases l with
  | nil => exact absurd rfl hl
  | cons x r =>
    have Dx : D x := hD x (List.mem_cons_self ..)
    obtain ⟨y, e, b⟩ := best_go O r [x] x (fun y hy => hD y (List.mem_cons_of_mem _ hy)) (fun y hy => by rw [List.mem_singleton.mp hy]; exact Dx) ha.2
      ⟨List.mem_cons_self .., fun y hy => by rw [List.mem_singleton.mp hy]; exact O.ir x Dx, fun y hy _ => by rw [List.mem_singleton.mp hy]; exact Nat.le_refl _⟩
    have m : ∀ z, z ∈ r.reverse ++ [x] ↔ z ∈ x :: r := fun z => by simp [or_comm]
    exact ⟨y, e, (m y).mp b.mem, fun z hz => b.top z ((m z).mpr hz), fun z hz => b.first z ((m z).mpr hz)⟩
theorem best_nil {lt : α → α → Bool} : best lt ([] : List α) = none := rfl
/-- l2 is of l1, and what is in l1 is no better, or as good and no earlier, than some of l2 -/
theorem best_same {lt : α → α → Bool} {key : α → Nat} {D : α → Prop} (O : Ord lt D) {l1 l2 : List α} (hD : ∀ x ∈ l1, D x) (a1 : Asc key [] l1) (a2 : Asc key [] l2)
    (inj : ∀ x ∈ l1, ∀ y ∈ l1, key x = key y → x = y) (sub : ∀ x ∈ l2, x ∈ l1) (dom : ∀ x ∈ l1, ∃ y ∈ l2, lt x y = false ∧ (lt y x = false → key y ≤ key x)) : best lt l1 = best lt l2 := by
  by_cases h1 : l1 = []
  · subst h1
    cases l2 with
    | nil => rfl
    | cons x r => exact absurd (sub x (List.mem_cons_self ..)) (by simp)
  · have h2 : l2 ≠ [] := fun e => by
      cases l1 with
      | nil => exact h1 rfl
      | cons x r =>
        obtain ⟨y, hy, _⟩ := dom x (List.mem_cons_self ..)
        rw [e] at hy; cases hy
    obtain ⟨x, ex, bx⟩ := best_is (key := key) O hD a1 h1
    obtain ⟨y, ey, b2⟩ := best_is (key := key) O (fun z hz => hD z (sub z hz)) a2 h2
    obtain ⟨z, hz, k1, k2⟩ := dom x bx.mem
    have hz1 := sub z hz
    have e1 : key x = key z := Nat.le_antisymm (bx.first z hz1 k1) (k2 (bx.top z hz1))
    have e2 : x = z := inj x bx.mem z hz1 e1
    subst e2
    have e3 : key x = key y := Nat.le_antisymm (bx.first y (sub y b2.mem) (b2.top x hz)) (b2.first x hz (bx.top y (sub y b2.mem)))
    rw [ex, ey, inj x bx.mem y (sub y b2.mem) e3]
theorem asc_of {key : α → Nat} : ∀ (l seen : List α), (∀ x ∈ seen, ∀ y ∈ l, key x ≤ key y) → l.Pairwise (fun x y => key x ≤ key y) → Asc key seen l
  | [], _, _, _ => trivial
  | x :: r, seen, h, p => by
    obtain ⟨p1, p2⟩ := List.pairwise_cons.mp p
    refine ⟨.inr fun y hy => h y hy x (List.mem_cons_self ..), asc_of r (x :: seen) (fun z hz y hy => ?_) p2⟩
    rcases List.mem_cons.mp hz with e | m
    · rw [e]; exact p1 y hy
    · exact h z m y (List.mem_cons_of_mem _ hy)
/-- a loop that starts from the first one, and goes through all -/
theorem best_loop {lt : α → α → Bool} {x : α} {r : List α} (h : lt x x = false) : best lt (x :: r) = some ((x :: r).foldl (fun b y => if lt y b = true then y else b) x) := by
  have go : ∀ (l : List α) (b : α), l.foldl (pick lt) (some b) = some (l.foldl (fun b y => if lt y b = true then y else b) b) := by
    intro l
    induction l with
    | nil => intro b; rfl
    | cons y r ih =>
      intro b
      rw [List.foldl_cons, List.foldl_cons]
      show r.foldl (pick lt) (if lt y b = true then some y else some b) = _
      by_cases q : lt y b = true
      · rw [if_pos q, if_pos q]; exact ih y
      · rw [if_neg q, if_neg q]; exact ih b
  show r.foldl (pick lt) (some x) = _
  rw [go, List.foldl_cons, if_neg (by rw [h]; exact Bool.false_ne_true)]
end best
def byF {α : Type} (f : α → Nat) (x y : α) : Bool := decide (f x < f y)
theorem byF_ord {α : Type} (f : α → Nat) : Ord (byF f) (fun _ => True) := by
  refine ⟨fun x _ => by simp [byF], fun x y z _ _ _ h1 h2 => ?_, fun x y z _ _ _ h => ?_⟩
  · simp only [byF, decide_eq_true_eq] at *; omega
  · simp only [byF, decide_eq_true_eq] at *; omega
theorem least_best (f : Nat × Nat → Nat) (l : List (Nat × Nat)) : least f l = best (byF f) l := by
  unfold least best
  congr 1
  funext b x
  cases b with
  | none => rfl
  | some y => simp [pick, byF]
theorem oldest_best (a : Abs) (l : List Nat) : a.oldest l = best (byF a.week) l := by
  unfold Abs.oldest best
  congr 1
  funext b x
  cases b with
  | none => rfl
  | some y => simp [pick, byF]
theorem two_best (a : Abs) : a.two = best (byF fun p => (a.either p.1 p.2).length) a.pairs := by
  unfold Abs.two best
  congr 1
  funext b x
  cases b with
  | none => rfl
  | some y => simp [pick, byF]
def byRate (a : Abs) (x y : Nat × Nat) : Bool := decide (a.claimed y * (a.went x).length < a.claimed x * (a.went y).length)
theorem worst_best (a : Abs) (n : Nat) : a.worst n = best (byRate a) (marks.filter fun x => decide (n ≤ (a.went x).length)) := by
  unfold Abs.worst best
  congr 1
  funext b x
  cases b with
  | none => rfl
  | some y => simp [pick, byRate]
theorem byRate_ord (a : Abs) : Ord (byRate a) (fun x => 0 < (a.went x).length) := by
  refine ⟨fun x _ => by simp [byRate, Nat.mul_comm], fun x y z hx hy hz h1 h2 => ?_, fun x y z hx hy hz h => ?_⟩
  · simp only [byRate, decide_eq_true_eq] at *
    generalize (a.went x).length = wx at *
    generalize (a.went y).length = wy at *
    generalize (a.went z).length = wz at *
    generalize a.claimed x = cx at *
    generalize a.claimed y = cy at *
    generalize a.claimed z = cz at *
    -- cy*wx < cx*wy, cz*wy < cy*wz  =>  cz*wx < cx*wz
    have e1 : cz * wy * wx ≤ cy * wz * wx := Nat.mul_le_mul_right _ (Nat.le_of_lt h2)
    have e2 : cy * wx * wz < cx * wy * wz := Nat.mul_lt_mul_of_pos_right h1 hz
    have e3 : cz * wx * wy < cx * wz * wy := by
      calc cz * wx * wy = cz * wy * wx := by rw [Nat.mul_right_comm]
        _ ≤ cy * wz * wx := e1
        _ = cy * wx * wz := by rw [Nat.mul_right_comm]
        _ < cx * wy * wz := e2
        _ = cx * wz * wy := by rw [Nat.mul_right_comm]
    exact Nat.lt_of_mul_lt_mul_right e3
  · simp only [byRate, decide_eq_true_eq] at *
    generalize (a.went x).length = wx at *
    generalize (a.went y).length = wy at *
    generalize (a.went z).length = wz at *
    generalize a.claimed x = cx at *
    generalize a.claimed y = cy at *
    generalize a.claimed z = cz at *
    -- cz*wx < cx*wz ; not (cy*wx < cx*wy) and not (cz*wy < cy*wz) impossible
    by_cases q1 : cy * wx < cx * wy
    · exact .inl q1
    · refine .inr (Nat.lt_of_not_le fun q2 => ?_)
      have q1 : cx * wy ≤ cy * wx := Nat.le_of_not_lt q1
      have e1 : cx * wy * wz ≤ cy * wx * wz := Nat.mul_le_mul_right _ q1
      have e2 : cy * wz * wx ≤ cz * wy * wx := Nat.mul_le_mul_right _ q2
      have e3 : cz * wx * wy < cx * wz * wy := Nat.mul_lt_mul_of_pos_right h hy
      have e4 : cx * wz * wy = cx * wy * wz := Nat.mul_right_comm ..
      have e5 : cy * wx * wz = cy * wz * wx := Nat.mul_right_comm ..
      have e6 : cz * wy * wx = cz * wx * wy := Nat.mul_right_comm ..
      omega
end Rt
end

section
namespace Rt
open Su69

/-! ### marks in order -/
def mkey (x : Nat × Nat) : Nat := 100 * x.1 + x.2
def OkM (x : Nat × Nat) : Prop := x.1 < 5 ∧ x.2 < 100
theorem mkey_inj {x y : Nat × Nat} (hx : OkM x) (hy : OkM y) (e : mkey x = mkey y) : x = y := by
  unfold mkey at e
  obtain ⟨_, h1⟩ := hx
  obtain ⟨_, h2⟩ := hy
  refine Prod.ext ?_ ?_ <;> omega
theorem mem_marks {x : Nat × Nat} : x ∈ marks ↔ OkM x := by
  unfold marks OkM
  simp only [List.mem_flatMap, List.mem_map, List.mem_range, MARKS, VALUES]
  constructor
  · rintro ⟨k, hk, v, hv, rfl⟩; exact ⟨hk, hv⟩
  · rintro ⟨h1, h2⟩; exact ⟨x.1, h1, x.2, h2, rfl⟩
theorem okMark_iff {k v : Nat} : okMark k v = true ↔ OkM (k, v) := by
  unfold okMark OkM MARKS VALUES; simp
theorem marks_sorted : marks.Pairwise (fun x y => mkey x < mkey y) := by
  unfold marks
  rw [List.pairwise_flatMap]
  refine ⟨fun k _ => ?_, ?_⟩
  · rw [List.pairwise_map]
    exact List.Pairwise.imp (fun {u v} (h : u < v) => by show 100 * k + u < 100 * k + v; omega) List.pairwise_lt_range
  · refine List.Pairwise.imp ?_ List.pairwise_lt_range
    intro i j hij x hx y hy
    simp only [List.mem_map, List.mem_range, VALUES] at hx hy
    obtain ⟨v, hv, rfl⟩ := hx
    obtain ⟨u, hu, rfl⟩ := hy
    show 100 * i + v < 100 * j + u
    omega
theorem lt_le {l : List (Nat × Nat)} (h : l.Pairwise (fun x y => mkey x < mkey y)) : l.Pairwise (fun x y => mkey x ≤ mkey y) := h.imp fun q => Nat.le_of_lt q
/-- two lists that rise strictly and have the same members are one -/
theorem sorted_same : ∀ {l m : List (Nat × Nat)}, l.Pairwise (fun x y => mkey x < mkey y) → m.Pairwise (fun x y => mkey x < mkey y) → (∀ x, x ∈ l ↔ x ∈ m) → l = m
  | [], [], _, _, _ => rfl
  | [], y :: m, _, _, h => absurd ((h y).mpr (List.mem_cons_self ..)) (by simp)
  | x :: l, [], _, _, h => absurd ((h x).mp (List.mem_cons_self ..)) (by simp)
  | x :: l, y :: m, hl, hm, h => by
    obtain ⟨l1, l2⟩ := List.pairwise_cons.mp hl
    obtain ⟨m1, m2⟩ := List.pairwise_cons.mp hm
    have e : x = y := by
      rcases List.mem_cons.mp ((h x).mp (List.mem_cons_self ..)) with e | q
      · exact e
      · rcases List.mem_cons.mp ((h y).mpr (List.mem_cons_self ..)) with e | p
        · exact e.symm
        · have a := m1 x q; have b := l1 y p; omega
    subst e
    rw [sorted_same l2 m2 fun z => ?_]
    constructor
    · intro hz
      rcases List.mem_cons.mp ((h z).mp (List.mem_cons_of_mem _ hz)) with e | q
      · subst e; exact absurd (l1 z hz) (Nat.lt_irrefl _)
      · exact q
    · intro hz
      rcases List.mem_cons.mp ((h z).mpr (List.mem_cons_of_mem _ hz)) with e | q
      · subst e; exact absurd (m1 z hz) (Nat.lt_irrefl _)
      · exact q

/-! ### a good house -/
structure GoodT (t : Tyre) : Prop where
  len : t.marks.length = 5
  val : ∀ v ∈ t.marks, v < 100
  how : t.how ≤ 2
  cust : t.how ≠ 0 → t.place < 10
structure Good (a : Abs) : Prop where
  ty : ∀ t ∈ a.tyres, GoodT t
  day : ∀ t ∈ a.tyres, t.day ≤ a.today
  inr : ∀ t ∈ a.tyres, t.how = 0 → t.place < a.racks.length
  nT : a.tyres.length ≤ 60
  nR : a.racks.length ≤ 8
  room : ∀ r, r < a.racks.length → (a.inRack r).length ≤ a.racks.getD r 0
  rnd : a.recalled.Nodup
  rok : ∀ x ∈ a.recalled, OkM x
  nRec : a.recalled.length ≤ 10
theorem tyre_mem {a : Abs} {i : Nat} (h : i < a.tyres.length) : a.tyre i ∈ a.tyres := by
  unfold Abs.tyre
  rw [List.getD_eq_getElem?_getD, List.getElem?_eq_getElem h]
  exact List.getElem_mem h
theorem tyre_get {a : Abs} {i : Nat} (h : i < a.tyres.length) : a.tyres[i]? = some (a.tyre i) := by
  unfold Abs.tyre
  rw [List.getD_eq_getElem?_getD, List.getElem?_eq_getElem h]; rfl
theorem Good.at_ {a : Abs} (g : Good a) {i : Nat} (h : i < a.tyres.length) : GoodT (a.tyre i) := g.ty _ (tyre_mem h)
def mk (a : Abs) (i k : Nat) : Nat := (a.tyre i).marks.getD k 0
theorem mk_get {a : Abs} (g : Good a) {i k : Nat} (h : i < a.tyres.length) (hk : k < 5) : (a.tyre i).marks[k]? = some (mk a i k) := by
  have := (g.at_ h).len
  unfold mk
  rw [List.getD_eq_getElem?_getD, List.getElem?_eq_getElem (by omega)]; rfl
theorem mk_lt {a : Abs} (g : Good a) {i k : Nat} (h : i < a.tyres.length) (hk : k < 5) : mk a i k < 100 := (g.at_ h).val _ (List.mem_of_getElem? (mk_get g h hk))
theorem has_iff {a : Abs} (g : Good a) {i : Nat} {x : Nat × Nat} (h : i < a.tyres.length) (hx : x.1 < 5) : a.has i x = true ↔ mk a i x.1 = x.2 := by
  unfold Abs.has
  rw [mk_get g h hx]
  simp
theorem has_eq {a : Abs} (g : Good a) {i k v : Nat} (h : i < a.tyres.length) (hx : k < 5) : a.has i (k, v) = decide (mk a i k = v) := by
  have := has_iff g (x := (k, v)) h hx
  cases q : a.has i (k, v) with
  | true => exact (decide_eq_true (this.mp q)).symm
  | false => exact (decide_eq_false fun e => by rw [this.mpr e] at q; cases q).symm
theorem has_ok {a : Abs} (g : Good a) {i : Nat} {x : Nat × Nat} (h : i < a.tyres.length) (hx : a.has i x = true) : OkM x := by
  unfold Abs.has at hx
  have e : (a.tyre i).marks[x.1]? = some x.2 := by simpa using hx
  have := (g.at_ h).len
  obtain ⟨hl, _⟩ := List.getElem?_eq_some_iff.mp e
  exact ⟨by omega, (g.at_ h).val _ (List.mem_of_getElem? e)⟩
theorem mem_all {a : Abs} {i : Nat} : i ∈ a.all ↔ i < a.tyres.length := by unfold Abs.all; exact List.mem_range
theorem mem_claims {a : Abs} {i : Nat} (h : i ∈ a.claims) : i < a.tyres.length := mem_all.mp (List.mem_filter.mp h).1

/-! ### what tyres share -/
/-- as the program finds it -/
def shared (a : Abs) (l : List Nat) : List (Nat × Nat) := ((List.range 5).filter fun k => l.all fun j => a.has j (k, mk a (l.headD 0) k)).map fun k => (k, mk a (l.headD 0) k)
theorem shared_sorted (a : Abs) (g : Good a) {l : List Nat} (hv : ∀ i ∈ l, i < a.tyres.length) (hl : l ≠ []) : (shared a l).Pairwise (fun x y => mkey x < mkey y) := by
  unfold shared
  rw [List.pairwise_map]
  have h0 : l.headD 0 < a.tyres.length := by
    cases l with
    | nil => exact absurd rfl hl
    | cons x r => exact hv x (List.mem_cons_self ..)
  refine List.Pairwise.imp_of_mem ?_ (List.Pairwise.filter _ List.pairwise_lt_range)
  intro i j hi hj hij
  have hi5 : i < 5 := List.mem_range.mp (List.mem_filter.mp hi).1
  have := mk_lt g h0 hi5
  unfold mkey
  show 100 * i + _ < 100 * j + _
  omega
theorem mem_shared {a : Abs} (g : Good a) {l : List Nat} (hv : ∀ i ∈ l, i < a.tyres.length) (hl : l ≠ []) {x : Nat × Nat} : x ∈ shared a l ↔ ∀ i ∈ l, a.has i x = true := by
  obtain ⟨i0, r, rfl⟩ : ∃ i0 r, l = i0 :: r := by
    cases l with
    | nil => exact absurd rfl hl
    | cons x r => exact ⟨x, r, rfl⟩
  have h0 := hv i0 (List.mem_cons_self ..)
  unfold shared
  simp only [List.mem_map, List.mem_filter, List.mem_range, List.all_eq_true, List.headD_cons]
  constructor
  · rintro ⟨k, ⟨hk, h⟩, rfl⟩; exact h
  · intro h
    have hx := has_ok g h0 (h i0 (List.mem_cons_self ..))
    have e := (has_iff g h0 hx.1).mp (h i0 (List.mem_cons_self ..))
    exact ⟨x.1, ⟨hx.1, by rw [e]; exact h⟩, by rw [e]⟩
theorem told_sorted (a : Abs) : a.told.Pairwise (fun x y => mkey x < mkey y) := marks_sorted.filter _
theorem mem_told {a : Abs} (g : Good a) {x : Nat × Nat} : x ∈ a.told ↔ ∃ i ∈ a.claims, a.has i x = true := by
  unfold Abs.told
  rw [List.mem_filter, List.any_eq_true]
  exact ⟨fun h => h.2, fun h => ⟨mem_marks.mpr (let ⟨i, hi, q⟩ := h; has_ok g (mem_claims hi) q), h⟩⟩
theorem common_shared {a : Abs} (g : Good a) (hc : a.claims ≠ []) : a.common = shared a a.claims := by
  refine sorted_same ((told_sorted a).filter _) (shared_sorted a g (fun i hi => mem_claims hi) hc) fun x => ?_
  rw [mem_shared g (fun i hi => mem_claims hi) hc]
  unfold Abs.common
  rw [List.mem_filter, List.all_eq_true, mem_told g]
  refine ⟨fun h => h.2, fun h => ⟨?_, h⟩⟩
  cases e : a.claims with
  | nil => exact absurd e hc
  | cons i r => exact ⟨i, List.mem_cons_self .., h i (by rw [e]; exact List.mem_cons_self ..)⟩

/-! ### which two -/
def others (a : Abs) (x : Nat × Nat) : List Nat := a.claims.filter fun i => !(a.has i x)
def seconds (a : Abs) (x : Nat × Nat) : List (Nat × Nat) := if others a x = [] then [x] else shared a (others a x)
def ppairs (a : Abs) (ms : List (Nat × Nat)) : List ((Nat × Nat) × (Nat × Nat)) := ms.flatMap fun x => (seconds a x).map fun y => (x, y)
def pkey (p : (Nat × Nat) × (Nat × Nat)) : Nat := 500 * mkey p.1 + mkey p.2
theorem mkey_lt {x : Nat × Nat} (h : OkM x) : mkey x < 500 := by unfold mkey; obtain ⟨h1, h2⟩ := h; omega
theorem pkey_inj {p q : (Nat × Nat) × (Nat × Nat)} (h1 : OkM p.1) (h2 : OkM p.2) (h3 : OkM q.1) (h4 : OkM q.2) (e : pkey p = pkey q) : p = q := by
  unfold pkey at e
  have a1 := mkey_lt h2
  have a2 := mkey_lt h4
  exact Prod.ext (mkey_inj h1 h3 (by omega)) (mkey_inj h2 h4 (by omega))
theorem others_mem {a : Abs} {x : Nat × Nat} {i : Nat} : i ∈ others a x ↔ i ∈ a.claims ∧ a.has i x = false := by
  unfold others; rw [List.mem_filter]; simp
theorem others_lt {a : Abs} {x : Nat × Nat} : ∀ i ∈ others a x, i < a.tyres.length := fun i h => mem_claims (others_mem.mp h).1
theorem told_ok {a : Abs} (g : Good a) {x : Nat × Nat} (h : x ∈ a.told) : OkM x := let ⟨i, hi, q⟩ := (mem_told g).mp h; has_ok g (mem_claims hi) q
theorem mem_pairs {a : Abs} {p : (Nat × Nat) × (Nat × Nat)} : p ∈ a.pairs ↔ p.1 ∈ a.told ∧ p.2 ∈ a.told ∧ a.explains p.1 p.2 = true := by
  unfold Abs.pairs
  rw [List.mem_filter, List.mem_flatMap]
  constructor
  · rintro ⟨⟨x, hx, hy⟩, e⟩
    obtain ⟨y, hy2, rfl⟩ := List.mem_map.mp hy
    exact ⟨hx, hy2, e⟩
  · rintro ⟨h1, h2, h3⟩
    exact ⟨⟨p.1, h1, List.mem_map.mpr ⟨p.2, h2, rfl⟩⟩, h3⟩
theorem explains_iff {a : Abs} {x y : Nat × Nat} : a.explains x y = true ↔ ∀ i ∈ a.claims, a.has i x = true ∨ a.has i y = true := by
  unfold Abs.explains; simp [List.all_eq_true]
theorem mem_seconds {a : Abs} (g : Good a) {x y : Nat × Nat} : y ∈ seconds a x ↔ (others a x = [] ∧ y = x) ∨ (others a x ≠ [] ∧ ∀ i ∈ others a x, a.has i y = true) := by
  unfold seconds
  by_cases h : others a x = []
  · rw [if_pos h]; simp [h]
  · rw [if_neg h, mem_shared g others_lt h]; simp [h]
theorem pairs_asc (a : Abs) (g : Good a) : Asc pkey [] a.pairs := by
  refine asc_of _ _ (by simp) ?_
  unfold Abs.pairs
  refine List.Pairwise.filter _ ?_
  rw [List.pairwise_flatMap]
  refine ⟨fun x hx => ?_, ?_⟩
  · rw [List.pairwise_map]
    exact (told_sorted a).imp fun {u v} h => by unfold pkey; show 500 * mkey x + mkey u ≤ 500 * mkey x + mkey v; omega
  · refine List.Pairwise.imp ?_ (told_sorted a)
    intro x y hxy p hp q hq
    obtain ⟨u, hu, rfl⟩ := List.mem_map.mp hp
    obtain ⟨v, hv, rfl⟩ := List.mem_map.mp hq
    have := mkey_lt (told_ok g hu)
    unfold pkey
    show 500 * mkey x + mkey u ≤ 500 * mkey y + mkey v
    omega
theorem asc_append {α : Type} {key : α → Nat} : ∀ (l m seen : List α), Asc key seen l → Asc key (l.reverse ++ seen) m → Asc key seen (l ++ m)
  | [], m, seen, _, h => by simpa using h
  | x :: r, m, seen, h1, h2 => by
    refine ⟨h1.1, asc_append r m (x :: seen) h1.2 ?_⟩
    rw [List.reverse_cons, List.append_assoc] at h2
    exact h2
theorem asc_old {α : Type} {key : α → Nat} : ∀ (l seen : List α), (∀ x ∈ l, x ∈ seen) → Asc key seen l
  | [], _, _ => trivial
  | x :: r, seen, h => ⟨.inl (h x (List.mem_cons_self ..)), asc_old r (x :: seen) fun y hy => List.mem_cons_of_mem _ (h y (List.mem_cons_of_mem _ hy))⟩
theorem ppairs_asc {a : Abs} (g : Good a) : ∀ (ms done : List (Nat × Nat)), (∀ x ∈ ms, OkM x) → (∀ x ∈ done, OkM x) → ms.Pairwise (fun x y => mkey x ≤ mkey y) → (∀ x ∈ done, ∀ y ∈ ms, mkey x ≤ mkey y) →
    ∀ seen : List ((Nat × Nat) × (Nat × Nat)), (∀ p, p ∈ seen ↔ p ∈ ppairs a done) → Asc pkey seen (ppairs a ms)
  | [], _, _, _, _, _, _, _ => trivial
  | x :: r, done, ok, okd, p, le, seen, hs => by
    obtain ⟨p1, p2⟩ := List.pairwise_cons.mp p
    have ox := ok x (List.mem_cons_self ..)
    show Asc pkey seen ((seconds a x).map (fun y => (x, y)) ++ ppairs a r)
    have oks : ∀ (z : Nat × Nat), OkM z → ∀ y ∈ seconds a z, OkM y := fun z oz y hy => by
      rcases (mem_seconds g).mp hy with ⟨_, e⟩ | ⟨ne, h⟩
      · rw [e]; exact oz
      · cases e : others a z with
        | nil => exact absurd e ne
        | cons i s => exact has_ok g (others_lt i (by rw [e]; exact List.mem_cons_self ..)) (h i (by rw [e]; exact List.mem_cons_self ..))
    refine asc_append _ _ _ ?_ (ppairs_asc g r (x :: done) (fun y hy => ok y (List.mem_cons_of_mem _ hy)) (fun y hy => ?_) p2 (fun z hz y hy => ?_) _ fun q => ?_)
    · by_cases hd : x ∈ done
      · refine asc_old _ _ fun q hq => (hs q).mpr ?_
        exact List.mem_flatMap.mpr ⟨x, hd, hq⟩
      · refine asc_of _ _ (fun q hq q' hq' => ?_) ?_
        · obtain ⟨z, hz, hq⟩ := List.mem_flatMap.mp ((hs q).mp hq)
          obtain ⟨u, hu, rfl⟩ := List.mem_map.mp hq
          obtain ⟨v, hv, rfl⟩ := List.mem_map.mp hq'
          have a1 := le z hz x (List.mem_cons_self ..)
          have a2 : mkey z ≠ mkey x := fun e => hd (by rw [← mkey_inj (okd z hz) ox e]; exact hz)
          have a3 := mkey_lt (oks z (okd z hz) u hu)
          unfold pkey
          show 500 * mkey z + mkey u ≤ 500 * mkey x + mkey v
          omega
        · rw [List.pairwise_map]
          have : (seconds a x).Pairwise (fun u v => mkey u < mkey v) := by
            unfold seconds
            by_cases h : others a x = []
            · rw [if_pos h]; exact List.pairwise_singleton ..
            · rw [if_neg h]; exact shared_sorted a g others_lt h
          exact this.imp fun {u v} h => by unfold pkey; show 500 * mkey x + mkey u ≤ 500 * mkey x + mkey v; omega
    · rcases List.mem_cons.mp hy with e | m
      · rw [e]; exact ox
      · exact okd y m
    · rcases List.mem_cons.mp hz with e | m
      · rw [e]; exact p1 y hy
      · exact le z m y (List.mem_cons_of_mem _ hy)
    · rw [List.mem_append, List.mem_reverse, hs]
      show _ ↔ q ∈ (seconds a x).map (fun y => (x, y)) ++ ppairs a done
      rw [List.mem_append]
theorem either_self (a : Abs) (x y : Nat × Nat) : (a.either x x).length ≤ (a.either x y).length := by
  unfold Abs.either
  rw [← List.countP_eq_length_filter, ← List.countP_eq_length_filter]
  exact List.countP_mono_left fun t _ h => by simp only [Bool.or_self] at h; rw [h]; rfl
theorem either_comm (a : Abs) (x y : Nat × Nat) : a.either x y = a.either y x := by
  unfold Abs.either; congr 1; funext t; exact Bool.or_comm ..
/-- the two, as the program finds them -/
theorem two_is {a : Abs} (g : Good a) (ms : List (Nat × Nat)) (srt : ms.Pairwise (fun x y => mkey x ≤ mkey y)) (hm : ∀ x, x ∈ ms ↔ x ∈ a.told) : a.two = best (byF fun p => (a.either p.1 p.2).length) (ppairs a ms) := by
  rw [two_best]
  refine best_same (key := pkey) (byF_ord _) (fun _ _ => trivial) (pairs_asc a g) (ppairs_asc g ms [] (fun x hx => told_ok g ((hm x).mp hx)) (by simp) srt (by simp) [] (by simp [ppairs])) (fun p hp q hq e => ?_) (fun p hp => ?_) (fun p hp => ?_)
  · obtain ⟨a1, a2, _⟩ := mem_pairs.mp hp
    obtain ⟨b1, b2, _⟩ := mem_pairs.mp hq
    exact pkey_inj (told_ok g a1) (told_ok g a2) (told_ok g b1) (told_ok g b2) e
  · obtain ⟨x, hx, hp⟩ := List.mem_flatMap.mp hp
    obtain ⟨y, hy, rfl⟩ := List.mem_map.mp hp
    have tx := (hm x).mp hx
    rcases (mem_seconds g).mp hy with ⟨e, rfl⟩ | ⟨ne, h⟩
    · refine mem_pairs.mpr ⟨tx, tx, explains_iff.mpr fun i hi => ?_⟩
      cases q : a.has i y with
      | true => exact .inl rfl
      | false => have := others_mem.mpr ⟨hi, q⟩; rw [e] at this; cases this
    · refine mem_pairs.mpr ⟨tx, (mem_told g).mpr ?_, explains_iff.mpr fun i hi => ?_⟩
      · cases e : others a x with
        | nil => exact absurd e ne
        | cons i s =>
          have hi : i ∈ others a x := by rw [e]; exact List.mem_cons_self ..
          exact ⟨i, (others_mem.mp hi).1, h i hi⟩
      · cases q : a.has i x with
        | true => exact .inl rfl
        | false => exact .inr (h i (others_mem.mpr ⟨hi, q⟩))
  · obtain ⟨x, y⟩ := p
    obtain ⟨tx, ty, ex⟩ := mem_pairs.mp hp
    have ex := explains_iff.mp ex
    have hx : x ∈ ms := (hm x).mpr tx
    have hy : y ∈ ms := (hm y).mpr ty
    have put : ∀ {u v : Nat × Nat}, u ∈ ms → v ∈ seconds a u → (u, v) ∈ ppairs a ms := fun hu hv => List.mem_flatMap.mpr ⟨_, hu, List.mem_map.mpr ⟨_, hv, rfl⟩⟩
    by_cases h : others a x = []
    · by_cases hk : mkey x ≤ mkey y
      · refine ⟨(x, x), put hx ((mem_seconds g).mpr (.inl ⟨h, rfl⟩)), ?_, fun _ => ?_⟩
        · simp only [byF, decide_eq_false_iff_not, Nat.not_lt]; exact either_self a x y
        · unfold pkey; show 500 * mkey x + mkey x ≤ 500 * mkey x + mkey y; omega
      · by_cases h2 : others a y = []
        · refine ⟨(y, y), put hy ((mem_seconds g).mpr (.inl ⟨h2, rfl⟩)), ?_, fun _ => ?_⟩
          · simp only [byF, decide_eq_false_iff_not, Nat.not_lt]; rw [either_comm a x y]; exact either_self a y x
          · unfold pkey; show 500 * mkey y + mkey y ≤ 500 * mkey x + mkey y; omega
        · refine ⟨(y, x), put hy ((mem_seconds g).mpr (.inr ⟨h2, fun i hi => ?_⟩)), ?_, fun _ => ?_⟩
          · cases q : a.has i x with
            | true => rfl
            | false => have := others_mem.mpr ⟨(others_mem.mp hi).1, q⟩; rw [h] at this; cases this
          · simp only [byF, decide_eq_false_iff_not, Nat.not_lt]; rw [either_comm a x y]; exact Nat.le_refl _
          · have := mkey_lt (told_ok g tx); unfold pkey; show 500 * mkey y + mkey x ≤ 500 * mkey x + mkey y; omega
    · refine ⟨(x, y), put hx ((mem_seconds g).mpr (.inr ⟨h, fun i hi => ?_⟩)), by simp [byF], fun _ => Nat.le_refl _⟩
      rcases ex i (others_mem.mp hi).1 with q | q
      · rw [(others_mem.mp hi).2] at q; cases q
      · exact q
/-! ### the worst -/
theorem worst_is {a : Abs} (n : Nat) (hn : n ≠ 0) (ms : List (Nat × Nat)) (srt : ms.Pairwise (fun x y => mkey x ≤ mkey y)) (ok : ∀ x ∈ ms, OkM x) (hm : ∀ i, i < a.tyres.length → ∀ x, OkM x → a.has i x = true → x ∈ ms) :
    a.worst n = best (byRate a) (ms.filter fun x => decide (n ≤ (a.went x).length)) := by
  rw [worst_best]
  refine best_same (key := mkey) (byRate_ord a) (fun x hx => ?_) (asc_of _ _ (by simp) (lt_le (marks_sorted.filter _))) (asc_of _ _ (by simp) (srt.filter _)) (fun x hx y hy e => ?_) (fun x hx => ?_) (fun x hx => ?_)
  · have := of_decide_eq_true (List.mem_filter.mp hx).2; omega
  · exact mkey_inj (mem_marks.mp (List.mem_filter.mp hx).1) (mem_marks.mp (List.mem_filter.mp hy).1) e
  · obtain ⟨h1, h2⟩ := List.mem_filter.mp hx
    exact List.mem_filter.mpr ⟨mem_marks.mpr (ok x h1), h2⟩
  · obtain ⟨h1, h2⟩ := List.mem_filter.mp hx
    refine ⟨x, List.mem_filter.mpr ⟨?_, h2⟩, ?_, fun _ => Nat.le_refl _⟩
    · have h3 := of_decide_eq_true h2
      cases e : a.went x with
      | nil => rw [e] at h3; exact absurd h3 (by simp [hn])
      | cons i r =>
        have hi : i ∈ a.went x := by rw [e]; exact List.mem_cons_self ..
        have hi2 := (List.mem_filter.mp (List.mem_filter.mp hi).1)
        exact hm i (mem_all.mp hi2.1) x (mem_marks.mp h1) hi2.2
    · simp [byRate]
end Rt
end

section
namespace Rt
open Su69

/-! ### one tyre changed -/
theorem set_len (a : Abs) (t : Nat) (f : Tyre → Tyre) : (a.set t f).tyres.length = a.tyres.length := by
  unfold Abs.set; exact List.length_modify ..
theorem set_tyre {a : Abs} {t : Nat} {f : Tyre → Tyre} (ht : t < a.tyres.length) (u : Nat) : (a.set t f).tyre u = if u = t then f (a.tyre t) else a.tyre u := by
  unfold Abs.tyre Abs.set
  rw [List.getD_eq_getElem?_getD, List.getElem?_modify]
  by_cases h : u = t
  · subst h
    rw [if_pos rfl, List.getD_eq_getElem?_getD, List.getElem?_eq_getElem ht]
    show (if u = u then f _ else _) = _
    rw [if_pos rfl]; rfl
  · rw [if_neg h, List.getD_eq_getElem?_getD]
    have h' : ¬ t = u := fun e => h e.symm
    simp only [if_neg h']
    cases a.tyres[u]? <;> rfl
theorem set_mem {a : Abs} {t : Nat} {f : Tyre → Tyre} (ht : t < a.tyres.length) {x : Tyre} (h : x ∈ (a.set t f).tyres) : x = f (a.tyre t) ∨ x ∈ a.tyres := by
  obtain ⟨i, hi, e⟩ := List.mem_iff_getElem.mp h
  have hi' : i < a.tyres.length := by rw [set_len] at hi; exact hi
  have e2 : (a.set t f).tyre i = x := by
    unfold Abs.tyre; rw [List.getD_eq_getElem?_getD, List.getElem?_eq_getElem hi]; exact e
  rw [set_tyre ht] at e2
  by_cases h : i = t
  · rw [if_pos h] at e2; exact .inl e2.symm
  · rw [if_neg h] at e2; exact .inr (e2 ▸ tyre_mem hi')
theorem filter_one {p q : Nat → Bool} {t : Nat} : ∀ {l : List Nat}, l.Nodup → (∀ u ∈ l, u ≠ t → q u = p u) → (l.filter q).length ≤ (l.filter p).length + (if q t = true ∧ p t = false then 1 else 0)
  | [], _, _ => by simp
  | x :: r, nd, h => by
    obtain ⟨n1, n2⟩ := List.nodup_cons.mp nd
    have ih := filter_one (p := p) (q := q) (t := t) n2 fun u hu => h u (List.mem_cons_of_mem _ hu)
    by_cases e : x = t
    · subst e
      have e2 : r.filter q = r.filter p := List.filter_congr fun u hu => h u (List.mem_cons_of_mem _ hu) (fun z => n1 (z ▸ hu))
      rw [List.filter_cons, List.filter_cons, e2]
      cases q x <;> cases p x <;> simp
    · have := h x (List.mem_cons_self ..) e
      rw [List.filter_cons, List.filter_cons, this]
      cases p x <;> simp <;> omega
theorem inRack_set {a : Abs} {t : Nat} {f : Tyre → Tyre} (ht : t < a.tyres.length) (r : Nat) :
    ((a.set t f).inRack r).length ≤ (a.inRack r).length + (if ((f (a.tyre t)).how == 0 && (f (a.tyre t)).place == r) = true ∧ ((a.tyre t).how == 0 && (a.tyre t).place == r) = false then 1 else 0) := by
  have e : (a.set t f).all = a.all := by unfold Abs.all; rw [set_len]
  unfold Abs.inRack
  rw [e]
  have := filter_one (p := fun u => (a.tyre u).how == 0 && (a.tyre u).place == r) (q := fun u => ((a.set t f).tyre u).how == 0 && ((a.set t f).tyre u).place == r) (t := t) (l := a.all) (by unfold Abs.all; exact List.nodup_range) (fun u _ hu => by simp only [set_tyre ht, if_neg hu])
  simp only [set_tyre ht, if_true] at this
  simp only [set_tyre ht]
  exact this
theorem good_set {a : Abs} (g : Good a) {t : Nat} {f : Tyre → Tyre} (ht : t < a.tyres.length) (hf : GoodT (f (a.tyre t))) (hd : (f (a.tyre t)).day ≤ a.today) (hi : (f (a.tyre t)).how = 0 → (f (a.tyre t)).place < a.racks.length)
    (hr : ∀ r, r < a.racks.length → (f (a.tyre t)).how = 0 → (f (a.tyre t)).place = r → ¬ ((a.tyre t).how = 0 ∧ (a.tyre t).place = r) → (a.inRack r).length < a.racks.getD r 0) : Good (a.set t f) where
  ty x hx := (set_mem ht hx).elim (fun e => e ▸ hf) fun m => g.ty x m
  day x hx := (set_mem ht hx).elim (fun e => e ▸ hd) fun m => g.day x m
  inr x hx := (set_mem ht hx).elim (fun e => e ▸ hi) fun m => g.inr x m
  nT := by rw [set_len]; exact g.nT
  nR := g.nR
  room r h := by
    have h' : r < a.racks.length := h
    have k := inRack_set (f := f) ht r
    have k2 := g.room r h'
    show _ ≤ a.racks.getD r 0
    by_cases c : ((f (a.tyre t)).how == 0 && (f (a.tyre t)).place == r) = true ∧ ((a.tyre t).how == 0 && (a.tyre t).place == r) = false
    · rw [if_pos c] at k
      have c1 := c.1
      simp only [Bool.and_eq_true, beq_iff_eq] at c1
      have := hr r h' c1.1 c1.2 (fun z => by have := c.2; simp [z.1, z.2] at this)
      omega
    · rw [if_neg c] at k; omega
  rnd := g.rnd
  rok := g.rok
  nRec := g.nRec
theorem good_empty : Good empty where
  ty x hx := by cases hx
  day x hx := by cases hx
  inr x hx := by cases hx
  nT := by decide
  nR := by decide
  room r h := absurd h (by show ¬ r < 0; omega)
  rnd := List.nodup_nil
  rok x hx := by cases hx
  nRec := by decide
theorem full_iff {a : Abs} {r : Nat} : a.full r = true ↔ a.racks.getD r 0 ≤ (a.inRack r).length := by unfold Abs.full; simp
theorem isT_iff {a : Abs} {t : Nat} : a.isT t = true ↔ t < a.tyres.length := by unfold Abs.isT; simp
theorem isR_iff {a : Abs} {r : Nat} : a.isR r = true ↔ r < a.racks.length := by unfold Abs.isR; simp
theorem app_tyre {a : Abs} {x : Tyre} {u : Nat} (h : u < a.tyres.length) : ({ a with tyres := a.tyres ++ [x] } : Abs).tyre u = a.tyre u := by
  unfold Abs.tyre
  show (a.tyres ++ [x]).getD u _ = _
  rw [List.getD_eq_getElem?_getD, List.getElem?_append_left h, List.getD_eq_getElem?_getD]
theorem app_new {a : Abs} {x : Tyre} : ({ a with tyres := a.tyres ++ [x] } : Abs).tyre a.tyres.length = x := by
  unfold Abs.tyre
  show (a.tyres ++ [x]).getD a.tyres.length _ = _
  rw [List.getD_eq_getElem?_getD, List.getElem?_append_right (Nat.le_refl _), Nat.sub_self]; rfl
theorem good_put {a : Abs} (g : Good a) {r : Nat} {l : List Nat} (hl : l.length = 5) (hv : ∀ v ∈ l, v < 100) (hn : a.tyres.length < 60) (hrr : r < a.racks.length) (hr : (a.inRack r).length < a.racks.getD r 0) :
    Good { a with tyres := a.tyres ++ [⟨l, 0, r, a.today, false⟩] } where
  ty x hx := by
    rcases List.mem_append.mp hx with m | m
    · exact g.ty x m
    · rw [List.mem_singleton.mp m]; exact ⟨hl, hv, Nat.zero_le _, fun z => absurd rfl z⟩
  day x hx := by
    rcases List.mem_append.mp hx with m | m
    · exact g.day x m
    · rw [List.mem_singleton.mp m]; exact Nat.le_refl _
  inr x hx := by
    rcases List.mem_append.mp hx with m | m
    · exact g.inr x m
    · rw [List.mem_singleton.mp m]; exact fun _ => hrr
  nT := by show (a.tyres ++ [_]).length ≤ 60; rw [List.length_append, List.length_singleton]; omega
  nR := g.nR
  room q hq := by
    have hq' : q < a.racks.length := hq
    have k := g.room q hq'
    show _ ≤ a.racks.getD q 0
    have e : (({ a with tyres := a.tyres ++ [⟨l, 0, r, a.today, false⟩] } : Abs).inRack q) = a.inRack q ++ (if r = q then [a.tyres.length] else []) := by
      unfold Abs.inRack Abs.all
      show (List.range (a.tyres ++ [_]).length).filter _ = _
      rw [List.length_append, List.length_singleton, List.range_succ, List.filter_append]
      congr 1
      · exact List.filter_congr fun u hu => by rw [app_tyre (List.mem_range.mp hu)]
      · rw [List.filter_cons, app_new]
        by_cases e : r = q
        · simp [e]
        · simp [e]
    rw [e, List.length_append]
    by_cases e : r = q
    · rw [if_pos e]; subst e; exact hr
    · rw [if_neg e]; simpa using k
  rnd := g.rnd
  rok := g.rok
  nRec := g.nRec
theorem any_ge {l : List Nat} : l.any (fun x => decide (VALUES ≤ x)) = true ↔ ¬ ∀ v ∈ l, v < 100 := by
  rw [List.any_eq_true]
  constructor
  · rintro ⟨x, hx, h⟩ k
    have := k x hx
    have h := of_decide_eq_true h
    unfold VALUES at h; omega
  · intro h
    refine Classical.byContradiction fun k => h fun v hv => Nat.lt_of_not_le fun q => k ⟨v, hv, decide_eq_true q⟩
/-- an oldest one is of the list -/
theorem oldest_mem {a : Abs} {l : List Nat} {t : Nat} (h : a.oldest l = some t) : t ∈ l := by
  rw [oldest_best] at h
  by_cases e : l = []
  · subst e; cases h
  · obtain ⟨x, ex, b⟩ := best_is (key := fun _ => 0) (byF_ord a.week) (fun _ _ => trivial) (asc_of _ _ (by simp) (List.Pairwise.imp (fun _ => Nat.le_refl _) (List.pairwise_of_forall (R := fun _ _ => True) fun _ _ => trivial))) e
    rw [ex] at h
    cases h
    exact b.mem
theorem good_rack {a : Abs} (g : Good a) {n : Nat} (h : a.racks.length < 8) : Good { a with racks := a.racks ++ [n] } where
  ty := g.ty
  day := g.day
  inr x hx hz := by have := g.inr x hx hz; show _ < (a.racks ++ [n]).length; rw [List.length_append]; omega
  nT := g.nT
  nR := by show (a.racks ++ [n]).length ≤ 8; rw [List.length_append, List.length_singleton]; omega
  room r hr := by
    show (a.inRack r).length ≤ (a.racks ++ [n]).getD r 0
    by_cases e : r < a.racks.length
    · rw [List.getD_eq_getElem?_getD, List.getElem?_append_left e, ← List.getD_eq_getElem?_getD]; exact g.room r e
    · have : a.inRack r = [] := by
        unfold Abs.inRack
        refine List.filter_eq_nil_iff.mpr fun u hu q => ?_
        simp only [Bool.and_eq_true, beq_iff_eq] at q
        have := g.inr _ (tyre_mem (mem_all.mp hu)) q.1
        omega
      rw [this]; exact Nat.zero_le _
  rnd := g.rnd
  rok := g.rok
  nRec := g.nRec
theorem good_move {a : Abs} (g : Good a) {t r : Nat} (ht : t < a.tyres.length) (hr : r < a.racks.length) (h0 : (a.tyre t).how = 0) (hf : a.full r = false) : Good (a.set t fun x => { x with place := r }) :=
  good_set g ht ⟨(g.at_ ht).len, (g.at_ ht).val, (g.at_ ht).how, fun z => absurd h0 z⟩ (g.day (a.tyre t) (tyre_mem ht)) (fun _ => hr) fun q hq _ e _ => by
    have e : r = q := e
    subst e
    exact Nat.lt_of_not_le fun q => by rw [full_iff.mpr q] at hf; cases hf
theorem good_sent {a : Abs} (g : Good a) {t c : Nat} (ht : t < a.tyres.length) (hc : c < 10) : Good (a.sent t c) :=
  good_set g ht ⟨(g.at_ ht).len, (g.at_ ht).val, (show 1 ≤ 2 by decide), fun _ => hc⟩ (Nat.le_refl _) (fun z => absurd z (by show ¬ (1 = 0); decide)) fun q hq z _ _ => absurd z (by show ¬ (1 = 0); decide)
theorem good_claim {a : Abs} (g : Good a) {t : Nat} (ht : t < a.tyres.length) : Good (a.set t fun x => { x with claimed := true }) :=
  good_set g ht ⟨(g.at_ ht).len, (g.at_ ht).val, (g.at_ ht).how, (g.at_ ht).cust⟩ (g.day (a.tyre t) (tyre_mem ht)) (g.inr (a.tyre t) (tyre_mem ht)) fun q hq z e k => absurd ⟨z, e⟩ k
theorem good_back {a : Abs} (g : Good a) {t : Nat} (ht : t < a.tyres.length) (h1 : (a.tyre t).how = 1) : Good (a.set t fun x => { x with how := 2 }) :=
  good_set g ht ⟨(g.at_ ht).len, (g.at_ ht).val, Nat.le_refl _, fun _ => (g.at_ ht).cust (by rw [h1]; decide)⟩ (g.day (a.tyre t) (tyre_mem ht)) (fun z => absurd z (by show ¬ (2 = 0); decide)) fun q hq z _ _ => absurd z (by show ¬ (2 = 0); decide)
theorem good_days {a : Abs} (g : Good a) (n : Nat) : Good { a with today := a.today + n } :=
  ⟨g.ty, fun t ht => Nat.le_trans (g.day t ht) (Nat.le_add_right ..), g.inr, g.nT, g.nR, g.room, g.rnd, g.rok, g.nRec⟩
theorem good_recall {a : Abs} (g : Good a) {x : Nat × Nat} (hx : OkM x) (hn : x ∉ a.recalled) (h10 : a.recalled.length < 10) : Good { a with recalled := a.recalled ++ [x] } :=
  ⟨g.ty, g.day, g.inr, g.nT, g.nR, g.room, by
    show (a.recalled ++ [x]).Nodup
    rw [List.nodup_append]
    exact ⟨g.rnd, by simp, fun y hy z hz e => hn (by rw [List.mem_singleton.mp hz] at e; exact e ▸ hy)⟩, fun y hy => by
    rcases List.mem_append.mp hy with m | m
    · exact g.rok y m
    · rw [List.mem_singleton.mp m]; exact hx, by show (a.recalled ++ [x]).length ≤ 10; rw [List.length_append, List.length_singleton]; omega⟩
theorem good_lift {a : Abs} (g : Good a) (x : Nat × Nat) : Good { a with recalled := a.recalled.filter fun y => y != x } :=
  ⟨g.ty, g.day, g.inr, g.nT, g.nR, g.room, g.rnd.filter _, fun y hy => g.rok y (List.mem_filter.mp hy).1, Nat.le_trans (List.length_filter_le ..) g.nRec⟩
theorem erase_is {l : List (Nat × Nat)} (nd : l.Nodup) (x : Nat × Nat) : l.erase x = l.filter fun y => y != x := nd.erase_eq_filter x
theorem lift_len {l : List (Nat × Nat)} (nd : l.Nodup) {x : Nat × Nat} (h : x ∈ l) : (l.filter fun y => y != x).length = l.length - 1 := by
  rw [← erase_is nd, List.length_erase_of_mem h]
theorem room_int {a : Abs} (g : Good a) {r : Nat} (h : r < a.racks.length) : ((a.racks.getD r 0 : Nat) : Int) - ((a.inRack r).length : Int) = ((a.racks.getD r 0 - (a.inRack r).length : Nat) : Int) := by
  have := g.room r h; omega
theorem room_zero {a : Abs} {r : Nat} : decide (((a.racks.getD r 0 : Nat) : Int) - ((a.inRack r).length : Int) = 0) = true → a.full r = true := fun h => by
  have := of_decide_eq_true h; exact full_iff.mpr (by omega)
theorem room_full {a : Abs} (g : Good a) {r : Nat} (h : r < a.racks.length) : decide (((a.racks.getD r 0 : Nat) : Int) - ((a.inRack r).length : Int) = 0) = a.full r := by
  have := g.room r h
  cases q : a.full r with
  | true => have := full_iff.mp q; exact decide_eq_true (by omega)
  | false => exact decide_eq_false fun e => by rw [room_zero (decide_eq_true e)] at q; cases q
end Rt
end

section
namespace Rt
open Su69

/-! ### the calls as numbers -/
def enc : Call → List Int
  | .begin_ => [0]
  | .rack n => [1, n]
  | .put r l => 2 :: r :: (l.length : Int) :: l.map fun (x : Nat) => (x : Int)
  | .move t r => [3, t, r]
  | .send t c => [4, t, c]
  | .oldest k v c => [5, k, v, c]
  | .days n => [6, n]
  | .claim t => [7, t]
  | .back t => [8, t]
  | .recall k v => [9, k, v]
  | .lift k v => [10, k, v]
  | .common => [11]
  | .narrow => [12]
  | .two => [13]
  | .rate k v => [14, k, v]
  | .worst n => [15, n]
  | .who k v => [16, k, v]
  | .left => [17]
  | .blocked => [18]
  | .stock r => [19, r]
  | .with_ k v => [20, k, v]
  | .sentTo c => [21, c]
  | .next => [22]
  | .look t => [23, t]
  | .sums => [24]
  | .state => [25]
/-- what is answered, all calls -/
def ans (x : Ans) : List Int := x.value :: Su69Neutral.outs x.out
def toldOf : Option Abs → List Call → List Int
  | _, [] => []
  | s, c :: r => (((ans (step s c).2).length : Nat) : Int) :: ans (step s c).2 ++ toldOf (step s c).1 r
theorem nat_of {z : Int} (h : PyInside.within 0 4294967295 z = true) : ∃ n : Nat, z = n := by
  unfold PyInside.within at h
  simp only [Bool.and_eq_true, decide_eq_true_eq] at h
  exact ⟨z.toNat, by omega⟩
theorem nats_of : ∀ {l : List Int}, l.all (PyInside.within 0 4294967295) = true → ∃ ns : List Nat, l = ns.map fun (x : Nat) => (x : Int)
  | [], _ => ⟨[], rfl⟩
  | z :: r, h => by
    rw [List.all_cons, Bool.and_eq_true] at h
    obtain ⟨n, rfl⟩ := nat_of h.1
    obtain ⟨ns, rfl⟩ := nats_of h.2
    exact ⟨n :: ns, rfl⟩
theorem toNat_map (ns : List Nat) : (ns.map fun (x : Nat) => (x : Int)).map Int.toNat = ns := by
  rw [List.map_map]
  exact (List.map_congr_left (g := id) fun x _ => by simp).trans (List.map_id _)
theorem call_fin {c : List (List Int)} {cl : Call} (e : Su69Neutral.callOf ((PySu69.whole c).headD []) = some cl) (s : Option Abs) : Su69Neutral.step s ((PySu69.whole c).headD []) = ((step s cl).1, ans (step s cl).2) := by
  unfold Su69Neutral.step; rw [e]; rfl
/-- a call without a row -/
theorem call_no0 {p : Int} {r t : List Int} {c : List (List Int)} (h : PyFlat.call PySu69.shape (p :: r) = some (c, t)) {n : Nat} (e : PySu69.shape p = some (n, 0)) : n ≤ r.length ∧ c = [p :: r.take n] ∧ t = r.drop n := by
  simp only [PyFlat.call, e, PyFlat.rows] at h
  by_cases hl : r.length < n
  · rw [if_pos hl] at h; cases h
  · rw [if_neg hl] at h
    cases Option.some.inj h
    exact ⟨by omega, rfl, rfl⟩
theorem call_z {p : Int} {r t : List Int} {c : List (List Int)} (h : PyFlat.call PySu69.shape (p :: r) = some (c, t)) (e : PySu69.shape p = some (0, 0)) {cl : Call} (e1 : enc cl = [p]) (e2 : Su69Neutral.callOf ((PySu69.whole [[p]]).headD []) = some cl) :
    p :: r = enc cl ++ t ∧ ∀ s : Option Abs, Su69Neutral.step s ((PySu69.whole c).headD []) = ((step s cl).1, ans (step s cl).2) := by
  obtain ⟨_, rfl, rfl⟩ := call_no0 h e
  rw [e1]
  exact ⟨rfl, call_fin e2⟩
theorem call_o {p : Int} {r t : List Int} {c : List (List Int)} (h : PyFlat.call PySu69.shape (p :: r) = some (c, t)) (e : PySu69.shape p = some (1, 0)) (hb : PyInside.call PySu69.bound c = true) (eb : PySu69.bound p = ([(0, 4294967295)], [])) {cl : Nat → Call} (e1 : ∀ x : Nat, enc (cl x) = [p, (x : Int)]) (e2 : ∀ x : Nat, Su69Neutral.callOf ((PySu69.whole [[p, (x : Int)]]).headD []) = some (cl x)) :
    ∃ x : Nat, p :: r = enc (cl x) ++ t ∧ ∀ s : Option Abs, Su69Neutral.step s ((PySu69.whole c).headD []) = ((step s (cl x)).1, ans (step s (cl x)).2) := by
  obtain ⟨hl, rfl, rfl⟩ := call_no0 h e
  match r, hl with
  | z :: q, _ =>
    simp only [List.take_succ_cons, List.take_zero, PyInside.call, eb, PyInside.each, PyInside.lists, Bool.and_true] at hb
    obtain ⟨x, rfl⟩ := nat_of hb
    exact ⟨x, by rw [e1]; rfl, call_fin (e2 x)⟩
theorem call_t {p : Int} {r t : List Int} {c : List (List Int)} (h : PyFlat.call PySu69.shape (p :: r) = some (c, t)) (e : PySu69.shape p = some (2, 0)) (hb : PyInside.call PySu69.bound c = true) (eb : PySu69.bound p = ([(0, 4294967295), (0, 4294967295)], [])) {cl : Nat → Nat → Call} (e1 : ∀ x y : Nat, enc (cl x y) = [p, (x : Int), (y : Int)]) (e2 : ∀ x y : Nat, Su69Neutral.callOf ((PySu69.whole [[p, (x : Int), (y : Int)]]).headD []) = some (cl x y)) :
    ∃ x y : Nat, p :: r = enc (cl x y) ++ t ∧ ∀ s : Option Abs, Su69Neutral.step s ((PySu69.whole c).headD []) = ((step s (cl x y)).1, ans (step s (cl x y)).2) := by
  obtain ⟨hl, rfl, rfl⟩ := call_no0 h e
  match r, hl with
  | z :: z2 :: q, _ =>
    simp only [List.take_succ_cons, List.take_zero, PyInside.call, eb, PyInside.each, PyInside.lists, Bool.and_true, Bool.and_eq_true] at hb
    obtain ⟨x, rfl⟩ := nat_of hb.1
    obtain ⟨y, rfl⟩ := nat_of hb.2
    exact ⟨x, y, by rw [e1]; rfl, call_fin (e2 x y)⟩
/-- one call taken off -/
theorem call_is {l t : List Int} {c : List (List Int)} (h : PyFlat.call PySu69.shape l = some (c, t)) (hb : PyInside.call PySu69.bound c = true) :
    ∃ cl : Call, l = enc cl ++ t ∧ ∀ s : Option Abs, Su69Neutral.step s ((PySu69.whole c).headD []) = ((step s cl).1, ans (step s cl).2) := by
  cases l with
  | nil => cases h
  | cons p r =>
    by_cases h0 : p = 0
    · subst h0
      exact ⟨_, call_z (cl := .begin_) h (by decide) rfl rfl⟩
    by_cases h1 : p = 1
    · subst h1
      obtain ⟨x, q⟩ := call_o (cl := fun x => .rack x) h (by decide) hb (by decide) (fun _ => rfl) (fun x => by first | rfl | simp [PySu69.whole, Su69Neutral.callOf])
      exact ⟨_, q⟩
    by_cases h2 : p = 2
    · subst h2
      have es : PySu69.shape 2 = some (1, 1) := by decide
      have eb : PySu69.bound 2 = ([(0, 4294967295)], [(0, 4294967295, 0, 8)]) := by decide
      match r with
      | [] => simp [PyFlat.call, es] at h
      | [z] => simp [PyFlat.call, es, PyFlat.rows, PyFlat.row] at h
      | z :: n :: q =>
        simp only [PyFlat.call, es, PyFlat.rows, PyFlat.row] at h
        rw [if_neg (by simp)] at h
        simp only [List.drop_succ_cons, List.drop_zero, List.take_succ_cons, List.take_zero] at h
        by_cases hn : 0 ≤ n ∧ n.toNat ≤ q.length
        · rw [if_pos hn] at h
          cases Option.some.inj h
          simp only [PyInside.call, eb, PyInside.each, PyInside.lists, Bool.and_true, Bool.and_eq_true] at hb
          obtain ⟨x, rfl⟩ := nat_of hb.1
          obtain ⟨ns, e⟩ := nats_of hb.2.2
          have hl : ns.length = n.toNat := by
            have := congrArg List.length e
            rw [List.length_take, List.length_map] at this; omega
          refine ⟨.put x ns, ?_, call_fin ?_⟩
          · have e3 : ((ns.length : Nat) : Int) = n := by rw [hl]; omega
            show 2 :: (x : Int) :: n :: q = (2 :: (x : Int) :: ((ns.length : Nat) : Int) :: ns.map fun (x : Nat) => (x : Int)) ++ q.drop n.toNat
            rw [e3, ← e]
            show _ = 2 :: (x : Int) :: n :: (q.take n.toNat ++ q.drop n.toNat)
            rw [List.take_append_drop]
          · rw [e]
            show some (Call.put x (((ns.map fun (x : Nat) => (x : Int))).map Int.toNat)) = _
            rw [toNat_map]
        · rw [if_neg hn] at h; cases h
    by_cases h3 : p = 3
    · subst h3
      obtain ⟨x, y, q⟩ := call_t (cl := fun x y => .move x y) h (by decide) hb (by decide) (fun _ _ => rfl) (fun x y => by first | rfl | simp [PySu69.whole, Su69Neutral.callOf])
      exact ⟨_, q⟩
    by_cases h4 : p = 4
    · subst h4
      obtain ⟨x, y, q⟩ := call_t (cl := fun x y => .send x y) h (by decide) hb (by decide) (fun _ _ => rfl) (fun x y => by first | rfl | simp [PySu69.whole, Su69Neutral.callOf])
      exact ⟨_, q⟩
    by_cases h5 : p = 5
    · subst h5
      obtain ⟨hl, rfl, rfl⟩ := call_no0 (n := 3) h (by decide)
      match r, hl with
      | z :: z2 :: z3 :: q, _ =>
        have eb : PySu69.bound 5 = ([(0, 4294967295), (0, 4294967295), (0, 4294967295)], []) := by decide
        simp only [List.take_succ_cons, List.take_zero, PyInside.call, eb, PyInside.each, PyInside.lists, Bool.and_true, Bool.and_eq_true] at hb
        obtain ⟨x, rfl⟩ := nat_of hb.1
        obtain ⟨y, rfl⟩ := nat_of hb.2.1
        obtain ⟨z, rfl⟩ := nat_of hb.2.2
        exact ⟨.oldest x y z, rfl, call_fin rfl⟩
    by_cases h6 : p = 6
    · subst h6
      obtain ⟨x, q⟩ := call_o (cl := fun x => .days x) h (by decide) hb (by decide) (fun _ => rfl) (fun x => by first | rfl | simp [PySu69.whole, Su69Neutral.callOf])
      exact ⟨_, q⟩
    by_cases h7 : p = 7
    · subst h7
      obtain ⟨x, q⟩ := call_o (cl := fun x => .claim x) h (by decide) hb (by decide) (fun _ => rfl) (fun x => by first | rfl | simp [PySu69.whole, Su69Neutral.callOf])
      exact ⟨_, q⟩
    by_cases h8 : p = 8
    · subst h8
      obtain ⟨x, q⟩ := call_o (cl := fun x => .back x) h (by decide) hb (by decide) (fun _ => rfl) (fun x => by first | rfl | simp [PySu69.whole, Su69Neutral.callOf])
      exact ⟨_, q⟩
    by_cases h9 : p = 9
    · subst h9
      obtain ⟨x, y, q⟩ := call_t (cl := fun x y => .recall x y) h (by decide) hb (by decide) (fun _ _ => rfl) (fun x y => by first | rfl | simp [PySu69.whole, Su69Neutral.callOf])
      exact ⟨_, q⟩
    by_cases h10 : p = 10
    · subst h10
      obtain ⟨x, y, q⟩ := call_t (cl := fun x y => .lift x y) h (by decide) hb (by decide) (fun _ _ => rfl) (fun x y => by first | rfl | simp [PySu69.whole, Su69Neutral.callOf])
      exact ⟨_, q⟩
    by_cases h11 : p = 11
    · subst h11
      exact ⟨_, call_z (cl := .common) h (by decide) rfl rfl⟩
    by_cases h12 : p = 12
    · subst h12
      exact ⟨_, call_z (cl := .narrow) h (by decide) rfl rfl⟩
    by_cases h13 : p = 13
    · subst h13
      exact ⟨_, call_z (cl := .two) h (by decide) rfl rfl⟩
    by_cases h14 : p = 14
    · subst h14
      obtain ⟨x, y, q⟩ := call_t (cl := fun x y => .rate x y) h (by decide) hb (by decide) (fun _ _ => rfl) (fun x y => by first | rfl | simp [PySu69.whole, Su69Neutral.callOf])
      exact ⟨_, q⟩
    by_cases h15 : p = 15
    · subst h15
      obtain ⟨x, q⟩ := call_o (cl := fun x => .worst x) h (by decide) hb (by decide) (fun _ => rfl) (fun x => by first | rfl | simp [PySu69.whole, Su69Neutral.callOf])
      exact ⟨_, q⟩
    by_cases h16 : p = 16
    · subst h16
      obtain ⟨x, y, q⟩ := call_t (cl := fun x y => .who x y) h (by decide) hb (by decide) (fun _ _ => rfl) (fun x y => by first | rfl | simp [PySu69.whole, Su69Neutral.callOf])
      exact ⟨_, q⟩
    by_cases h17 : p = 17
    · subst h17
      exact ⟨_, call_z (cl := .left) h (by decide) rfl rfl⟩
    by_cases h18 : p = 18
    · subst h18
      exact ⟨_, call_z (cl := .blocked) h (by decide) rfl rfl⟩
    by_cases h19 : p = 19
    · subst h19
      obtain ⟨x, q⟩ := call_o (cl := fun x => .stock x) h (by decide) hb (by decide) (fun _ => rfl) (fun x => by first | rfl | simp [PySu69.whole, Su69Neutral.callOf])
      exact ⟨_, q⟩
    by_cases h20 : p = 20
    · subst h20
      obtain ⟨x, y, q⟩ := call_t (cl := fun x y => .with_ x y) h (by decide) hb (by decide) (fun _ _ => rfl) (fun x y => by first | rfl | simp [PySu69.whole, Su69Neutral.callOf])
      exact ⟨_, q⟩
    by_cases h21 : p = 21
    · subst h21
      obtain ⟨x, q⟩ := call_o (cl := fun x => .sentTo x) h (by decide) hb (by decide) (fun _ => rfl) (fun x => by first | rfl | simp [PySu69.whole, Su69Neutral.callOf])
      exact ⟨_, q⟩
    by_cases h22 : p = 22
    · subst h22
      exact ⟨_, call_z (cl := .next) h (by decide) rfl rfl⟩
    by_cases h23 : p = 23
    · subst h23
      obtain ⟨x, q⟩ := call_o (cl := fun x => .look x) h (by decide) hb (by decide) (fun _ => rfl) (fun x => by first | rfl | simp [PySu69.whole, Su69Neutral.callOf])
      exact ⟨_, q⟩
    by_cases h24 : p = 24
    · subst h24
      exact ⟨_, call_z (cl := .sums) h (by decide) rfl rfl⟩
    by_cases h25 : p = 25
    · subst h25
      exact ⟨_, call_z (cl := .state) h (by decide) rfl rfl⟩
    have : PySu69.shape p = none := by unfold PySu69.shape; simp [h0, h1, h2, h3, h4, h5, h6, h7, h8, h9, h10, h11, h12, h13, h14, h15, h16, h17, h18, h19, h20, h21, h22, h23, h24, h25]
    simp only [PyFlat.call, this] at h
    cases h
theorem calls_are : ∀ (f : Nat) (l : List Int) (cs : List (List (List Int))), PyFlat.calls PySu69.shape f l = some cs → PyInside.calls PySu69.bound cs = true →
    ∃ cls : List Call, cls.length = cs.length ∧ l = cls.flatMap enc ∧ ∀ s : Option Abs, PyFlat.told (PyFlat.played (fun s c => Su69Neutral.step s (c.headD [])) s (cs.map PySu69.whole)) = toldOf s cls
  | 0, [], cs, h, _ => by cases h; exact ⟨[], rfl, rfl, fun s => rfl⟩
  | f + 1, [], cs, h, _ => by cases h; exact ⟨[], rfl, rfl, fun s => rfl⟩
  | 0, p :: r, cs, h, _ => by cases h
  | f + 1, p :: r, cs, h, hb => by
    simp only [PyFlat.calls] at h
    cases e : PyFlat.call PySu69.shape (p :: r) with
    | none => rw [e] at h; cases h
    | some ct =>
      obtain ⟨c, t⟩ := ct
      rw [e] at h
      simp only at h
      cases e2 : PyFlat.calls PySu69.shape f t with
      | none => rw [e2] at h; cases h
      | some cs' =>
        rw [e2] at h
        cases h
        simp only [PyInside.calls, List.all_cons, Bool.and_eq_true] at hb
        obtain ⟨cl, e3, e4⟩ := call_is e hb.1
        obtain ⟨cls, n5, e5, e6⟩ := calls_are f t cs' e2 hb.2
        refine ⟨cl :: cls, by rw [List.length_cons, List.length_cons, n5], by rw [e3, e5, List.flatMap_cons], fun s => ?_⟩
        have e7 := e6 (step s cl).1
        show PyFlat.told (PyFlat.played _ s (PySu69.whole c :: cs'.map PySu69.whole)) = _
        simp only [PyFlat.played, e4]
        show (PyFlat.told _) = (((ans (step s cl).2).length : Nat) : Int) :: ans (step s cl).2 ++ toldOf (step s cl).1 cls
        rw [← e7]
        rfl
theorem asked_calls {l : List Int} (h : PySu69.answers_asked l = true) : ∃ cls : List Call, l = cls.flatMap enc ∧ PySu69.answers l = toldOf none cls ∧ (toldOf none cls).length ≤ 10000000 := by
  unfold PySu69.answers_asked at h
  cases e : PyFlat.calls PySu69.shape l.length l with
  | none => rw [e] at h; cases h
  | some raw =>
    rw [e] at h
    simp only [Bool.and_eq_true] at h
    obtain ⟨⟨⟨⟨h1, h2⟩, h3⟩, h4⟩, h5⟩ := h
    obtain ⟨cls, n, e1, e2⟩ := calls_are _ _ _ e h3
    have e3 : PySu69.answers l = toldOf none cls := by
      unfold PySu69.answers PySu69.calls
      rw [e]
      exact e2 none
    refine ⟨cls, e1, e3, ?_⟩
    rw [← e3]
    exact of_decide_eq_true h5
end Rt
end

section
namespace RtS
open PySem PySem.SetTable

/-! ### a run through all places -/
def itr {α : Type} (f : α → α) : Nat → α → α
  | 0, x => x
  | n + 1, x => itr f n (f x)
theorem itr_add {α : Type} (f : α → α) : ∀ (m n : Nat) (x : α), itr f (m + n) x = itr f n (itr f m x)
  | 0, n, x => by rw [Nat.zero_add]; rfl
  | m + 1, n, x => by rw [Nat.succ_add]; exact itr_add f m n (f x)
def stp (mask i : Nat) : Nat := (i * 5 + 1) % (mask + 1)
def orb (mask : Nat) : Nat → Nat → List Nat
  | 0, _ => []
  | n + 1, i => i :: orb mask n (stp mask i)
def runs (mask : Nat) : Bool := (itr (stp mask) (mask + 1) 0 == 0) && (List.range (mask + 1)).all fun e => (orb mask (mask + 1) 0).contains e
theorem runs7 : runs 7 = true := by decide +kernel
theorem runs31 : runs 31 = true := by decide +kernel
theorem runs127 : runs 127 = true := by decide +kernel
theorem runs511 : runs 511 = true := by decide +kernel
theorem mem_orb {mask : Nat} : ∀ {n i e : Nat}, e ∈ orb mask n i → ∃ q, q < n ∧ itr (stp mask) q i = e
  | 0, i, e, h => by cases h
  | n + 1, i, e, h => by
    rcases List.mem_cons.mp h with z | z
    · exact ⟨0, Nat.succ_pos _, z.symm⟩
    · obtain ⟨q, hq, e2⟩ := mem_orb z
      exact ⟨q + 1, Nat.succ_lt_succ hq, e2⟩
/-- from any place to any place -/
theorem runs_all {mask : Nat} (h : runs mask = true) {i e : Nat} (hi : i ≤ mask) (he : e ≤ mask) : ∃ n, n ≤ mask ∧ itr (stp mask) n i = e := by
  unfold runs at h
  rw [Bool.and_eq_true, beq_iff_eq, List.all_eq_true] at h
  obtain ⟨h0, h1⟩ := h
  have at_ : ∀ x, x ≤ mask → ∃ q, q < mask + 1 ∧ itr (stp mask) q 0 = x := fun x hx =>
    mem_orb (List.contains_iff_mem.mp (h1 x (List.mem_range.mpr (by omega))))
  obtain ⟨p, hp, ep⟩ := at_ i hi
  obtain ⟨q, hq, eq⟩ := at_ e he
  by_cases c : p ≤ q
  · refine ⟨q - p, by omega, ?_⟩
    rw [← ep, ← itr_add, Nat.add_sub_cancel' c, eq]
  · refine ⟨mask + 1 - p + q, by omega, ?_⟩
    rw [← ep, ← itr_add, show p + (mask + 1 - p + q) = (mask + 1) + q by omega, itr_add, h0, eq]

/-! ### the probe -/
def at0 (mask i q : Nat) : Probe := { j := i, more := runEnd mask i - i, i, perturb := q, dummy := none }
theorem runEnd_sub (mask i : Nat) : runEnd mask i - i ≤ 9 := by unfold runEnd; split <;> omega
theorem adv_more (t : SetTable) : ∀ (r : Nat) (p : Probe), p.more = r → itr t.advance r p = { p with j := p.j + r, more := 0 }
  | 0, p, h => by obtain ⟨j, more, i, q, d⟩ := p; simp only at h; subst h; rfl
  | r + 1, p, h => by
    have e : t.advance p = { p with j := p.j + 1, more := p.more - 1 } := by unfold advance; rw [if_pos (by omega)]
    show itr t.advance r (t.advance p) = _
    rw [e, adv_more t r _ (by show p.more - 1 = r; omega)]
    show Probe.mk (p.j + 1 + r) 0 p.i p.perturb p.dummy = Probe.mk (p.j + (r + 1)) 0 p.i p.perturb p.dummy
    rw [Nat.add_assoc, Nat.add_comm 1 r]
theorem adv_leap (t : SetTable) (i q : Nat) : ∃ n, n ≤ 10 ∧ itr t.advance n (at0 t.mask i q) = at0 t.mask (leap t.mask i q).1 (leap t.mask i q).2 := by
  refine ⟨runEnd t.mask i - i + 1, by have := runEnd_sub t.mask i; omega, ?_⟩
  rw [itr_add, adv_more t (runEnd t.mask i - i) (at0 t.mask i q) rfl]
  rfl
def lps (mask : Nat) : Nat → Nat × Nat → Nat × Nat
  | 0, x => x
  | n + 1, x => lps mask n (leap mask x.1 x.2)
theorem adv_leaps (t : SetTable) : ∀ (m : Nat) (x : Nat × Nat), ∃ n, n ≤ 10 * m ∧ itr t.advance n (at0 t.mask x.1 x.2) = at0 t.mask (lps t.mask m x).1 (lps t.mask m x).2
  | 0, x => ⟨0, Nat.le_refl _, rfl⟩
  | m + 1, x => by
    obtain ⟨n, hn, e⟩ := adv_leap t x.1 x.2
    obtain ⟨k, hk, e2⟩ := adv_leaps t m (leap t.mask x.1 x.2)
    exact ⟨n + k, by omega, by rw [itr_add, e, e2]; rfl⟩
theorem lps_add (mask : Nat) : ∀ (m n : Nat) (x : Nat × Nat), lps mask (m + n) x = lps mask n (lps mask m x)
  | 0, n, x => by rw [Nat.zero_add]; rfl
  | m + 1, n, x => by rw [Nat.succ_add]; exact lps_add mask m n _
theorem lps_q (mask : Nat) : ∀ (m : Nat) (x : Nat × Nat), (lps mask m x).2 = x.2 / 32 ^ m
  | 0, x => by simp [lps]
  | m + 1, x => by
    show (lps mask m (leap mask x.1 x.2)).2 = _
    rw [lps_q mask m]
    show x.2 / 32 / 32 ^ m = _
    rw [Nat.div_div_eq_div_mul, Nat.pow_succ, Nat.mul_comm]
theorem lps_0 (mask : Nat) : ∀ (m i : Nat), lps mask m (i, 0) = (itr (stp mask) m i, 0)
  | 0, i => rfl
  | m + 1, i => by
    show lps mask m (leap mask i 0) = _
    have e : leap mask i 0 = (stp mask i, 0) := by unfold leap stp; simp
    rw [e, lps_0 mask m]; rfl
theorem lps_lt (mask : Nat) {m : Nat} (hm : 0 < m) (x : Nat × Nat) : (lps mask m x).1 ≤ mask := by
  obtain ⟨k, rfl⟩ : ∃ k, m = k + 1 := ⟨m - 1, by omega⟩
  rw [lps_add]
  show (leap mask _ _).1 ≤ mask
  unfold leap
  exact Nat.le_of_lt_succ (Nat.mod_lt _ (Nat.succ_pos _))
/-- leaps that end at any place -/
theorem leaps_reach {mask : Nat} (h : runs mask = true) {x : Nat × Nat} (hq : x.2 < 2 ^ 64) {e : Nat} (he : e ≤ mask) : ∃ m q, m ≤ mask + 13 ∧ lps mask m x = (e, q) := by
  have h13 : (lps mask 13 x).2 = 0 := by
    rw [lps_q]
    refine Nat.div_eq_of_lt (Nat.lt_of_lt_of_le hq ?_)
    decide
  obtain ⟨n, hn, en⟩ := runs_all h (lps_lt mask (m := 13) (by decide) x) he
  refine ⟨13 + n, 0, by omega, ?_⟩
  rw [lps_add]
  have : lps mask 13 x = ((lps mask 13 x).1, 0) := Prod.ext rfl h13
  rw [this, lps_0, en]
theorem bits_lt (h : Int) : bits h < 2 ^ 64 := by
  unfold bits
  have h1 : (0 : Int) ≤ h % (2 ^ 64 : Int) := Int.emod_nonneg _ (by decide)
  have h2 : h % (2 ^ 64 : Int) < (2 ^ 64 : Int) := Int.emod_lt_of_pos _ (by decide)
  have h3 : (2 ^ 64 : Int) = 18446744073709551616 := by decide
  rw [h3] at h1 h2 ⊢
  have : (2 ^ 64 : Nat) = 18446744073709551616 := by decide
  omega
theorem start_reach (t : SetTable) (hr : runs t.mask = true) (h : Int) {e : Nat} (he : e ≤ t.mask) : ∃ n, n ≤ 10 * (t.mask + 13) ∧ (itr t.advance n (t.probeStart h)).j = e ∧ (itr t.advance n (t.probeStart h)).dummy = none := by
  obtain ⟨m, q, hm, e1⟩ := leaps_reach hr (x := (bits h % (t.mask + 1), bits h)) (bits_lt h) he
  obtain ⟨n, hn, e2⟩ := adv_leaps t m (bits h % (t.mask + 1), bits h)
  have e3 : t.probeStart h = at0 t.mask (bits h % (t.mask + 1)) (bits h) := rfl
  exact ⟨n, by omega, by rw [e3, e2, e1]; rfl, by rw [e3, e2]; rfl⟩
/-- nothing was taken out -/
theorem slot_cases {t : SetTable} (hd : t.dummies = #[]) (j : Nat) : (t.slot j = .empty ∧ t.place[below t.place j]? ≠ some j) ∨ ∃ i, t.slot j = .live i ∧ t.place[i]? = some j := by
  unfold slot
  by_cases h : t.place[below t.place j]? = some j
  · exact .inr ⟨_, by simp [h], h⟩
  · refine .inl ⟨?_, h⟩
    have h2 : (t.place[below t.place j]? == some j) = false := by simpa using h
    have h3 : has t.dummies j = false := by rw [hd]; simp [has]
    simp [h2, h3]
theorem adv_dummy (t : SetTable) (p : Probe) : (t.advance p).dummy = p.dummy := by unfold advance; split <;> rfl
/-- a probe ahead of an empty place comes to it, or to one of the hash -/
theorem probe_go {t : SetTable} (hd : t.dummies = #[]) (ha : Nat → Int) (h : Int) : ∀ (n fuel : Nat) (p : Probe), n < fuel → p.dummy = none → t.slot (itr t.advance n p).j = .empty →
    (∃ j, probe.go t ha h fuel p = some (.empty j none) ∧ t.slot j = .empty) ∨
    (∃ j i next m, probe.go t ha h fuel p = some (.candidate j i next) ∧ t.slot j = .live i ∧ ha i = h ∧ m < n ∧ next = itr t.advance (m + 1) p)
  | n, 0, p, hf, _, _ => absurd hf (Nat.not_lt_zero _)
  | n, fuel + 1, p, hf, hp, he => by
    rcases slot_cases hd p.j with ⟨s1, _⟩ | ⟨i, s1, _⟩
    · exact .inl ⟨p.j, by simp only [probe.go, s1, hp], s1⟩
    · cases n with
      | zero => rw [show (itr t.advance 0 p) = p from rfl, s1] at he; cases he
      | succ n =>
        by_cases hh : ha i = h
        · exact .inr ⟨p.j, i, t.advance p, 0, by simp [probe.go, s1, hh], s1, hh, Nat.succ_pos _, rfl⟩
        · have e1 : probe.go t ha h (fuel + 1) p = probe.go t ha h fuel (t.advance p) := by simp [probe.go, s1, hh]
          rw [e1]
          rcases probe_go hd ha h n fuel (t.advance p) (by omega) (by rw [adv_dummy]; exact hp) he with ⟨j, a1, a2⟩ | ⟨j, i', nx, m, a1, a2, a3, a4, a5⟩
          · exact .inl ⟨j, a1, a2⟩
          · exact .inr ⟨j, i', nx, m + 1, a1, a2, a3, by omega, a5⟩
theorem nodup_le {α : Type} [DecidableEq α] : ∀ (l m : List α), l.Nodup → (∀ x ∈ l, x ∈ m) → l.length ≤ m.length
  | [], m, _, _ => Nat.zero_le _
  | x :: l, m, nd, h => by
    obtain ⟨n1, n2⟩ := List.nodup_cons.mp nd
    have hx := h x (List.mem_cons_self ..)
    have ih := nodup_le l (m.erase x) n2 fun y hy => by
      have ne : y ≠ x := fun e => n1 (by rw [← e]; exact hy)
      exact (List.mem_erase_of_ne ne).mpr (h y (List.mem_cons_of_mem _ hy))
    rw [List.length_erase_of_mem hx] at ih
    have : 0 < m.length := List.length_pos_of_mem hx
    rw [List.length_cons]; omega
/-- some place is empty -/
theorem some_empty {t : SetTable} (hd : t.dummies = #[]) (hf : t.place.size ≤ t.mask) : ∃ e, e ≤ t.mask ∧ t.slot e = .empty := by
  refine Classical.byContradiction fun hc => ?_
  have hc : ∀ e, e ≤ t.mask → ¬ t.slot e = .empty := fun e he q => hc ⟨e, he, q⟩
  have := nodup_le (List.range (t.mask + 1)) t.place.toList List.nodup_range fun e he => by
    rcases slot_cases hd e with ⟨s1, _⟩ | ⟨i, _, s2⟩
    · exact absurd s1 (hc e (by have := List.mem_range.mp he; omega))
    · rw [← Array.getElem?_toList] at s2
      exact List.mem_of_getElem? s2
  rw [List.length_range, Array.length_toList] at this
  omega

/-! ### places that rise -/
def Up (l : List Nat) : Prop := l.Pairwise (· < ·)
/-- how many are below -/
def cnt (l : List Nat) (j : Nat) : Nat := (l.filter fun x => decide (x < j)).length
def BOk (xs : Array Nat) (j r : Nat) : Prop := r ≤ xs.size ∧ (∀ i, i < r → xs.getD i j < j) ∧ (∀ i, r ≤ i → i < xs.size → ¬ xs.getD i j < j)
theorem below_go {xs : Array Nat} {j : Nat} (up : ∀ i k, i < k → k < xs.size → xs.getD i j < xs.getD k j) : ∀ (fuel lo hi : Nat), hi - lo ≤ fuel → lo ≤ hi → hi ≤ xs.size → (∀ i, i < lo → xs.getD i j < j) → (∀ i, hi ≤ i → i < xs.size → ¬ xs.getD i j < j) →
    BOk xs j (below.go xs j fuel lo hi)
  | 0, lo, hi, hf, hl, hh, h1, h2 => by
    have : lo = hi := by omega
    subst this
    exact ⟨hh, h1, h2⟩
  | fuel + 1, lo, hi, hf, hl, hh, h1, h2 => by
    unfold below.go
    by_cases c : lo < hi
    · rw [if_pos c]
      by_cases d : xs.getD ((lo + hi) / 2) j < j
      · simp only [if_pos d]
        refine below_go up fuel _ _ (by omega) (by omega) hh (fun i hi' => ?_) h2
        by_cases q : i = (lo + hi) / 2
        · rw [q]; exact d
        · exact Nat.lt_trans (up i ((lo + hi) / 2) (by omega) (by omega)) d
      · simp only [if_neg d]
        refine below_go up fuel _ _ (by omega) (by omega) (by omega) h1 (fun i hi' hs => ?_)
        by_cases q : i = (lo + hi) / 2
        · rw [q]; exact d
        · have := up ((lo + hi) / 2) i (by omega) hs
          omega
    · rw [if_neg c]
      have : lo = hi := by omega
      subst this
      exact ⟨hh, h1, h2⟩
theorem getD_list (xs : Array Nat) (i j : Nat) : xs.getD i j = xs.toList.getD i j := by
  rw [List.getD_eq_getElem?_getD, Array.getElem?_toList, Array.getD_eq_getD_getElem?]
theorem up_get {l : List Nat} (h : Up l) {i k d : Nat} (hi : i < k) (hk : k < l.length) : l.getD i d < l.getD k d := by
  rw [List.getD_eq_getElem?_getD, List.getD_eq_getElem?_getD, List.getElem?_eq_getElem (by omega), List.getElem?_eq_getElem hk]
  exact List.pairwise_iff_getElem.mp h i k (by omega) hk hi
/-- the place of j among the rising -/
theorem below_is {xs : Array Nat} (h : Up xs.toList) (j : Nat) : below xs j ≤ xs.size ∧ (∀ i x, xs[i]? = some x → i < below xs j → x < j) ∧ (∀ i x, xs[i]? = some x → below xs j ≤ i → j ≤ x) := by
  have := below_go (xs := xs) (j := j) (fun i k hi hk => by rw [getD_list, getD_list]; exact up_get h hi (by simpa using hk)) xs.size 0 xs.size (by omega) (Nat.zero_le _) (Nat.le_refl _) (fun i hi => absurd hi (Nat.not_lt_zero _)) (fun i h1 h2 => absurd h2 (by omega))
  obtain ⟨a, b, c⟩ := this
  have gd : ∀ i x, xs[i]? = some x → xs.getD i j = x ∧ i < xs.size := fun i x e => by
    obtain ⟨hs, _⟩ := Array.getElem?_eq_some_iff.mp e
    exact ⟨by rw [Array.getD_eq_getD_getElem?, e]; rfl, hs⟩
  refine ⟨a, fun i x e hi => ?_, fun i x e hi => ?_⟩
  · obtain ⟨e1, _⟩ := gd i x e
    rw [← e1]; exact b i hi
  · obtain ⟨e1, hs⟩ := gd i x e
    have := c i hi hs
    rw [e1] at this; omega
theorem ins_list {α : Type} (xs : Array α) (p : Nat) (x : α) (hp : p ≤ xs.size) : (insertAt xs p x).toList = xs.toList.take p ++ x :: xs.toList.drop p := by
  unfold insertAt
  simp only [Array.toList_append, Array.toList_push, Array.toList_extract, List.extract_eq_take_drop, List.drop_zero, Nat.sub_zero, List.append_assoc, List.singleton_append]
  congr 2
  rw [List.take_of_length_le (by rw [List.length_drop, Array.length_toList]; omega)]
theorem ins_size {α : Type} (xs : Array α) (p : Nat) (x : α) (hp : p ≤ xs.size) : (insertAt xs p x).size = xs.size + 1 := by
  rw [← Array.length_toList, ins_list xs p x hp, List.length_append, List.length_cons, List.length_take, List.length_drop, Array.length_toList]; omega
theorem ins_mem {α : Type} {xs : Array α} {p : Nat} {x y : α} (hp : p ≤ xs.size) : y ∈ (insertAt xs p x).toList ↔ y = x ∨ y ∈ xs.toList := by
  rw [ins_list xs p x hp, List.mem_append, List.mem_cons]
  have : y ∈ xs.toList ↔ y ∈ xs.toList.take p ∨ y ∈ xs.toList.drop p := by
    rw [← List.mem_append, List.take_append_drop]
  rw [this]
  constructor
  · rintro (h | h | h)
    · exact .inr (.inl h)
    · exact .inl h
    · exact .inr (.inr h)
  · rintro (h | h | h)
    · exact .inr (.inl h)
    · exact .inl h
    · exact .inr (.inr h)
theorem ins_up {xs : Array Nat} (h : Up xs.toList) {j : Nat} (hn : xs[below xs j]? ≠ some j) : Up (insertAt xs (below xs j) j).toList := by
  obtain ⟨b0, b1, b2⟩ := below_is h j
  rw [ins_list xs _ j b0]
  unfold Up
  rw [List.pairwise_append]
  refine ⟨h.sublist (List.take_sublist ..), ?_, fun x hx y hy => ?_⟩
  · refine List.pairwise_cons.mpr ⟨fun y hy => ?_, h.sublist (List.drop_sublist ..)⟩
    obtain ⟨i, hi, e⟩ := List.mem_iff_getElem.mp hy
    have e2 : xs[below xs j + i]? = some y := by
      rw [← Array.getElem?_toList, ← List.getElem?_drop, List.getElem?_eq_getElem hi, e]
    have h1 := b2 _ y e2 (Nat.le_add_right ..)
    refine Nat.lt_of_le_of_ne h1 fun q => ?_
    subst q
    cases i with
    | zero => exact hn e2
    | succ i =>
      have hlt : below xs j + (i + 1) < xs.size := (Array.getElem?_eq_some_iff.mp e2).1
      obtain ⟨z, ez⟩ : ∃ z, xs[below xs j]? = some z := ⟨xs[below xs j]'(by omega), Array.getElem?_eq_getElem (by omega)⟩
      have k1 := b2 _ z ez (Nat.le_refl _)
      have k2 := up_get h (i := below xs j) (k := below xs j + (i + 1)) (d := 0) (by omega) (by rw [Array.length_toList]; exact hlt)
      rw [← getD_list, ← getD_list, Array.getD_eq_getD_getElem?, Array.getD_eq_getD_getElem?, ez, e2] at k2
      simp only [Option.getD_some] at k2
      omega
  · obtain ⟨i, hi, e⟩ := List.mem_iff_getElem.mp hx
    rw [List.length_take, Array.length_toList] at hi
    rw [List.getElem_take] at e
    have e2 : xs[i]? = some x := by rw [← Array.getElem?_toList, List.getElem?_eq_getElem (by rw [Array.length_toList]; omega), e]
    have k1 := b1 i x e2 (by omega)
    rcases List.mem_cons.mp hy with q | q
    · rw [q]; exact k1
    · obtain ⟨i', hi', e'⟩ := List.mem_iff_getElem.mp q
      have e3 : xs[below xs j + i']? = some y := by
        rw [← Array.getElem?_toList, ← List.getElem?_drop, List.getElem?_eq_getElem hi', e']
      have := b2 _ y e3 (Nat.le_add_right ..)
      omega
/-- behind the i-th place stands the next -/
theorem below_next {xs : Array Nat} (h : Up xs.toList) {i x : Nat} (e : xs[i]? = some x) : below xs (x + 1) = i + 1 := by
  obtain ⟨b0, b1, b2⟩ := below_is h (x + 1)
  have hi := (Array.getElem?_eq_some_iff.mp e).1
  have h1 : ¬ below xs (x + 1) ≤ i := fun q => by have := b2 i x e q; omega
  refine Nat.le_antisymm (Nat.le_of_not_lt fun q => ?_) (by omega)
  obtain ⟨y, ey⟩ : ∃ y, xs[i + 1]? = some y := ⟨xs[i + 1]'(by omega), Array.getElem?_eq_getElem (by omega)⟩
  have k1 := b1 (i + 1) y ey (by omega)
  have hi1 := (Array.getElem?_eq_some_iff.mp ey).1
  have k2 := up_get h (i := i) (k := i + 1) (d := 0) (by omega) (by rw [Array.length_toList]; exact hi1)
  rw [← getD_list, ← getD_list, Array.getD_eq_getD_getElem?, Array.getD_eq_getD_getElem?, e, ey] at k2
  simp only [Option.getD_some] at k2
  omega
theorem below_zero {xs : Array Nat} (h : Up xs.toList) : below xs 0 = 0 := by
  obtain ⟨b0, b1, b2⟩ := below_is h 0
  refine Nat.eq_zero_of_not_pos fun q => ?_
  obtain ⟨y, ey⟩ : ∃ y, xs[0]? = some y := ⟨xs[0]'(by omega), Array.getElem?_eq_getElem (by omega)⟩
  exact absurd (b1 0 y ey q) (Nat.not_lt_zero _)
end RtS
end

section
namespace RtS
open PySem PySem.SetTable

/-! ### laid anew -/
theorem find_free {mask : Nat} {owner : Array (Option Nat)} {e : Nat} (he : owner[e]? = some none) : ∀ (m fuel i q : Nat), m < fuel → (lps mask m (i, q)).1 = e → ∃ j, layClean.free mask owner fuel i q = some j ∧ owner[j]? = some none
  | m, 0, i, q, hf, _ => absurd hf (Nat.not_lt_zero _)
  | m, fuel + 1, i, q, hf, hm => by
    unfold layClean.free
    cases hfd : (List.range (runEnd mask i + 1 - i)).find? fun k => (owner.getD (i + k) (some 0)).isNone with
    | some k =>
      refine ⟨i + k, rfl, ?_⟩
      have h1 := List.find?_some hfd
      rw [Array.getD_eq_getD_getElem?] at h1
      cases e1 : owner[i + k]? with
      | none => rw [e1] at h1; cases h1
      | some v =>
        rw [e1] at h1
        cases v with
        | none => rfl
        | some _ => cases h1
    | none =>
      cases m with
      | zero =>
        have e0 : i = e := hm
        subst e0
        have hr : i ≤ runEnd mask i := by unfold runEnd; split <;> omega
        have := List.find?_eq_none.mp hfd 0 (List.mem_range.mpr (by omega))
        exfalso
        apply this
        rw [Nat.add_zero, Array.getD_eq_getD_getElem?, he]
        rfl
      | succ m => exact find_free he m fuel _ _ (by omega) hm
theorem fm_set {k : Nat} : ∀ {l : List (Option Nat)} {j : Nat}, l[j]? = some none → ((l.set j (some k)).filterMap id).Perm (k :: l.filterMap id)
  | [], j, h => by simp at h
  | x :: l, 0, h => by
    have : x = none := by simpa using h
    subst this
    exact List.Perm.refl _
  | x :: l, j + 1, h => by
    have ih := fm_set (k := k) (l := l) (j := j) (by simpa using h)
    rw [List.set_cons_succ]
    cases x with
    | none => exact ih
    | some v =>
      show (v :: ((l.set j (some k)).filterMap id)).Perm (k :: v :: l.filterMap id)
      exact (ih.cons v).trans (List.Perm.swap ..)
theorem fm_none : ∀ {l : List (Option Nat)}, (l.filterMap id).length < l.length → ∃ j : Nat, l[j]? = some none
  | [], h => absurd h (Nat.not_lt_zero _)
  | none :: l, _ => ⟨0, rfl⟩
  | some v :: l, h => by
    obtain ⟨j, e⟩ := fm_none (l := l) (by simpa using h)
    exact ⟨j + 1, by simpa using e⟩
def layStep (mask : Nat) (acc : Option (Array (Option Nat) × Nat)) (h : Int) : Option (Array (Option Nat) × Nat) := do
  let (owner, k) ← acc
  let j ← layClean.free mask owner (turns mask) (bits h % (mask + 1)) (bits h)
  pure (owner.setIfInBounds j (some k), k + 1)
theorem lay_go {mask : Nat} (hr : runs mask = true) : ∀ (hs : List Int) (owner : Array (Option Nat)) (k : Nat), owner.size = mask + 1 → (owner.toList.filterMap id).Perm (List.range k) → k + hs.length ≤ mask →
    ∃ owner', hs.foldl (layStep mask) (some (owner, k)) = some (owner', k + hs.length) ∧ owner'.size = mask + 1 ∧ (owner'.toList.filterMap id).Perm (List.range (k + hs.length))
  | [], owner, k, h1, h2, _ => ⟨owner, rfl, h1, h2⟩
  | h :: hs, owner, k, h1, h2, h3 => by
    rw [List.length_cons] at h3
    obtain ⟨e, he⟩ := fm_none (l := owner.toList) (by rw [h2.length_eq, List.length_range, Array.length_toList, h1]; omega)
    rw [Array.getElem?_toList] at he
    have hlt := (Array.getElem?_eq_some_iff.mp he).1
    obtain ⟨m, q, hm, el⟩ := leaps_reach hr (x := (bits h % (mask + 1), bits h)) (bits_lt h) (e := e) (by omega)
    obtain ⟨j, ej, hj⟩ := find_free he m (turns mask) (bits h % (mask + 1)) (bits h) (by unfold turns; omega) (by rw [el])
    have hjl := (Array.getElem?_eq_some_iff.mp hj).1
    have p2 : ((owner.setIfInBounds j (some k)).toList.filterMap id).Perm (List.range (k + 1)) := by
      rw [Array.toList_setIfInBounds]
      refine (fm_set (by rw [Array.getElem?_toList]; exact hj)).trans ?_
      rw [List.range_succ]
      exact ((h2.cons k).trans (List.perm_append_singleton k (List.range k)).symm)
    obtain ⟨o', e1, e2, e3⟩ := lay_go hr hs (owner.setIfInBounds j (some k)) (k + 1) (by rw [Array.size_setIfInBounds]; exact h1) p2 (by omega)
    have es : layStep mask (some (owner, k)) h = some (owner.setIfInBounds j (some k), k + 1) := by
      show (do let j ← layClean.free mask owner (turns mask) (bits h % (mask + 1)) (bits h); pure (owner.setIfInBounds j (some k), k + 1) : Option _) = _
      rw [ej]; rfl
    refine ⟨o', ?_, e2, by rw [List.length_cons, show k + (hs.length + 1) = k + 1 + hs.length by omega]; exact e3⟩
    rw [List.foldl_cons, es, e1, List.length_cons, show k + (hs.length + 1) = k + 1 + hs.length by omega]
theorem lay_clean {mask : Nat} (hr : runs mask = true) (hs : Array Int) (h : hs.size ≤ mask) : ∃ owner, layClean mask hs = some owner ∧ owner.size = mask + 1 ∧ (owner.toList.filterMap id).Perm (List.range hs.size) := by
  obtain ⟨o, e1, e2, e3⟩ := lay_go hr hs.toList (Array.replicate (mask + 1) none) 0 (by simp) (by
    have : ∀ n, (List.replicate n (none : Option Nat)).filterMap id = [] := fun n => by
      induction n with
      | zero => rfl
      | succ n ih => rw [List.replicate_succ]; exact ih
    rw [Array.toList_replicate, this]; exact List.Perm.refl _) (by rw [Array.length_toList]; omega)
  refine ⟨o, ?_, e2, by simpa using e3⟩
  unfold layClean
  rw [← Array.foldl_toList]
  show (hs.toList.foldl (layStep mask) _).map (·.1) = some o
  rw [e1]; rfl
theorem fm_range {α : Type} : ∀ (l : List (Option α)), (List.range l.length).filterMap (fun j => l.getD j none) = l.filterMap id
  | [] => rfl
  | x :: l => by
    rw [List.length_cons, List.range_succ_eq_map, List.filterMap_cons, List.filterMap_map]
    have : ((fun j => (x :: l).getD j none) ∘ Nat.succ) = fun j => l.getD j none := by funext j; simp
    rw [this, fm_range l]
    simp only [List.getD_cons_zero]
    cases x <;> rfl
theorem laid_ok {mask : Nat} (hr : runs mask = true) (finger moves : Nat) (led plain : Bool) (hs : Array Int) (h : hs.size ≤ mask) :
    ∃ t order, laid mask finger moves led plain hs = some (t, order) ∧ t.mask = mask ∧ t.dummies = #[] ∧ t.led = led ∧ t.plain = plain ∧ t.moves = moves ∧ t.place.size = hs.size ∧ order.size = hs.size ∧ Up t.place.toList ∧ order.toList.Perm (List.range hs.size) := by
  obtain ⟨o, e1, e2, e3⟩ := lay_clean hr hs h
  have eo : ((List.range (mask + 1)).filterMap fun j => (o.getD j none).map (j, ·)).map (·.2) = o.toList.filterMap id := by
    rw [List.map_filterMap, ← fm_range o.toList, Array.length_toList, e2]
    congr 1
    funext j
    rw [Array.getD_eq_getD_getElem?, List.getD_eq_getElem?_getD, Array.getElem?_toList]
    cases (o[j]?.getD none) <;> rfl
  have el : ((List.range (mask + 1)).filterMap fun j => (o.getD j none).map (j, ·)).length = hs.size := by
    rw [← List.length_map (f := (·.2)), eo, e3.length_eq, List.length_range]
  refine ⟨_, _, by unfold laid; rw [e1]; rfl, rfl, rfl, rfl, rfl, rfl, ?_, ?_, ?_, ?_⟩
  · show (List.toArray _).size = _
    rw [List.size_toArray, List.length_map]; exact el
  · rw [List.size_toArray, List.length_map]; exact el
  · show Up (List.toArray _).toList
    unfold Up
    rw [List.map_filterMap]
    rw [List.pairwise_filterMap]
    refine List.pairwise_lt_range.imp fun {a b} hab x hx y hy => ?_
    cases ha : o.getD a none with
    | none => rw [ha] at hx; cases hx
    | some u =>
      cases hb : o.getD b none with
      | none => rw [hb] at hy; cases hy
      | some v =>
        rw [ha] at hx; rw [hb] at hy
        cases hx; cases hy
        exact hab
  · rw [eo]; exact e3
theorem pick_perm {α : Type} {es : Array α} {order : Array Nat} (h : order.toList.Perm (List.range es.size)) : (order.filterMap (es[·]?)).toList.Perm es.toList := by
  rw [Array.toList_filterMap]
  have e : (List.range es.size).filterMap (es[·]?) = es.toList := by
    have := fm_range (es.toList.map some)
    rw [List.length_map, Array.length_toList] at this
    rw [show (fun j => (es.toList.map some).getD j none) = (fun j => es[j]?) from ?_] at this
    · rw [this, List.filterMap_map]
      exact List.filterMap_some
    · funext j
      rw [List.getD_eq_getElem?_getD, List.getElem?_map, Array.getElem?_toList]
      cases es[j]? <;> rfl
  rw [← e]
  exact h.filterMap _
end RtS
end

section
set_option Elab.async false
set_option linter.all false
set_option maxRecDepth 100000
namespace RtS
open PySem PySem.SetTable

/-- the sets' order is drawn by the text -/
def bt (w : World) : Bool := w.params.followText "set-order"
structure TabOk (b : Bool) (t : SetTable) (n : Nat) : Prop where
  dum : t.dummies = #[]
  up : Up t.place.toList
  sz : t.place.size = n
  led : t.led = !b
  plain : t.plain = true
  mks : t.mask = 7 ∨ t.mask = 31 ∨ t.mask = 127 ∨ t.mask = 511
  few : n * 5 < t.mask * 3
theorem TabOk.le {b : Bool} {t : SetTable} {n : Nat} (h : TabOk b t n) : n ≤ t.mask := by have := h.few; omega
theorem TabOk.fits {b : Bool} {t : SetTable} {n : Nat} (h : TabOk b t n) : t.fits n = true := by
  unfold SetTable.fits SetTable.fill
  rw [h.sz, h.dum]
  simp [h.le]
theorem TabOk.runs {b : Bool} {t : SetTable} {n : Nat} (h : TabOk b t n) : runs t.mask = true := by
  rcases h.mks with e | e | e | e <;> rw [e]
  · exact runs7
  · exact runs31
  · exact runs127
  · exact runs511
theorem TabOk.stays {b : Bool} {t : SetTable} {n : Nat} (h : TabOk b t n) : t.gaveWay = false := by
  unfold gaveWay
  rcases h.mks with e | e | e | e <;> rw [e] <;> decide
theorem TabOk.fresh (b : Bool) : TabOk b (SetTable.fresh 0 0 (!b)) 0 := ⟨rfl, List.Pairwise.nil, rfl, rfl, rfl, .inl rfl, by show 0 * 5 < 7 * 3; decide⟩
/-- one more is put at an empty place: it isn't too full, or is laid anew -/
structure PutOk (b : Bool) (t : SetTable) (n : Nat) (j : Nat) : Prop where
  dum : (t.put j).1.dummies = #[]
  up : Up (t.put j).1.place.toList
  sz : (t.put j).1.place.size = n + 1
  at_ : (t.put j).2 ≤ n
  led : (t.put j).1.led = !b
  plain : (t.put j).1.plain = true
  mask : (t.put j).1.mask = t.mask
theorem has_nil (j : Nat) : has #[] j = false := by simp [has]
theorem TabOk.put {b : Bool} {t : SetTable} {n : Nat} (h : TabOk b t n) {j : Nat} (hj : t.slot j = .empty) : PutOk b t n j := by
  have hn : t.place[below t.place j]? ≠ some j := by
    rcases slot_cases h.dum j with ⟨_, q⟩ | ⟨i, q, _⟩
    · exact q
    · rw [hj] at q; cases q
  have hb := (below_is h.up j).1
  refine ⟨?_, ins_up h.up hn, ?_, ?_, h.led, h.plain, rfl⟩
  · show (if has t.dummies j then _ else t.dummies) = _
    rw [h.dum, has_nil]; rfl
  · show (insertAt t.place (below t.place j) j).size = _
    rw [ins_size _ _ _ hb, h.sz]
  · show below t.place j ≤ n
    rw [← h.sz]; exact hb
theorem grow_ok {m n : Nat} (hm : m = 7 ∨ m = 31 ∨ m = 127 ∨ m = 511) (h1 : n * 5 < m * 3) (h2 : m * 3 ≤ (n + 1) * 5) (h3 : n + 1 ≤ 300) :
    (sizeAbove (grown (n + 1)) - 1 = 31 ∨ sizeAbove (grown (n + 1)) - 1 = 127 ∨ sizeAbove (grown (n + 1)) - 1 = 511) ∧ (n + 1) * 5 < (sizeAbove (grown (n + 1)) - 1) * 3 ∧ sizeAbove (grown (n + 1)) ≤ 512 := by
  rcases hm with rfl | rfl | rfl | rfl
  · have e : n = 4 := by omega
    subst e; decide
  · have e : n = 18 := by omega
    subst e; decide
  · have e : n = 76 := by omega
    subst e; decide
  · omega
section
variable {prog : Program} {w : World} {A : Around} {E : Value → Shared → Prop} {s : Shared}
/-- the set at a, its elements es (each with its hash) -/
def SetAt (w : World) (h : Heap) (a : Addr) (es : Array (Int × Value)) : Prop :=
  ∃ o ep t, h.get? a = some o ∧ o.ExactSet ∧ o.data = .set es ep t ∧ TabOk (bt w) t es.size
/-- elements that are tuples of ints, each with its hash -/
def Tups (prog : Program) (w : World) (h : Heap) (es : List (Int × Value)) : Prop :=
  ∀ e ∈ es, ∃ (ks : List Int) (c : Addr), e.2 = .ref c ∧ IsTupleKey (intKind prog w) h ks c ∧ e.1 = tupleKeyHash (intKind prog w) ks
theorem items_int {ks : List Int} {vs : List Value} (h : ItemsAre (intKind prog w) ks vs) : ∀ v ∈ vs, ∃ i t, v = Value.int i t := by
  induction h with
  | nil => intro v hv; cases hv
  | cons h1 _ ih =>
    intro v hv
    rcases List.mem_cons.mp hv with e | m
    · subst e
      obtain ⟨t, e⟩ := Value.isInt_shape h1
      exact ⟨_, t, e⟩
    · exact ih v m
theorem notClass {ks : List Int} {c : Addr} {Q : Bool → Shared → Prop} (hk : IsTupleKey (intKind prog w) s.heap ks c) (h : Q false s) : wpAny (model prog w) A (ofAClassStatement 8 (.ref c)) Q E s := by
  have hT := hk.typeIs
  obtain ⟨o, items, n, ho, _, hd, hi⟩ := hk
  unfold ofAClassStatement
  refine wpAny_bind (wpAny_typeOf hT ?_)
  dsimp only
  rw [if_pos (by decide)]
  refine wpAny_bind (wpAny_pure ?_)
  simp only [Bool.not_true, Bool.false_eq_true, if_false]
  refine wpAny_bind (wpAny_seqItems ho hd ?_)
  dsimp only
  refine wpAny_bind ?_
  rw [← Array.forIn_toList]
  refine wpAny_forIn_list _ (fun rest r s' => r.1 = none ∧ s' = s ∧ ∀ v ∈ rest, ∃ i t, v = Value.int i t) _ ?_ ?_ _ _ ⟨rfl, rfl, items_int hi⟩
  · rintro v rest r s' ⟨hr, rfl, hall⟩
    obtain ⟨i, t, rfl⟩ := hall v List.mem_cons_self
    refine wpAny_bind ?_
    unfold ofAClassStatement
    refine wpAny_pure ?_
    simp only [Bool.false_eq_true, if_false]
    exact wpAny_pure ⟨rfl, rfl, fun u hu' => hall u (List.mem_cons_of_mem _ hu')⟩
  · rintro ⟨r1, r2⟩ s' ⟨hr, rfl, _⟩
    simp only at hr
    subst hr
    exact wpAny_pure h
theorem unseen {k : List Int} {c : Addr} {Q : Bool → Shared → Prop} (hk : IsTupleKey (intKind prog w) s.heap k c) {stored : List Value}
    (hst : ∀ v ∈ stored, ∃ (k' : List Int) (b : Addr), v = .ref b ∧ IsTupleKey (intKind prog w) s.heap k' b) (h : Q false s) : wpAny (model prog w) A (searchCouldBeSeen (.ref c) stored) Q E s := by
  unfold searchCouldBeSeen
  refine wpAny_bind ?_
  refine wpAny_forIn_list _ (fun rest r s' => r.1 = none ∧ s' = s ∧ ∀ v ∈ rest, ∃ (k' : List Int) (b : Addr), v = .ref b ∧ IsTupleKey (intKind prog w) s.heap k' b) _ ?_ ?_ _ _ ⟨rfl, rfl, hst⟩
  · rintro v rest r s' ⟨hr, rfl, hall⟩
    obtain ⟨k', b, rfl, hb⟩ := hall v List.mem_cons_self
    have hrest : ∀ v ∈ rest, ∃ (k' : List Int) (b : Addr), v = .ref b ∧ IsTupleKey (intKind prog w) s'.heap k' b := fun u hu' => hall u (List.mem_cons_of_mem _ hu')
    dsimp only
    have hcb : carriedByValue (Value.ref c) = false := by simp [carriedByValue]
    rw [hcb, Bool.false_and, Bool.or_false]
    split
    · exact wpAny_pure ⟨rfl, rfl, hrest⟩
    · refine wpAny_bind (wpAny_eqIsQuiet_tuple hk ?_)
      simp only [Bool.not_true, Bool.false_eq_true, if_false]
      refine wpAny_bind (wpAny_eqIsQuiet_tuple hb ?_)
      simp only [Bool.not_true, Bool.false_eq_true, if_false]
      refine wpAny_bind (notClass hk ?_)
      simp only [Bool.false_eq_true, if_false]
      refine wpAny_bind (notClass hb ?_)
      simp only [Bool.false_eq_true, if_false]
      exact wpAny_pure ⟨rfl, rfl, hrest⟩
  · rintro ⟨r1, r2⟩ s' ⟨hr, rfl, _⟩
    simp only at hr
    subst hr
    exact wpAny_pure h
end
end RtS
end

section
set_option Elab.async false
set_option linter.all false
set_option maxRecDepth 100000
set_option maxHeartbeats 1000000
namespace RtS
open PySem PySem.SetTable
section
variable {prog : Program} {w : World} {A : Around} {E : Value → Shared → Prop} {s : Shared}
/-- a search for a tuple, to add it: a free place, or it is there -/
theorem search_go {a c : Addr} {o : Obj} {es : Array (Int × Value)} {ep : Nat} {t : SetTable} {k : List Int} {Q : SetFound → Shared → Prop} (hu : A.units < cLine) (hk : IsTupleKey (intKind prog w) s.heap k c)
    (ho : s.heap.get? a = some o) (hd : o.data = .set es ep t) (ht : TabOk (bt w) t es.size) (he : Tups prog w s.heap es.toList)
    (hfree : ∀ j, t.slot j = .empty → Q (.free j false) s) (hthere : (∃ e ∈ es.toList, ∃ c', e.2 = .ref c' ∧ IsTupleKey (intKind prog w) s.heap k c') → Q (.there none) s) (h : Int) :
    ∀ (n fuel : Nat) (p : Probe) (stand : Option Probe), n < fuel → n < 10 * turns t.mask → p.dummy = none → t.slot (itr t.advance n p).j = .empty → stand.getD (t.probeStart h) = p →
      wpAny (model prog w) A (setSearchFrom a (.ref c) h true fuel stand) Q E s
  | n, 0, p, stand, hf, _, _, _, _ => absurd hf (Nat.not_lt_zero _)
  | n, fuel + 1, p, stand, hf, hf2, hp, hs, hst => by
    unfold setSearchFrom
    refine wpAny_bind (wpAny_setState_of ho hd ht.fits ?_)
    dsimp only
    rw [ht.stays, hst]
    simp only [Bool.false_eq_true, if_false]
    have key : ∀ (ha : Nat → Int) (met : Met), t.probe ha h p = some met → (∃ j, met = .empty j none ∧ t.slot j = .empty) ∨ (∃ j i nx m, met = .candidate j i nx ∧ t.slot j = .live i ∧ m < n ∧ nx = itr t.advance (m + 1) p) := fun ha met hq => by
      rcases probe_go ht.dum ha h n (10 * turns t.mask) p hf2 hp hs with ⟨j, e1, e2⟩ | ⟨j, i, nx, m, e1, e2, e3, e4, e5⟩
      · exact .inl ⟨j, Option.some.inj (hq.symm.trans e1), e2⟩
      · exact .inr ⟨j, i, nx, m, Option.some.inj (hq.symm.trans e1), e2, e4, e5⟩
    have key0 : ∀ (ha : Nat → Int), (∀ met, t.probe ha h p = some met → False) → False := fun ha hq => by
      rcases probe_go ht.dum ha h n (10 * turns t.mask) p hf2 hp hs with ⟨j, e1, e2⟩ | ⟨j, i, nx, m, e1, e2, e3, e4, e5⟩
      · exact hq _ e1
      · exact hq _ e1
    split
    case h_2 hq => exact (key0 _ hq).elim
    case h_1 met hq =>
    rcases key _ _ hq with ⟨j, rfl, e2⟩ | ⟨j, i, nx, m, rfl, e2, e4, e5⟩
    · exact wpAny_pure (hfree j e2)
    · dsimp only
      have hi : i < es.size := by
        rcases slot_cases ht.dum j with ⟨q, _⟩ | ⟨i', q, q2⟩
        · rw [e2] at q; cases q
        · rw [e2] at q
          cases q
          have := (Array.getElem?_eq_some_iff.mp q2).1
          rw [ht.sz] at this; exact this
      have hei : es[i]? = some es[i] := Array.getElem?_eq_getElem hi
      have hmem : es[i] ∈ es.toList := Array.mem_toList_iff.mpr (Array.getElem_mem hi)
      obtain ⟨ks, cy, ey, hy, eh⟩ := he _ hmem
      have hpair : es[i]? = some (es[i].1, .ref cy) := by rw [hei, ← ey]
      have hnd : nx.dummy = none := by
        rw [e5]
        have : ∀ (q : Nat) (p : Probe), p.dummy = none → (itr t.advance q p).dummy = none := fun q => by
          induction q with
          | zero => intro p hp; exact hp
          | succ q ih => intro p hp; exact ih _ (by rw [adv_dummy]; exact hp)
        exact this _ _ hp
      have hns : t.slot (itr t.advance (n - (m + 1)) nx).j = .empty := by
        rw [e5, ← itr_add, show m + 1 + (n - (m + 1)) = n by omega]; exact hs
      have ih := search_go hu hk ho hd ht he hfree hthere h (n - (m + 1)) fuel nx (some nx) (by omega) (by omega) hnd hns rfl
      have hsm : t.sameMemory t.moves t.mask = some true := by unfold sameMemory; simp
      cases hl : t.led
      case false =>
        simp only [Bool.not_false, if_true]
        refine wpAny_bind (unseen hk (fun v hv => ?_) ?_)
        · obtain ⟨e, hem, rfl⟩ := List.mem_map.mp hv
          have hem2 : e ∈ es.toList := by
            rw [Array.toList_filter] at hem
            exact (List.mem_filter.mp hem).1
          obtain ⟨ks', c', q1, q2, _⟩ := he e hem2
          exact ⟨ks', c', q1, q2⟩
        simp only [Bool.false_eq_true, if_false]
        rw [hpair]
        dsimp only
        refine wpAny_bind (wpAny_holding (wpAny_eqBool_tuple hu hy hk ?_))
        refine wpAny_bind (wpAny_setState_of ho hd ht.fits ?_)
        dsimp only
        by_cases hkk : ks = k
        · subst hkk
          rw [decide_eq_true rfl]
          simp only [Bool.and_self, if_true]
          exact wpAny_pure (hthere ⟨es[i], hmem, cy, ey, hy⟩)
        · rw [decide_eq_false hkk]
          simp only [Bool.and_false, Bool.false_eq_true, if_false]
          rw [hsm]
          dsimp only
          rw [if_pos rfl, e2]
          dsimp only
          rw [hpair]
          dsimp only
          refine wpAny_bind (wpAny_isSame_ref_self (wpAny_bind (wpAny_pure ?_)))
          rw [if_pos rfl]
          exact ih
      case true =>
        simp only [Bool.not_true, Bool.false_eq_true, if_false]
        rw [hpair]
        dsimp only
        refine wpAny_bind (wpAny_holding (wpAny_eqBool_tuple hu hy hk ?_))
        refine wpAny_bind (wpAny_setState_of ho hd ht.fits ?_)
        dsimp only
        by_cases hkk : ks = k
        · subst hkk
          rw [decide_eq_true rfl]
          simp only [Bool.and_self, if_true]
          exact wpAny_pure (hthere ⟨es[i], hmem, cy, ey, hy⟩)
        · rw [decide_eq_false hkk]
          simp only [Bool.and_false, Bool.false_eq_true, if_false]
          rw [hsm]
          dsimp only
          rw [if_pos rfl, e2]
          dsimp only
          rw [hpair]
          dsimp only
          refine wpAny_bind (wpAny_isSame_ref_self (wpAny_bind (wpAny_pure ?_)))
          rw [if_pos rfl]
          exact ih
/-- added, in some order -/
def Added (es es' : Array (Int × Value)) (e : Int × Value) : Prop := es'.toList.Perm (e :: es.toList)
theorem hbv {ks : List Int} {c : Addr} {Q : Bool → Shared → Prop} (hk : IsTupleKey (intKind prog w) s.heap ks c) (h : Q true s) : wpAny (model prog w) A (hashByValue 8 (.ref c)) Q E s := by
  have hT := hk.typeIs
  obtain ⟨o, items, n, ho, _, hd, hi⟩ := hk
  unfold hashByValue
  refine wpAny_bind (wpAny_specialOf hT F.slot_tuple_hash.lookup ?_)
  refine wpAny_bind (wpAny_seqItems ho hd ?_)
  refine wpAny_bind ?_
  show wpAny _ _ (forIn items _ _) _ _ s
  rw [← Array.forIn_toList]
  refine wpAny_forIn_list _ (fun rest r s' => r.1 = none ∧ s' = s ∧ ∀ v ∈ rest, ∃ i t, v = Value.int i t) _ ?_ ?_ _ _ ⟨rfl, rfl, items_int hi⟩
  · rintro v rest r s' ⟨hr, rfl, hall⟩
    obtain ⟨i, t, rfl⟩ := hall v List.mem_cons_self
    refine wpAny_bind ?_
    unfold hashByValue
    refine wpAny_pure ?_
    simp only [Bool.not_true, Bool.false_eq_true, if_false]
    exact wpAny_pure ⟨rfl, rfl, fun u hu' => hall u (List.mem_cons_of_mem _ hu')⟩
  · rintro ⟨r1, r2⟩ s' ⟨hr, rfl, _⟩
    simp only at hr
    subst hr
    exact wpAny_pure h
/-- the set stored anew -/
theorem store_at {h : Heap} {a : Addr} {o : Obj} {es : Array (Int × Value)} {ep : Nat} {t : SetTable} (ho : h.get? a = some o) (hd : o.data = .set es ep t) (es' : Array (Int × Value)) (t' : SetTable) :
    (h.update a (Obj.putSet es' t')).get? a = some { o with data := .set es' (ep + 1) t' } := by
  have := Heap.get?_update_self (Obj.putSet es' t') ho (by rw [putSet_of es' t' hd]; rfl)
  rw [putSet_of es' t' hd] at this
  exact this
theorem relay_ok {a : Addr} {o : Obj} {es : Array (Int × Value)} {ep n : Nat} {t : SetTable} {Q : Unit → Shared → Prop} (ho : s.heap.get? a = some o) (hd : o.data = .set es ep t) (hx : o.ExactSet)
    (hz : es.size = n + 1) (dum : t.dummies = #[]) (sz : t.place.size = n + 1) (led : t.led = !(bt w)) (plain : t.plain = true) (mks : t.mask = 7 ∨ t.mask = 31 ∨ t.mask = 127 ∨ t.mask = 511) (few : n * 5 < t.mask * 3) (full : t.mask * 3 ≤ (n + 1) * 5) (hn : n + 1 ≤ 300)
    (h : ∀ h' es', Heap.SameBut a s.heap h' → SetAt w h' a es' → es'.toList.Perm es.toList → Q () { s with heap := h' }) : wpAny (model prog w) A (setRelay a (grown (n + 1))) Q E s := by
  obtain ⟨g1, g2, g3⟩ := grow_ok mks few full hn
  have hfit : t.fits es.size = true := by
    unfold SetTable.fits SetTable.fill
    rw [sz, dum, hz]
    have : n + 1 ≤ t.mask := by omega
    simp [this]
  unfold setRelay
  refine wpAny_bind (wpAny_setState_of ho hd hfit ?_)
  dsimp only
  rw [if_neg (by rw [sizeLine_eq]; omega)]
  generalize hM : sizeAbove (grown (n + 1)) - 1 = M at g1 g2
  have hrun : runs M = true := by
    rcases g1 with e | e | e <;> rw [e]
    · exact runs31
    · exact runs127
    · exact runs511
  obtain ⟨t', order, e1, m1, m2, m3, m4, m5, m6, m7, m8, m9⟩ := laid_ok hrun t.finger (t.movedTo M) t.led t.plain (es.map (·.1)) (by rw [Array.size_map]; omega)
  have er : t.relaid (es.map (·.1)) (grown (n + 1)) = some (t', order) := by unfold SetTable.relaid; rw [hM]; exact e1
  rw [Array.size_map] at m6 m7 m9
  have hperm := pick_perm (es := es) m9
  have hsz : (order.filterMap (es[·]?)).size = es.size := by
    have := hperm.length_eq
    rw [Array.length_toList, Array.length_toList] at this
    exact this
  rw [er]
  refine wpAny_bind ?_
  show wpAny _ _ (if ((order.filterMap (es[·]?)).size != es.size) = true then _ else _) _ _ s
  rw [if_neg (by rw [hsz]; simp)]
  refine wpAny_pure ?_
  refine wpAny_storeSet_of ho hd ?_ (by rw [hsz, hz, sizeLine_eq]; omega)
  refine h _ _ (Heap.SameBut.update _ _ _) ⟨_, _, _, store_at ho hd _ _, hx, rfl, ?_⟩ hperm
  rw [hsz]
  exact ⟨m2, m8, m6, m3.trans led, m4.trans plain, by rw [m1]; exact .inr g1, by rw [m1, hz]; exact g2⟩
theorem add_tuple {a c : Addr} {es : Array (Int × Value)} {k : List Int} {Q : Bool → Shared → Prop} (hu : A.units < cLine) (hk : IsTupleKey (intKind prog w) s.heap k c) (hS : SetAt w s.heap a es) (he : Tups prog w s.heap es.toList) (hn : es.size < 300)
    (hold : (∃ e ∈ es.toList, ∃ c', e.2 = .ref c' ∧ IsTupleKey (intKind prog w) s.heap k c') → ∀ b, Q b s)
    (hnew : ∀ h' es' b, Heap.SameBut a s.heap h' → SetAt w h' a es' → Added es es' (tupleKeyHash (intKind prog w) k, .ref c) → Q b { s with heap := h' }) :
    wpAny (model prog w) A (setAddHashed a (.ref c) (tupleKeyHash (intKind prog w) k)) Q E s := by
  obtain ⟨o, ep, t, ho, hx, hd, ht⟩ := hS
  unfold setAddHashed
  refine wpAny_holding ?_
  unfold setAddHashedIn
  refine wpAny_bind (wpAny_setState_of ho hd ht.fits ?_)
  dsimp only
  have hsc : byScan (Value.ref c) es = false := by simp [byScan, Value.scannable]
  rw [hsc]
  simp only [Bool.false_eq_true, if_false]
  refine wpAny_bind ?_
  unfold setSearch
  obtain ⟨e, he1, he2⟩ := some_empty ht.dum (by rw [ht.sz]; exact ht.le)
  obtain ⟨n, hn1, hn2, hn3⟩ := start_reach t ht.runs (tupleKeyHash (intKind prog w) k) he1
  have hm : t.mask ≤ 511 := by rcases ht.mks with e | e | e | e <;> omega
  refine search_go hu hk ho hd ht he (fun j hj => ?_) (fun hex => ?_) _ n 100000 (t.probeStart (tupleKeyHash (intKind prog w) k)) none (by omega) (by unfold turns; omega) rfl (by rw [hn2]; exact he2) rfl
  · dsimp only
    have P := ht.put hj
    refine wpAny_bind (wpAny_setState_of ho hd ht.fits ?_)
    dsimp only
    rw [P.plain]
    simp only [if_true]
    refine wpAny_bind (hbv hk ?_)
    simp only [if_true]
    have hins : (insertAt es (t.put j).2 (tupleKeyHash (intKind prog w) k, Value.ref c)).size = es.size + 1 := ins_size _ _ _ P.at_
    have hadd : Added es (insertAt es (t.put j).2 (tupleKeyHash (intKind prog w) k, Value.ref c)) (tupleKeyHash (intKind prog w) k, .ref c) := by
      unfold Added
      rw [ins_list _ _ _ P.at_]
      refine List.perm_middle.trans ?_
      rw [List.take_append_drop]
    refine wpAny_bind (wpAny_storeSet_of ho hd ?_ (by rw [hins, sizeLine_eq]; omega))
    have ho1 := store_at ho hd (insertAt es (t.put j).2 (tupleKeyHash (intKind prog w) k, Value.ref c)) (t.put j).1
    have sb1 := Heap.SameBut.update s.heap a (Obj.putSet (insertAt es (t.put j).2 (tupleKeyHash (intKind prog w) k, Value.ref c)) (t.put j).1)
    have htf : (t.put j).1.tooFull = decide (t.mask * 3 ≤ (es.size + 1) * 5) := by
      unfold SetTable.tooFull SetTable.fill
      rw [P.dum, P.sz, P.mask]
      simp
    by_cases hf : t.mask * 3 ≤ (es.size + 1) * 5
    · rw [htf, decide_eq_true hf]
      simp only [Bool.not_false, Bool.and_self, if_true]
      refine wpAny_bind (relay_ok (n := es.size) ho1 rfl hx hins P.dum P.sz P.led P.plain (by rw [P.mask]; exact ht.mks) (by rw [P.mask]; exact ht.few) (by rw [P.mask]; exact hf) (by omega) fun h' es' sb2 hS2 p2 => wpAny_pure ?_)
      exact hnew h' es' true (sb1.trans sb2) hS2 (p2.trans hadd)
    · rw [htf, decide_eq_false hf]
      simp only [Bool.and_false, Bool.false_eq_true, if_false]
      refine wpAny_pure (hnew _ _ true sb1 ⟨_, _, _, ho1, hx, rfl, ?_⟩ hadd)
      rw [hins]
      exact ⟨P.dum, P.up, P.sz, P.led, P.plain, by rw [P.mask]; exact ht.mks, by rw [P.mask]; omega⟩
  · dsimp only
    exact wpAny_pure (hold hex false)
end
end RtS
end

section
set_option Elab.async false
set_option linter.all false
set_option maxRecDepth 100000
set_option maxHeartbeats 1000000
namespace RtS
open PySem PySem.SetTable
section
variable {prog : Program} {w : World} {A : Around} {E : Value → Shared → Prop} {s : Shared}
/-- elements that are ints, each with its hash -/
def Ints (prog : Program) (w : World) (es : List (Int × Value)) : Prop := ∀ e ∈ es, ∃ (i : Int) (t : Tok), e = ((intKind prog w).hash i, .int i t)
theorem intIs (i : Int) (t : Tok) : (intKind prog w).is i (.int i t) = true := by show Value.isInt i (.int i t) = true; simp [Value.isInt]
theorem Ints.elems {es : List (Int × Value)} (h : Ints prog w es) : ElemsOf (intKind prog w) es := fun e he => by
  obtain ⟨i, t, rfl⟩ := h e he
  exact ⟨⟨i, intIs _ _, rfl⟩, rfl⟩
theorem free_slot {b : Bool} {t : SetTable} {n : Nat} (ht : TabOk b t n) (h : Int) : ∃ j, t.freeSlot h = some (j, false) ∧ t.slot j = .empty := by
  obtain ⟨e, he1, he2⟩ := some_empty ht.dum (by rw [ht.sz]; exact ht.le)
  obtain ⟨m, hn1, hn2, hn3⟩ := start_reach t ht.runs h he1
  rcases probe_go ht.dum (fun _ => h + 1) h m (10 * turns t.mask) (t.probeStart h) (by unfold turns; omega) rfl (by rw [hn2]; exact he2) with ⟨j, e1, e2⟩ | ⟨j, i, nx, q, e1, e2, e3, e4, e5⟩
  · refine ⟨j, ?_, e2⟩
    unfold SetTable.freeSlot
    rw [show t.probe (fun _ => h + 1) h (t.probeStart h) = some (.empty j none) from e1]
    rfl
  · exact absurd (show h + 1 = h from e3) (by omega)
theorem add_int {a : Addr} {es : Array (Int × Value)} {i : Int} {tk : Tok} {Q : Bool → Shared → Prop} (hS : SetAt w s.heap a es) (he : Ints prog w es.toList) (hn : es.size < 300)
    (hold : (∃ t, ((intKind prog w).hash i, Value.int i t) ∈ es.toList) → ∀ b, Q b s)
    (hnew : (∀ t, ((intKind prog w).hash i, Value.int i t) ∉ es.toList) → ∀ h' es' b, Heap.SameBut a s.heap h' → SetAt w h' a es' → Added es es' ((intKind prog w).hash i, .int i tk) → Q b { s with heap := h' }) :
    wpAny (model prog w) A (setAddHashed a (.int i tk) ((intKind prog w).hash i)) Q E s := by
  obtain ⟨o, ep, t, ho, hx, hd, ht⟩ := hS
  have hel := he.elems
  have hb : es.size < scanBound := by unfold scanBound; omega
  unfold setAddHashed
  refine wpAny_holding ?_
  unfold setAddHashedIn
  refine wpAny_bind (wpAny_setState_of ho hd ht.fits ?_)
  dsimp only
  rw [byScan_of (knd := intKind prog w) (x := .int i tk) rfl hb hel]
  simp only [if_true]
  unfold setAddByScan
  refine wpAny_bind ?_
  refine wpAny_bind (wpAny_rule ?_)
  refine wpAny_bind (wpAny_setScan_of (knd := intKind prog w) (k := i) (intIs _ _) ho hd ht.fits hel ?_)
  cases hr : List.findIdx? (fun e => (intKind prog w).is i e.2) es.toList with
  | some j =>
    dsimp only
    obtain ⟨hj, hpj, _⟩ := List.findIdx?_eq_some_iff_getElem.mp hr
    refine wpAny_pure (wpAny_pure (hold ?_ _))
    obtain ⟨i', t', e⟩ := he _ (List.getElem_mem hj)
    rw [e] at hpj
    obtain ⟨t2, e2⟩ := Value.isInt_shape (show Value.isInt i (Value.int i' t') = true from hpj)
    cases e2
    exact ⟨t', by rw [← e]; exact List.getElem_mem hj⟩
  | none =>
    dsimp only
    have hno : ∀ t, ((intKind prog w).hash i, Value.int i t) ∉ es.toList := fun t hm => by
      have := List.findIdx?_eq_none_iff.mp hr _ hm
      rw [show ((intKind prog w).hash i, Value.int i t).snd = Value.int i t from rfl, intIs] at this; cases this
    obtain ⟨j, ej, hj⟩ := free_slot ht ((intKind prog w).hash i)
    have P := ht.put hj
    have hins : (insertAt es (t.put j).2 ((intKind prog w).hash i, Value.int i tk)).size = es.size + 1 := ins_size _ _ _ P.at_
    have hadd : Added es (insertAt es (t.put j).2 ((intKind prog w).hash i, Value.int i tk)) ((intKind prog w).hash i, .int i tk) := by
      unfold Added
      rw [ins_list _ _ _ P.at_]
      refine List.perm_middle.trans ?_
      rw [List.take_append_drop]
    have hle : es.size + 1 ≤ t.mask := by have := ht.few; rcases ht.mks with e | e | e | e <;> omega
    have hfit1 : (t.put j).1.fits (es.size + 1) = true := by
      unfold SetTable.fits SetTable.fill
      rw [P.sz, P.dum, P.mask]
      simp [hle]
    have hlay : layNew t es ((intKind prog w).hash i) (.int i tk) = (insertAt es (t.put j).2 ((intKind prog w).hash i, Value.int i tk), (t.put j).1, false, false) := by
      unfold layNew
      rw [ej]
      dsimp only
      unfold SetTable.orStandIn
      rw [hins, hfit1]
      rfl
    rw [hlay]
    dsimp only
    have hgw : ∀ (b : Bool) {s₁ : Shared} {Q' : Unit → Shared → Prop}, Q' () s₁ → wpAny (model prog w) A (match b with | true => rule "set.scan.the-table-gave-way" | false => pure ()) Q' E s₁ :=
      fun b s₁ Q' hq => by cases b <;> first | exact wpAny_pure hq | exact wpAny_rule hq
    refine wpAny_bind (wpAny_pure ?_)
    rw [P.plain]
    simp only [if_true]
    refine wpAny_bind ?_
    rw [hashByValue_scannable 8 (x := .int i tk) rfl]
    refine wpAny_pure ?_
    simp only [plainKind, if_true]
    refine wpAny_bind (wpAny_storeSet_of ho hd ?_ (by rw [hins, sizeLine_eq]; omega))
    have ho1 := store_at ho hd (insertAt es (t.put j).2 ((intKind prog w).hash i, Value.int i tk)) (t.put j).1
    have sb1 := Heap.SameBut.update s.heap a (Obj.putSet (insertAt es (t.put j).2 ((intKind prog w).hash i, Value.int i tk)) (t.put j).1)
    have htf : (t.put j).1.tooFull = decide (t.mask * 3 ≤ (es.size + 1) * 5) := by
      unfold SetTable.tooFull SetTable.fill
      rw [P.dum, P.sz, P.mask]
      simp
    by_cases hf : t.mask * 3 ≤ (es.size + 1) * 5
    · rw [htf, decide_eq_true hf]
      simp only [Bool.not_false, Bool.and_self, if_true]
      obtain ⟨g1, g2, g3⟩ := grow_ok ht.mks ht.few hf (by omega)
      rw [hins]
      generalize hM : sizeAbove (grown (es.size + 1)) - 1 = M at g1 g2
      have hrun : runs M = true := by
        rcases g1 with e | e | e <;> rw [e]
        · exact runs31
        · exact runs127
        · exact runs511
      generalize hI : insertAt es (t.put j).2 ((intKind prog w).hash i, Value.int i tk) = es1 at hins hadd ho1 sb1 ⊢
      obtain ⟨t', order, e1, m1, m2, m3, m4, m5, m6, m7, m8, m9⟩ := laid_ok hrun (t.put j).1.finger ((t.put j).1.movedTo M) (t.put j).1.led (t.put j).1.plain (es1.map (·.1)) (by rw [Array.size_map]; omega)
      have er : (t.put j).1.relaid (es1.map (·.1)) (grown (es.size + 1)) = some (t', order) := by unfold SetTable.relaid; rw [hM]; exact e1
      rw [Array.size_map] at m6 m7 m9
      have hperm := pick_perm (es := es1) m9
      have hsz : (order.filterMap (es1[·]?)).size = es1.size := by
        have := hperm.length_eq
        rw [Array.length_toList, Array.length_toList] at this
        exact this
      have hfit2 : t'.fits es1.size = true := by
        unfold SetTable.fits SetTable.fill
        rw [m6, m2, m1, hins]
        have : es.size + 1 ≤ M := by omega
        simp [this]
      have hrl : relayAll (t.put j).1 es1 (grown (es.size + 1)) = (order.filterMap (es1[·]?), t', false) := by
        unfold relayAll
        rw [er]
        dsimp only
        have hcov : coversAll order es1.size = true := by unfold coversAll; exact List.isPerm_iff.mpr m9
        rw [hcov, hsz, hfit2]
        rfl
      rw [hrl]
      dsimp only
      refine wpAny_bind (wpAny_pure ?_)
      refine wpAny_bind (wpAny_storeSet_of ho1 rfl ?_ (by rw [hsz, hins, sizeLine_eq]; omega))
      refine wpAny_pure ?_
      dsimp only
      refine wpAny_pure (hnew hno _ _ _ (sb1.trans (Heap.SameBut.update _ _ _)) ⟨_, _, _, store_at ho1 rfl _ _, hx, rfl, ?_⟩ (hperm.trans hadd))
      rw [hsz]
      exact ⟨m2, m8, m6, m3.trans P.led, m4.trans P.plain, by rw [m1]; exact .inr g1, by rw [m1, hins]; exact g2⟩
    · rw [htf, decide_eq_false hf]
      simp only [Bool.and_false, Bool.false_eq_true, if_false]
      refine wpAny_pure ?_
      dsimp only
      refine wpAny_pure (hnew hno _ _ _ sb1 ⟨_, _, _, ho1, hx, rfl, ?_⟩ hadd)
      rw [hins]
      exact ⟨P.dum, P.up, P.sz, P.led, P.plain, by rw [P.mask]; exact ht.mks, by rw [P.mask]; omega⟩
end
end RtS
end

section
set_option Elab.async false
set_option linter.all false
set_option maxRecDepth 100000
set_option maxHeartbeats 4000000
namespace RtS
open PySem PySem.SetTable
section
variable {prog : Program} {w : World} {A : Around} {R : Result → Shared → Prop} {I : Addr} {fp wr : List Addr} {G : Array GenState → Array GenState → Prop} {n : Nat} {P : Nat → Value → Prop} {St : Nat → Shared → Prop}
theorem update_loop (W : WalksS prog w A.in1 I fp wr G n P St) (S : Addr) (hSf : S ∉ fp) (Iv : Nat → Heap → Prop)
    (keep : ∀ i h h', Iv i h → (∀ b o, b ∉ wr → h.get? b = some o → h'.get? b = some o) → Iv i h')
    (add : ∀ (i : Nat) (v : Value) (s : Shared) (E : Value → Shared → Prop) (Q : Bool → Shared → Prop), i < n → P i v → Iv i s.heap → (∀ h' tk b, s.toks ≤ tk → Heap.SameBut S s.heap h' → Iv (i + 1) h' → Q b { s with heap := h', toks := tk }) → wpAny (model prog w) A.in1 (setAdd S v) Q E s) :
    ∀ (k i : Nat) (s : Shared), n - i = k → i ≤ n → St i s → Iv i s.heap →
      (∀ s', Moved (S :: wr) G s s' → Iv n s'.heap → R (.ok (.ret .none)) s') →
      codeAny (model prog w) A (.builtin "set.update.loop" ⟨[.ref S, .ref I], []⟩) R s := by
  have hSw : S ∉ wr := fun h => hSf (W.sub _ h)
  have hsub : ∀ b ∈ wr, b ∈ S :: wr := fun b hb => List.mem_cons_of_mem _ hb
  intro k
  induction k with
  | zero =>
    intro i s hk hi hst hS hR
    have hin : i = n := by omega
    subst hin
    refine codeAny_builtin PyProof.Rows.F.entry_set_update_loop ?_
    rw [Around.under_plainId PyProof.Rows.F.plain_set_update_loop _]
    show wpAny _ A.in1 (pyNext (.ref I) >>= _) _ _ s
    refine wpAny_bind (W.done s _ _ hst fun s' hm => ?_)
    show wpAny _ A.in1 (ret Value.none) _ _ s'
    exact wpAny_pure (hR s' (hm.mono hsub) (keep _ _ _ hS fun b o hb e => hm.heap b o hb e))
  | succ k ih =>
    intro i s hk hi hst hS hR
    have hlt : i < n := by omega
    refine codeAny_builtin PyProof.Rows.F.entry_set_update_loop ?_
    rw [Around.under_plainId PyProof.Rows.F.plain_set_update_loop _]
    show wpAny _ A.in1 (pyNext (.ref I) >>= _) _ _ s
    refine wpAny_bind (W.item i s _ _ hlt hst fun v s' hP hst' hm => ?_)
    have hS' := keep _ _ _ hS fun b o hb e => hm.heap b o hb e
    show wpAny _ A.in1 (holding [v] (setAdd S v) >>= _) _ _ s'
    refine wpAny_bind (wpAny_holding ?_)
    refine add i v s' _ _ hlt hP hS' fun h' tk b htk hsb hI => ?_
    refine wpAny_pure ⟨plainId_quiet PyProof.Rows.F.plain_set_update_loop _, ih (i + 1) _ (by omega) hlt (W.frame _ s' _ _ hst' htk fun b hb o e => ?_) hI fun s'' hm'' hS'' => ?_⟩
    · rw [hsb.2 b (fun h : b = S => hSf (by rw [← h]; exact hb))]; exact e
    · refine hR s'' (Moved.trans W.gtrans ((hm.mono hsub).then_heap htk fun b o hb e => ?_) hm'') hS''
      rw [hsb.2 b (fun h : b = S => hb (by rw [h]; exact List.mem_cons_self))]; exact e
end
section
variable {prog : Program} {w : World} {A : Around} {E : Value → Shared → Prop} {s : Shared}
abbrev newSetO (w : World) : Obj := { cls := .type "set", dict := none, data := .set #[] 0 (.fresh 0 0 (!(bt w))) }
theorem set_new (a : Value) {Q₁ : Value → Shared → Prop} (h : Q₁ (.ref s.heap.objs.size) { s with heap := s.heap.push (newSetO w) }) :
    codeAny (model prog w) A (.call (.builtin "set.__new__") ⟨[.type "set", a], []⟩) (wants Q₁ E) s := by
  refine codeAny_of_tree ?_
  show wpAny _ A.in1 (do checkBuiltinCall "set.__new__" ⟨[.type "set", a], []⟩; again (.builtin "set.__new__" ⟨[.type "set", a], []⟩)) _ _ s
  refine wpAny_bind (wpAny_of_eq (F.newCall_set_1 a) (wpAny_pure ⟨plainId_quiet F.plain_set_new _, codeAny_builtin F.entry_set_new ?_⟩))
  rw [Around.under_plainId F.plain_set_new _]
  unfold Builtin.«set.__new__» Builtin.Frozenset.newClass
  have hsub := sub_set_self
  obtain ⟨hp, g, d, tk, os⟩ := s
  dsimp only
  wp_walk
  refine wpAny_askSetting (wpAny_pure ?_)
  dsimp only
  simp only [newObj]
  refine wpAny_bind (wpAny_alloc (wpAny_pure ?_))
  exact wpAny_pure h
/-- set(l) of a list -/
theorem call_set_gen {l : Addr} {items : Array Value} {Q : Value → Shared → Prop} (hh : A.handled = none) (hl : s.heap.IsList l items) (Iv : Nat → Heap → Prop)
    (h0 : ∀ h : Heap, h.get? s.heap.objs.size = some (newSetO w) → (∀ b o, s.heap.get? b = some o → h.get? b = some o) → Iv 0 h)
    (keep : ∀ i h h', Iv i h → (∀ b o, b ≠ s.heap.objs.size + 1 → h.get? b = some o → h'.get? b = some o) → Iv i h')
    (add : ∀ (i : Nat) (v : Value) (s' : Shared) (E : Value → Shared → Prop) (Q : Bool → Shared → Prop), i < items.size → items[i]? = some v → Iv i s'.heap →
      (∀ h' tk b, s'.toks ≤ tk → Heap.SameBut s.heap.objs.size s'.heap h' → Iv (i + 1) h' → Q b { s' with heap := h', toks := tk }) → wpAny (model prog w) A.in1.in1.in1 (setAdd s.heap.objs.size v) Q E s')
    (h : ∀ (h' : Heap) (tk : Nat), Iv items.size h' → (∀ b o, b < s.heap.objs.size → s.heap.get? b = some o → h'.get? b = some o) → Q (.ref s.heap.objs.size) { s with heap := h', toks := tk }) :
    wpAny (model prog w) A (call (.type "set") [.ref l]) Q E s := by
  obtain ⟨c, tl, hmro⟩ := F.called_set.mro
  have hmade := F.called_set.made
  have hsub := F.called_set.sub
  refine wpAny_call (codeAny_of_tree ?_)
  show wpAny _ _ (callAny (.type "set") _) _ _ _
  refine wpAny_pure ⟨Code.quiet_builtin _ (by decide +kernel), codeAny_builtin F.entry_type_call ?_⟩
  rw [Around.under_plain (weight_type_call_type "set" [.ref l] []) rfl]
  have h1 := F.called_set.notType
  have h2 := F.called_set.canCreate
  have hct := F.typeCall_set_1 (.ref l)
  repeat (any_goals (first | assumption | wp_step))
  refine codeAny_mono (set_new (w := w) (.ref l) (E := E) (Q₁ := fun obj s₁ => obj = .ref s.heap.objs.size ∧ s₁ = { s with heap := s.heap.push (newSetO w) }) ⟨rfl, rfl⟩) fun r s₁ hr => ?_
  cases r with
  | error e => exact hr
  | ok fl =>
    cases fl with
    | ret obj =>
      obtain ⟨rfl, rfl⟩ := hr
      have hS : (s.heap.push (newSetO w)).get? s.heap.objs.size = some (newSetO w) := Heap.get?_push_size _ rfl
      have hT : Shared.TypeIs { s with heap := s.heap.push (newSetO w) } (.ref s.heap.objs.size) "set" := ⟨_, hS, rfl⟩
      have hli := F.called_set.init.lookup
      have hbi := F.called_set.init.bind (.ref s.heap.objs.size)
      repeat (any_goals (first | assumption | wp_step))
      refine codeAny_mono (codeAny_call_builtin (R := wants (fun r s₂ => r = .none ∧ ∃ h' tk, s₂ = { s with heap := h', toks := tk } ∧ Iv items.size h' ∧
          (∀ b o, b < s.heap.objs.size → s.heap.get? b = some o → h'.get? b = some o)) E) F.called_set.init.plain F.entry_set_init (check_set_init_1 hT ?_)) fun r₂ s₂ hr₂ => ?_
      · obtain ⟨ol, hol, hcl, nl, hdl⟩ := hl
        obtain ⟨ocls, odict, odata, oslots⟩ := ol
        simp only at hcl hdl
        subst hcl; subst hdl
        have hol' : (s.heap.push (newSetO w)).get? l = some { cls := .type "list", dict := odict, data := .seq items nl, slots := oslots } := Heap.get?_push_of_some _ hol
        have hsls := F.sub_list_set
        have hslf := F.sub_list_frozenset
        have hne : (Value.type "list" == Value.type "dict") = false := by decide
        have hl1 : (s.heap.push (newSetO w)).IsList l items := ⟨_, hol', rfl, nl, rfl⟩
        unfold Builtin.«set.__init__» noKeywords Builtin.Frozenset.updateFrom
        generalize hPI : pyIter = PI
        wp_walk
        subst hPI
        refine wpAny_pyIter_list hl1 ?_
        refine wpAny_bind (wpAny_runValue ?_)
        have hlS : l < s.heap.objs.size := Heap.lt_size hol
        have hh3 : A.in1.in1.in1.handled = none := by simp [hh]
        have hsz1 : (s.heap.push (newSetO w)).objs.size = s.heap.objs.size + 1 := Heap.size_push ..
        have hneI : l ≠ (s.heap.push (newSetO w)).objs.size := by
          rw [hsz1]; exact Nat.ne_of_lt (Nat.lt_succ_of_lt hlS)
        have hSf : s.heap.objs.size ∉ [(s.heap.push (newSetO w)).objs.size, l] := by
          rw [hsz1]; simp only [List.mem_cons, List.mem_singleton, List.not_mem_nil, or_false, not_or]
          exact ⟨Nat.ne_of_lt (Nat.lt_succ_self _), Nat.ne_of_gt hlS⟩
        refine update_loop ((Walks.list hh3 _ l hneI items).toS) s.heap.objs.size
          hSf Iv (fun i h h' hv hk => keep i h h' hv fun b o hb e => hk b o (by rw [hsz1]; simpa using hb) e) add (items.size - 0) 0 _ (by omega) (Nat.zero_le _)
          ⟨⟨_, Heap.get?_push_size _ rfl, rfl, rfl⟩, (hl1.push _)⟩ ?hS0 ?hR
        case hS0 => exact h0 _ (Heap.get?_push_of_some _ hS) fun b o e => Heap.get?_push_of_some _ (Heap.get?_push_of_some _ e)
        case hR =>
          intro s' hm hS'
          obtain ⟨h', g', d', tk', os'⟩ := s'
          have eg : g' = s.gens := hm.gens
          have ed : d' = s.drawn := hm.drawn
          have eo : os' = s.os := hm.os
          subst eg; subst ed; subst eo
          show wpAny _ _ _ _ _ _
          refine wpAny_pure ?_
          show wpAny _ _ (ret Value.none) _ _ _
          refine wpAny_pure ⟨rfl, h', tk', rfl, hS', fun b o hb e => ?_⟩
          have hb1 : b ≠ s.heap.objs.size := Nat.ne_of_lt hb
          have hb2 : b ≠ (s.heap.push (newSetO w)).objs.size := by
            rw [hsz1]; exact Nat.ne_of_lt (Nat.lt_succ_of_lt hb)
          exact hm.heap b o (by simp only [List.mem_cons, List.mem_singleton, List.not_mem_nil, or_false, not_or]; exact ⟨hb1, hb2⟩) (Heap.get?_push_of_some _ (Heap.get?_push_of_some _ e))
      · cases r₂ with
        | error e => exact hr₂
        | ok fl₂ =>
          cases fl₂ with
          | ret r =>
            obtain ⟨rfl, h', tk, rfl, hS', hk'⟩ := hr₂
            repeat (any_goals (first | assumption | wp_step))
            exact h _ _ hS' hk'
          | _ => exact hr₂.elim
    | _ => exact hr.elim
end
end RtS
end

section
set_option Elab.async false
set_option linter.all false
set_option maxRecDepth 100000
set_option maxHeartbeats 4000000
namespace RtS
open PySem PySem.SetTable
theorem slot_next : Slot "set_iterator" "__next__" "set_iterator.__next__" :=
  .of (owner := "set_iterator") (n := "__next__") (by rw [typeLookup_type, builtinLookup_eq_fast]; kernel_rfl) (by decide +kernel) (by decide +kernel) (by decide +kernel)
    (by first | exact .inl (by decide +kernel) | exact .inr (by decide +kernel)) (by rw [isSubtype_type]; kernel_rfl)
theorem entry_next : entryFor table "set_iterator.__next__" = some Builtin.«set_iterator.__next__» := entryFor_of_tree (by kernel_rfl)
theorem owner_it : Manifest.owners.lookup (String.ofList ['r', 'o', 't', 'a', 'r', 'e', 't', 'i', '_', 't', 'e', 's'].reverse) = some Manifest.sig_set_iterator := by kernel_rfl
theorem args_next (a : Value) : argsOk "set_iterator.__next__" ⟨[a], []⟩ := by
  unfold argsOk; rw [signature?_of (id := "set_iterator.__next__") (n := ['_', '_', 't', 'x', 'e', 'n', '_', '_']) (o := ['r', 'o', 't', 'a', 'r', 'e', 't', 'i', '_', 't', 'e', 's']) (by kernel_rfl) owner_it]; kernel_rfl
theorem entry_iter : entryFor table "set.__iter__" = some Builtin.«frozenset.__iter__» :=
  entryFor_alias (id' := "frozenset.__iter__") (by kernel_rfl) rfl (by decide +kernel) (by kernel_rfl)

/-! ### in which order -/
theorem erase_perm {α : Type} : ∀ {l : List α} {j : Nat} {x : α}, l[j]? = some x → (x :: l.eraseIdx j).Perm l
  | [], j, x, h => by simp at h
  | y :: l, 0, x, h => by
    have : y = x := by simpa using h
    subst this
    exact List.Perm.refl _
  | y :: l, j + 1, x, h => by
    have ih := erase_perm (l := l) (j := j) (x := x) (by simpa using h)
    show (x :: y :: l.eraseIdx j).Perm (y :: l)
    exact (List.Perm.swap ..).trans (ih.cons y)
theorem pick_go {α : Type} (next : Nat → Nat) : ∀ (fuel k : Nat) (left : List α) (out : Array α), left.length ≤ fuel → (pickOrder.go next fuel k left out).toList.Perm (out.toList ++ left)
  | 0, k, left, out, h => by
    have : left = [] := List.length_eq_zero_iff.mp (by omega)
    subst this
    unfold pickOrder.go
    rw [List.append_nil]
  | fuel + 1, k, left, out, h => by
    unfold pickOrder.go
    cases e : left[next k % left.length]? with
    | none =>
      have h1 : left.length ≤ next k % left.length := List.getElem?_eq_none_iff.mp e
      have h2 : left = [] := by
        cases left with
        | nil => rfl
        | cons x r => exact absurd (Nat.mod_lt (next k) (by simp : 0 < (x :: r).length)) (by omega)
      subst h2
      simp
    | some x =>
      dsimp only
      obtain ⟨hl, ex⟩ := List.getElem?_eq_some_iff.mp e
      have ih := pick_go next fuel (k + 1) (left.eraseIdx (next k % left.length)) (out.push x) (by rw [List.length_eraseIdx_of_lt hl]; omega)
      refine ih.trans ?_
      rw [Array.toList_push, List.append_assoc]
      refine List.Perm.append_left _ ?_
      exact erase_perm e
theorem pick_all {α : Type} (next : Nat → Nat) (xs : Array α) : (pickOrder next xs).toList.Perm xs.toList := by
  unfold pickOrder
  have := pick_go next xs.size 0 xs.toList #[] (by simp)
  simpa using this
/-- the elements as a walk gives them -/
def order (w : World) (a : Addr) (ep : Nat) (es : Array (Int × Value)) : Array (Int × Value) := if bt w = true then pickOrder (w.params.setOrder a ep) es else es
theorem order_perm (w : World) (a : Addr) (ep : Nat) (es : Array (Int × Value)) : (order w a ep es).toList.Perm es.toList := by
  unfold order
  split
  · exact pick_all ..
  · exact List.Perm.refl _
theorem order_size (w : World) (a : Addr) (ep : Nat) (es : Array (Int × Value)) : (order w a ep es).size = es.size := by
  have := (order_perm w a ep es).length_eq
  rw [Array.length_toList, Array.length_toList] at this
  exact this
/-- the set at a, its epoch and table known -/
def SetIs (w : World) (h : Heap) (a : Addr) (es : Array (Int × Value)) (ep : Nat) (t : SetTable) : Prop :=
  ∃ o, h.get? a = some o ∧ o.ExactSet ∧ o.data = .set es ep t ∧ TabOk (bt w) t es.size
theorem SetAt.is {w : World} {h : Heap} {a : Addr} {es : Array (Int × Value)} (x : SetAt w h a es) : ∃ ep t, SetIs w h a es ep t := let ⟨o, ep, t, r⟩ := x; ⟨ep, t, o, r⟩
/-- where the walk stands -/
def standAtP (w : World) (t : SetTable) (i : Nat) : Nat := if bt w = true then 0 else match i with
  | 0 => 0
  | i + 1 => t.place.getD i 0 + 1
def IsIt (w : World) (h : Heap) (it a : Addr) (i n ep : Nat) (t : SetTable) : Prop :=
  ∃ o, h.get? it = some o ∧ o.cls = .type "set_iterator" ∧ o.data = .fields #[.int (standAtP w t i) 0, .int i 0, .ref a, .int n 0, .int ep 0]
section
variable {prog : Program} {w : World} {A : Around} {E : Value → Shared → Prop} {s : Shared}
theorem IsIt.typeIs {it a : Addr} {i n ep : Nat} {t : SetTable} (x : IsIt w s.heap it a i n ep t) : s.TypeIs (.ref it) "set_iterator" := let ⟨o, ho, hc, _⟩ := x; ⟨o, ho, hc⟩
theorem SetIs.typeIs {a : Addr} {es : Array (Int × Value)} {ep : Nat} {t : SetTable} (x : SetIs w s.heap a es ep t) : s.TypeIs (.ref a) "set" := let ⟨o, ho, hc, _⟩ := x; ⟨o, ho, hc.1⟩
theorem iter_set {a : Addr} {es : Array (Int × Value)} {ep : Nat} {t : SetTable} {Q : Value → Shared → Prop} (hS : SetIs w s.heap a es ep t)
    (hQ : Q (.ref s.heap.objs.size) { s with heap := s.heap.push { cls := .type "set_iterator", data := .fields #[.int 0 0, .int 0 0, .ref a, .int es.size 0, .int ep 0] } }) : wpAny (model prog w) A (pyIter (.ref a)) Q E s := by
  have hT := hS.typeIs
  obtain ⟨o, ho, hx, hd, ht⟩ := hS
  refine wpAny_pyIter_slot hT F.slot_set_iter (wpAny_call_entry F.slot_set_iter hT entry_iter ?_ (F.args_set_iter_1 _))
  unfold Builtin.«frozenset.__iter__» Builtin.Frozenset.slot0 slotArgs
  simp only [List.isEmpty_nil, Bool.not_true, Bool.false_eq_true, ↓reduceIte, bind_assoc, List.length_nil, bne_self_eq_false]
  unfold Builtin.Frozenset.addrOf Builtin.Frozenset.sizeOf
  refine wpAny_bind (wpAny_pure ?_)
  try dsimp only
  refine wpAny_bind (wpAny_pure ?_)
  refine wpAny_bind (wpAny_bind (wpAny_setEntries_of ho hd ht.fits (wpAny_pure ?_)))
  refine wpAny_bind ?_
  unfold setDrawn
  refine wpAny_bind (wpAny_setState_of ho hd ht.fits ?_)
  dsimp only
  unfold setsByText
  refine wpAny_bind (wpAny_bind (wpAny_askSetting (wpAny_pure ?_)))
  refine wpAny_pure ?_
  have hdr : ∀ b : Bool, (!b && (!t.plain && decide (es.size > 1))) = false := fun b => by rw [ht.plain]; simp
  split
  case isTrue hq => exact absurd hq (fun h => Bool.false_ne_true ((hdr _).symm.trans h))
  refine wpAny_bind (wpAny_pure ?_)
  refine wpAny_bind (wpAny_setEpoch_of ho hd ht.fits ?_)
  refine wpAny_bind (wpAny_newObj_type (wpAny_pure ⟨_, rfl, "set_iterator", _, ⟨_, Heap.get?_push_size _ rfl, rfl⟩, slot_next.lookup, ?_⟩))
  simpa [rawInt] using hQ
/-- what the next one is -/
theorem next_is {a : Addr} {es : Array (Int × Value)} {ep : Nat} {t : SetTable} {i : Nat} {Q : Option (Value × Nat) → Shared → Prop} (hS : SetIs w s.heap a es ep t) (hi : i ≤ es.size)
    (hQ : ∀ p : Option (Value × Nat), (∀ e, (order w a ep es)[i]? = some e → p = some (e.2, standAtP w t (i + 1))) → ((order w a ep es)[i]? = none → p = none) → Q p s) :
    wpAny (model prog w) A (setNext a (standAtP w t i) i ep) Q E s := by
  obtain ⟨o, ho, hx, hd, ht⟩ := hS
  unfold setNext
  refine wpAny_bind (wpAny_setState_of ho hd ht.fits ?_)
  dsimp only
  unfold setsByText
  refine wpAny_bind (wpAny_bind (wpAny_askSetting (wpAny_pure ?_)))
  have hb : (⟨(model prog w).prog, (model prog w).w.params⟩ : Setting).params.followText "set-order" = bt w := rfl
  rw [hb]
  cases hbt : bt w with
  | true =>
    rw [if_pos rfl]
    rw [if_neg (by simp)]
    refine wpAny_bind ?_
    unfold setWalk
    refine wpAny_bind (wpAny_setState_of ho hd ht.fits ?_)
    dsimp only
    unfold setsByText
    refine wpAny_bind (wpAny_bind (wpAny_askSetting (wpAny_pure ?_)))
    rw [hb, hbt, if_pos rfl]
    refine wpAny_bind (wpAny_askSetting (wpAny_pure ?_))
    refine wpAny_pure (hQ _ (fun e he => ?_) fun he => ?_)
    · unfold order at he
      rw [if_pos hbt] at he
      show Option.map _ ((pickOrder (w.params.setOrder a ep) es)[i]?) = _
      rw [he]
      unfold standAtP
      rw [if_pos hbt, if_pos hbt]
      rfl
    · unfold order at he
      rw [if_pos hbt] at he
      show Option.map _ ((pickOrder (w.params.setOrder a ep) es)[i]?) = _
      rw [he]; rfl
  | false =>
    rw [if_neg Bool.false_ne_true]
    have hdr : (!t.plain && decide (es.size > 1)) = false := by rw [ht.plain]; simp
    split
    case isTrue hq => exact absurd hq (fun h => Bool.false_ne_true (hdr.symm.trans h))
    have hled : (!t.led && !es.isEmpty) = false := by rw [ht.led, hbt]; simp
    refine wpAny_bind ?_
    show wpAny _ _ (if (!t.led && !es.isEmpty) = true then _ else _) _ _ s
    rw [if_neg (by rw [hled]; exact Bool.false_ne_true)]
    refine wpAny_pure ?_
    have hbel : below t.place (standAtP w t i) = i := by
      unfold standAtP
      rw [if_neg (by rw [hbt]; exact Bool.false_ne_true)]
      cases i with
      | zero => exact below_zero ht.up
      | succ i =>
        have hlt : i < t.place.size := by rw [ht.sz]; omega
        have e1 : t.place[i]? = some (t.place.getD i 0) := by
          rw [Array.getD_eq_getD_getElem?, Array.getElem?_eq_getElem hlt]; rfl
        exact below_next ht.up e1
    rw [hbel]
    have ho' : order w a ep es = es := by unfold order; rw [if_neg (by rw [hbt]; exact Bool.false_ne_true)]
    cases he : es[i]? with
    | none =>
      refine wpAny_pure (hQ _ (fun e h => ?_) fun _ => rfl)
      rw [ho', he] at h; cases h
    | some e =>
      have hlt : i < es.size := (Array.getElem?_eq_some_iff.mp he).1
      have hlt2 : i < t.place.size := by rw [ht.sz]; exact hlt
      have e1 : t.place[i]? = some (t.place.getD i 0) := by
        rw [Array.getD_eq_getD_getElem?, Array.getElem?_eq_getElem hlt2]; rfl
      rw [e1]
      refine wpAny_pure (hQ _ (fun e' h => ?_) fun h => ?_)
      · rw [ho', he] at h
        cases h
        unfold standAtP
        rw [if_neg (by rw [hbt]; exact Bool.false_ne_true)]
      · rw [ho', he] at h; cases h
theorem next_item {it a : Addr} {es : Array (Int × Value)} {ep : Nat} {t : SetTable} {i : Nat} {e : Int × Value} {Q : Option Value → Shared → Prop} (hit : IsIt w s.heap it a i es.size ep t) (hS : SetIs w s.heap a es ep t) (hx : (order w a ep es)[i]? = some e)
    (hQ : ∀ h', IsIt w h' it a (i + 1) es.size ep t → Heap.SameBut it s.heap h' → Q (some e.2) { s with heap := h' }) : wpAny (model prog w) A (pyNext (.ref it)) Q E s := by
  obtain ⟨o, ho, hc, hd⟩ := id hit
  obtain ⟨oa, hoa, hxa, hda, ht⟩ := id hS
  have hi : i ≤ es.size := by have := (Array.getElem?_eq_some_iff.mp hx).1; rw [order_size] at this; omega
  unfold pyNext
  refine wpAny_bind (wpAny_attempt (wpAny_callSpecial?_slot (name := Str.ofString "__next__") hit.typeIs slot_next (wpAny_call_entry slot_next hit.typeIs entry_next ?_ (args_next _))))
  unfold Builtin.«set_iterator.__next__» slotArgs
  simp only [List.isEmpty_nil, Bool.not_true, Bool.false_eq_true, ↓reduceIte, List.length_nil, bne_self_eq_false]
  refine wpAny_bind (wpAny_pure ?_)
  refine wpAny_bind (wpAny_fieldsOf ho hd ?_)
  dsimp only
  refine wpAny_bind (wpAny_setEntries_of hoa hda ht.fits ?_)
  rw [if_neg (by simp)]
  try dsimp only
  refine wpAny_bind ?_
  rw [show ((standAtP w t i : Nat) : Int).toNat = standAtP w t i from Int.toNat_natCast _, show ((i : Nat) : Int).toNat = i from Int.toNat_natCast _, show ((ep : Nat) : Int).toNat = ep from Int.toNat_natCast _]
  refine next_is hS hi fun p h1 _ => ?_
  rw [h1 e hx]
  dsimp only
  refine wpAny_bind (wpAny_setField ho hd (by simp) ?_)
  have ho1 : (s.heap.update it (Obj.mapFields (·.setIfInBounds 0 (rawInt ((standAtP w t (i + 1) : Nat) : Int))))).get? it = some _ := Heap.get?_update_self _ ho (Obj.isFreed_of_fields (Obj.data_mapFields hd _))
  refine wpAny_bind (wpAny_setField ho1 (Obj.data_mapFields hd _) (by simp) ?_)
  refine wpAny_pure ⟨_, rfl, wpAny_pure (hQ _ ⟨_, Heap.get?_update_self _ ho1 (Obj.isFreed_of_fields (Obj.data_mapFields (Obj.data_mapFields hd _) _)), ?_, ?_⟩ ((Heap.SameBut.update ..).trans (Heap.SameBut.update ..)))⟩
  · exact (Obj.cls_mapFields ..).trans ((Obj.cls_mapFields ..).trans hc)
  · rw [Obj.data_mapFields (Obj.data_mapFields hd _)]; simp [rawInt]
theorem next_end {it a : Addr} {es : Array (Int × Value)} {ep : Nat} {t : SetTable} {Q : Option Value → Shared → Prop} (hh : A.handled = none) (hit : IsIt w s.heap it a es.size es.size ep t) (hS : SetIs w s.heap a es ep t)
    (hQ : ∀ h', Heap.ExtBut it s.heap h' → Q none { s with heap := h' }) : wpAny (model prog w) A (pyNext (.ref it)) Q E s := by
  obtain ⟨o, ho, hc, hd⟩ := id hit
  obtain ⟨oa, hoa, hxa, hda, ht⟩ := id hS
  unfold pyNext
  refine wpAny_bind (wpAny_attempt (wpAny_callSpecial?_slot (name := Str.ofString "__next__") hit.typeIs slot_next (wpAny_call_entry slot_next hit.typeIs entry_next ?_ (args_next _))))
  unfold Builtin.«set_iterator.__next__» slotArgs
  simp only [List.isEmpty_nil, Bool.not_true, Bool.false_eq_true, ↓reduceIte, List.length_nil, bne_self_eq_false]
  refine wpAny_bind (wpAny_pure ?_)
  refine wpAny_bind (wpAny_fieldsOf ho hd ?_)
  dsimp only
  refine wpAny_bind (wpAny_setEntries_of hoa hda ht.fits ?_)
  rw [if_neg (by simp)]
  try dsimp only
  refine wpAny_bind ?_
  rw [show ((standAtP w t es.size : Nat) : Int).toNat = standAtP w t es.size from Int.toNat_natCast _, show ((es.size : Nat) : Int).toNat = es.size from Int.toNat_natCast _, show ((ep : Nat) : Int).toNat = ep from Int.toNat_natCast _]
  refine next_is hS (Nat.le_refl _) fun p _ h2 => ?_
  rw [h2 (Array.getElem?_eq_none (by rw [order_size]; exact Nat.le_refl _))]
  dsimp only
  refine wpAny_bind (wpAny_setField ho hd (by simp) ?_)
  show wpAny _ _ (newExc (.type "StopIteration") [] >>= _) _ _ _
  refine wpAny_bind ?_
  simp only [newExc, newTuple]
  refine wpAny_bind (wpAny_newObj_type ?_ (by size_fits))
  refine wpAny_bind (m := firstArgMember _ _) (wpAny_of_eq (a := Value.none) (by first | rfl | (simp only [firstArgMember]; rfl)) ?_)
  refine wpAny_newObj_type ?_ (by size_fits)
  simp only [raiseNew]
  refine wpAny_bind (wpAny_handled ?_)
  rw [show A.in1.handled = none from hh]
  refine wpAny_bind (wpAny_pure (wpAny_throw ?_))
  refine wpAny_bind (wpAny_isInstance (T := "StopIteration") (b := true) ⟨_, Heap.get?_push_size _ rfl, rfl⟩ isSubtype_stop ?_)
  exact wpAny_pure (hQ _ (((Heap.SameBut.update ..).extBut.push _).push _))
end
end RtS
end

section
set_option Elab.async false
set_option linter.all false
set_option maxRecDepth 100000
set_option maxHeartbeats 4000000
namespace RtS
open PySem PySem.SetTable
theorem len_of_set : typeLookup (.type "set") "__len__" = pure (some (.builtin "set.__len__")) := by rw [typeLookup_type, builtinLookup_eq_fast]; kernel_rfl
theorem iter_of_it : typeLookup (.type "set_iterator") "__iter__" = pure (some (.builtin "set_iterator.__iter__")) := by rw [typeLookup_type, builtinLookup_eq_fast]; kernel_rfl
section
variable {prog : Program} {w : World} {A : Around} {E : Value → Shared → Prop} {s : Shared}
theorem IsIt.at {h h' : Heap} {it a : Addr} {i n ep : Nat} {t : SetTable} (x : IsIt w h it a i n ep t) (e : ∀ o, h.get? it = some o → h'.get? it = some o) : IsIt w h' it a i n ep t := let ⟨o, ho, r⟩ := x; ⟨o, e _ ho, r⟩
theorem SetIs.at {h h' : Heap} {a : Addr} {es : Array (Int × Value)} {ep : Nat} {t : SetTable} (x : SetIs w h a es ep t) (e : ∀ o, h.get? a = some o → h'.get? a = some o) : SetIs w h' a es ep t := let ⟨o, ho, r⟩ := x; ⟨o, e _ ho, r⟩
/-- what a walk needs of next alone -/
theorem extend_set {R : Result → Shared → Prop} {I a S : Addr} {es : Array (Int × Value)} {ep : Nat} {t : SetTable} (hh : A.in1.handled = none) (hne : a ≠ I) (hSI : S ≠ I) (hSa : S ≠ a) (hn : es.size ≤ 300) (res : Value) :
    ∀ (k i : Nat) (s : Shared) (acc : Array Value) (c : Nat), es.size - i = k → i ≤ es.size → IsIt w s.heap I a i es.size ep t → SetIs w s.heap a es ep t → s.heap.get? S = some { cls := .type "list", dict := none, data := .seq acc c, slots := #[] } →
      acc.toList = ((order w a ep es).toList.take i).map (·.2) →
      (∀ h' acc' c', (∀ b o, b ≠ S → b ≠ I → s.heap.get? b = some o → h'.get? b = some o) → h'.get? S = some { cls := .type "list", dict := none, data := .seq acc' c', slots := #[] } → acc'.toList = (order w a ep es).toList.map (·.2) → R (.ok (.ret res)) { s with heap := h' }) →
      codeAny (model prog w) A (.builtin "list.extend.loop" ⟨[.ref S, .ref I, res], []⟩) R s := by
  intro k
  induction k with
  | zero =>
    intro i s acc c hk hi hit hS hL hacc hR
    have hin : i = es.size := by omega
    subst hin
    refine codeAny_builtin F.entry_extend_loop ?_
    rw [Around.under_plainId F.plain_extend_loop _]
    show wpAny _ A.in1 (pyNext (.ref I) >>= _) _ _ s
    refine wpAny_bind (next_end hh hit hS fun h' ext => ?_)
    refine wpAny_pure (hR h' acc c (fun b o _ hb e => ext b o hb e) (ext S _ hSI hL) ?_)
    rw [hacc, List.take_of_length_le (by rw [Array.length_toList, order_size]; exact Nat.le_refl _)]
  | succ k ih =>
    intro i s acc c hk hi hit hS hL hacc hR
    have hlt : i < (order w a ep es).size := by rw [order_size]; omega
    have hx : (order w a ep es)[i]? = some (order w a ep es)[i] := Array.getElem?_eq_getElem hlt
    refine codeAny_builtin F.entry_extend_loop ?_
    rw [Around.under_plainId F.plain_extend_loop _]
    show wpAny _ A.in1 (pyNext (.ref I) >>= _) _ _ s
    refine wpAny_bind (next_item hit hS hx fun h' hit' sb => ?_)
    have hL' : h'.get? S = some { cls := .type "list", dict := none, data := .seq acc c, slots := #[] } := by rw [sb.2 S hSI]; exact hL
    have hsz : acc.size = i := by
      have := congrArg List.length hacc
      rw [List.length_map, List.length_take, Array.length_toList, Array.length_toList] at this
      omega
    have hi3 : i < 300 := by rw [order_size] at hlt; omega
    show wpAny _ A.in1 (updateSeq S (·.push _) >>= _) _ _ _
    refine wpAny_bind ?_
    refine wpAny_updateSeq hL' rfl (wpAny_pure ⟨plainId_quiet F.plain_extend_loop _, ih (i + 1) _ (acc.push (order w a ep es)[i].2) _ (by omega) (by rw [order_size] at hlt; omega) (hit'.at fun o e => ?_) (hS.at fun o e => ?_) (Heap.get?_update_self _ hL' rfl) ?_ fun h'' acc' c' kp hL'' hacc' => ?_⟩)
      (by rw [hsz, sizeLine_eq]; omega) (by show (acc.push _).size ≤ sizeLine + 1; rw [Array.size_push, hsz, sizeLine_eq]; omega)
    · exact (Heap.get?_update_other _ _ hSI).trans e
    · refine (Heap.get?_update_other _ _ hSa).trans ?_
      rw [sb.2 a hne]; exact e
    · rw [Array.toList_push, hacc, List.take_succ, Array.getElem?_toList, hx, List.map_append]
      rfl
    · refine hR h'' acc' c' (fun b o h1 h2 e => kp b o h1 h2 ?_) hL'' hacc'
      refine (Heap.get?_update_other _ _ (fun q => h1 q.symm)).trans ?_
      rw [sb.2 b h2]; exact e
theorem collect_set {a : Addr} {es : Array (Int × Value)} {ep : Nat} {t : SetTable} {Q : List Value → Shared → Prop} (hh : A.handled = none) (hS : SetIs w s.heap a es ep t) (hn : es.size ≤ 300)
    (hQ : ∀ h', s.heap.objs.size < h'.objs.size → (∀ b o, s.heap.get? b = some o → h'.get? b = some o) → Q ((order w a ep es).toList.map (·.2)) { s with heap := h' }) : wpAny (model prog w) A (collect (.ref a)) Q E s := by
  have hlt : a < s.heap.objs.size := let ⟨o, ho, _⟩ := hS; Heap.lt_size ho
  have hSa : s.heap.objs.size ≠ a := Nat.ne_of_gt hlt
  unfold collect
  refine wpAny_bind (wpAny_runValue (codeAny_builtin F.entry_proto_collect ?_))
  rw [Around.under_plainId F.plain_proto_collect _]
  show wpAny _ A.in1 (newList [] >>= fun l => again (.builtin "list.__iadd__" ⟨[l, .ref a], []⟩)) _ _ s
  refine wpAny_bind (wpAny_newObj_type ?_)
  refine wpAny_pure ⟨plainId_quiet F.plain_list_iadd _, codeAny_builtin F.entry_list_iadd ?_⟩
  rw [Around.under_plainId F.plain_list_iadd _]
  have hS1 : SetIs w (s.heap.push { cls := .type "list", data := .seq ([] : List Value).toArray }) a es ep t := hS.at fun o e => Heap.get?_push_of_some _ e
  have hL1 : (s.heap.push { cls := .type "list", data := .seq ([] : List Value).toArray }).get? s.heap.objs.size = some { cls := .type "list", data := .seq ([] : List Value).toArray } := Heap.get?_push_size _ rfl
  show wpAny _ A.in1 (Builtin.List.listExtendWith (.ref s.heap.objs.size) (.ref a) (.ref s.heap.objs.size)) _ _ { s with heap := s.heap.push { cls := .type "list", data := .seq ([] : List Value).toArray } }
  unfold Builtin.List.listExtendWith
  have hT1 : Shared.TypeIs { s with heap := s.heap.push { cls := .type "list", data := .seq ([] : List Value).toArray } } (.ref a) "set" := SetIs.typeIs (s := { s with heap := s.heap.push { cls := .type "list", data := .seq ([] : List Value).toArray } }) hS1
  refine wpAny_bind (wpAny_typeOf hT1 ?_)
  have h1 : Builtin.List.listSameRef (.ref s.heap.objs.size) (.ref a) = false := by simp [Builtin.List.listSameRef, hSa]
  have h2 : (Value.type "set" == Value.type "list") = false := by decide
  have h3 : (Value.type "set" == Value.type "tuple") = false := by decide
  simp only [h1, h2, h3, Bool.or_false, Bool.false_eq_true, if_false]
  refine wpAny_bind (iter_set (s := { s with heap := s.heap.push { cls := .type "list", data := .seq ([] : List Value).toArray } }) hS1 ?_)
  generalize hI : (s.heap.push { cls := .type "list", data := .seq ([] : List Value).toArray }).objs.size = I
  have hIe : I = s.heap.objs.size + 1 := by rw [← hI, Heap.size_push]
  have hL2 : ((s.heap.push { cls := .type "list", data := .seq ([] : List Value).toArray }).push { cls := .type "set_iterator", data := .fields #[.int 0 0, .int 0 0, .ref a, .int es.size 0, .int ep 0] }).get? s.heap.objs.size = some { cls := .type "list", data := .seq ([] : List Value).toArray } := Heap.get?_push_of_some _ hL1
  have hS2 : SetIs w ((s.heap.push { cls := .type "list", data := .seq ([] : List Value).toArray }).push { cls := .type "set_iterator", data := .fields #[.int 0 0, .int 0 0, .ref a, .int es.size 0, .int ep 0] }) a es ep t := hS1.at fun o e => Heap.get?_push_of_some _ e
  have hit2 : IsIt w ((s.heap.push { cls := .type "list", data := .seq ([] : List Value).toArray }).push { cls := .type "set_iterator", data := .fields #[.int 0 0, .int 0 0, .ref a, .int es.size 0, .int ep 0] }) I a 0 es.size ep t := by
    refine ⟨_, by rw [← hI]; exact Heap.get?_push_size _ rfl, rfl, ?_⟩
    have : standAtP w t 0 = 0 := by unfold standAtP; split <;> rfl
    rw [this]; rfl
  have old2 : ∀ b o, s.heap.get? b = some o → ((s.heap.push { cls := .type "list", data := .seq ([] : List Value).toArray }).push { cls := .type "set_iterator", data := .fields #[.int 0 0, .int 0 0, .ref a, .int es.size 0, .int ep 0] }).get? b = some o := fun b o e => Heap.get?_push_of_some _ (Heap.get?_push_of_some _ e)
  generalize hH2 : ((s.heap.push { cls := .type "list", data := .seq ([] : List Value).toArray }).push { cls := .type "set_iterator", data := .fields #[.int 0 0, .int 0 0, .ref a, .int es.size 0, .int ep 0] }) = H2 at hL2 hS2 hit2 old2
  show wpAny _ A.in1 _ _ _ { s with heap := H2 }
  have hT2 : Shared.TypeIs { s with heap := H2 } (.ref a) "set" := SetIs.typeIs (s := { s with heap := H2 }) hS2
  refine wpAny_bind (wpAny_holding ?_)
  unfold Builtin.List.listLengthHint
  refine wpAny_bind (wpAny_specialOf hT2 len_of_set ?_)
  have hsp : splitId "set.__len__" = some ("set", "__len__") := by kernel_rfl
  dsimp only
  rw [hsp]
  dsimp only
  refine wpAny_bind (wpAny_isInstance (b := true) hT2 sub_set_self ?_)
  simp only [Bool.not_true, Bool.false_eq_true, if_false]
  rw [if_pos (by decide +kernel)]
  refine wpAny_bind (wpAny_typeOf hT2 ?_)
  refine wpAny_pure ?_
  rw [if_pos (by decide +kernel)]
  refine wpAny_bind (wpAny_rule ?_)
  refine wpAny_bind ?_
  show wpAny _ A.in1 (updateSeq s.heap.objs.size (·.push .none) >>= fun _ => updateSeq s.heap.objs.size (·.pop)) _ _ _
  refine wpAny_bind (wpAny_updateSeq hL2 rfl ?_)
  have hL3 := Heap.get?_update_self (Obj.mapSeq (·.push Value.none)) hL2 rfl
  refine wpAny_updateSeq hL3 rfl ?_
  have hL4 := Heap.get?_update_self (Obj.mapSeq (·.pop)) hL3 rfl
  have oth : ∀ b o, b ≠ s.heap.objs.size → H2.get? b = some o → ((H2.update s.heap.objs.size (Obj.mapSeq (·.push Value.none))).update s.heap.objs.size (Obj.mapSeq (·.pop))).get? b = some o :=
    fun b o hb e => (Heap.get?_update_other _ _ (Ne.symm hb)).trans ((Heap.get?_update_other _ _ (Ne.symm hb)).trans e)
  have hSI : s.heap.objs.size < I := by rw [hIe]; exact Nat.lt_succ_self _
  have haI : a ≠ I := Nat.ne_of_lt (Nat.lt_trans hlt hSI)
  refine wpAny_pure ⟨plainId_quiet F.plain_extend_loop _, extend_set (w := w) (prog := prog) (I := I) (a := a) (S := s.heap.objs.size) (es := es) (ep := ep) (t := t) (by simpa using hh) haI (Nat.ne_of_lt hSI) hSa hn _ es.size 0 _ _ _ rfl (Nat.zero_le _)
    (hit2.at fun o e => oth I o (Nat.ne_of_gt hSI) e) (hS2.at fun o e => oth a o hSa.symm e) hL4 rfl fun h' acc' c' kp hL' hacc => ?_⟩
  show wpAny _ A (load s.heap.objs.size >>= _) _ _ { s with heap := h' }
  refine wpAny_bind (wpAny_load hL' ?_)
  refine wpAny_pure ?_
  rw [hacc]
  refine hQ h' (Heap.lt_size hL') fun b o e => ?_
  have hb := Heap.lt_size e
  exact kp b o (Nat.ne_of_lt hb) (Nat.ne_of_lt (Nat.lt_trans hb hSI)) (oth b o (Nat.ne_of_lt hb) (old2 b o e))
end
end RtS
end

section
set_option Elab.async false
set_option linter.all false
set_option maxRecDepth 100000
set_option maxHeartbeats 4000000
namespace RtS
open PySem PySem.SetTable
section
variable {prog : Program} {w : World} {A : Around} {E : Value → Shared → Prop} {s : Shared}
theorem SetAt.at {h h' : Heap} {a : Addr} {es : Array (Int × Value)} (x : SetAt w h a es) (e : ∀ o, h.get? a = some o → h'.get? a = some o) : SetAt w h' a es := let ⟨o, ep, t, ho, r⟩ := x; ⟨o, ep, t, e _ ho, r⟩
theorem tupKey_at {h h' : Heap} {ks : List Int} {c : Addr} (x : IsTupleKey (intKind prog w) h ks c) (e : ∀ o, h.get? c = some o → h'.get? c = some o) : IsTupleKey (intKind prog w) h' ks c := let ⟨o, it, n, ho, r⟩ := x; ⟨o, it, n, e _ ho, r⟩
theorem set_at_new {h : Heap} {a : Addr} (e : h.get? a = some (newSetO w)) : SetAt w h a #[] := ⟨_, 0, _, e, ⟨rfl, rfl, rfl⟩, rfl, TabOk.fresh _⟩
/-- what has been put in of the first i -/
structure TupIn (prog : Program) (w : World) (S : Addr) (cs : List Addr) (key : Addr → List Int) (i : Nat) (h : Heap) : Prop where
  ex : ∃ es : Array (Int × Value), SetAt w h S es ∧ es.size ≤ i ∧ (∀ e ∈ es.toList, ∃ c ∈ cs, e = (tupleKeyHash (intKind prog w) (key c), .ref c)) ∧
    ∀ (j : Nat) (c : Addr), j < i → cs[j]? = some c → ∃ c' ∈ cs, key c' = key c ∧ (tupleKeyHash (intKind prog w) (key c'), Value.ref c') ∈ es.toList
  keys : ∀ c ∈ cs, IsTupleKey (intKind prog w) h (key c) c
theorem set_tuples {l : Addr} {cs : List Addr} {key : Addr → List Int} {items : Array Value} {Q : Value → Shared → Prop} (hh : A.handled = none) (hu : A.in1.in1.in1.units < cLine) (hl : s.heap.IsList l items) (hi : items.toList = cs.map Value.ref)
    (hk : ∀ c ∈ cs, IsTupleKey (intKind prog w) s.heap (key c) c) (hn : cs.length ≤ 300)
    (h : ∀ (h' : Heap) (tk : Nat), TupIn prog w s.heap.objs.size cs key cs.length h' → (∀ b o, b < s.heap.objs.size → s.heap.get? b = some o → h'.get? b = some o) → Q (.ref s.heap.objs.size) { s with heap := h', toks := tk }) :
    wpAny (model prog w) A (call (.type "set") [.ref l]) Q E s := by
  have hsz : items.size = cs.length := by rw [← Array.length_toList, hi, List.length_map]
  have clt : ∀ c ∈ cs, c < s.heap.objs.size := fun c hc => let ⟨o, _, _, ho, _⟩ := hk c hc; Heap.lt_size ho
  refine call_set_gen hh hl (fun i h' => TupIn prog w s.heap.objs.size cs key i h') (fun h0 e kp => ⟨⟨#[], set_at_new e, Nat.le_refl _, fun e he => (by cases he), fun j c hj => absurd hj (Nat.not_lt_zero _)⟩, fun c hc => tupKey_at (hk c hc) fun o e => kp c o e⟩) ?_ ?_ (fun h' tk hv kp => h h' tk (by rw [hsz] at hv; exact hv) kp)
  · rintro i h1 h2 ⟨⟨es, hS, z, m1, m2⟩, ks⟩ kp
    exact ⟨⟨es, hS.at fun o e => kp _ o (Nat.ne_of_lt (Nat.lt_succ_self _)) e, z, m1, m2⟩, fun c hc => tupKey_at (ks c hc) fun o e => kp c o (Nat.ne_of_lt (Nat.lt_succ_of_lt (clt c hc))) e⟩
  · rintro i v s' E' Q' hlt hv ⟨⟨es, hS, z, m1, m2⟩, ks⟩ hq
    rw [hsz] at hlt
    obtain ⟨c, hc⟩ : ∃ c, cs[i]? = some c := ⟨cs[i], List.getElem?_eq_getElem hlt⟩
    have hcm : c ∈ cs := List.mem_of_getElem? hc
    obtain rfl : v = .ref c := by
      rw [← Array.getElem?_toList, hi, List.getElem?_map, hc] at hv
      exact (Option.some.inj hv).symm
    unfold setAdd
    refine wpAny_holding ?_
    refine wpAny_bind (wpAny_pyHash_tuple hu (ks c hcm) ?_)
    have htups : Tups prog w s'.heap es.toList := fun e he => by
      obtain ⟨c', hc', rfl⟩ := m1 e he
      exact ⟨key c', c', rfl, ks c' hc', rfl⟩
    have hcS : ∀ c ∈ cs, c ≠ s.heap.objs.size := fun c hc => Nat.ne_of_lt (clt c hc)
    refine add_tuple (s := { s' with toks := s'.toks + ((key c).length + 1) }) hu (ks c hcm) hS htups (by omega) (fun hex b => ?_) fun h' es' b sb hS' had => ?_
    · refine hq s'.heap _ b (Nat.le_add_right _ _) (Heap.SameBut.refl _ _) ⟨⟨es, hS, by omega, m1, fun j c2 hj hc2 => ?_⟩, ks⟩
      by_cases e : j = i
      · subst e
        rw [hc] at hc2
        cases hc2
        obtain ⟨e', he', c', ec, hk'⟩ := hex
        obtain ⟨c3, hc3, rfl⟩ := m1 e' he'
        cases ec
        exact ⟨c', hc3, (ks c' hc3).inj hk', he'⟩
      · exact m2 j c2 (by omega) hc2
    · refine hq h' _ b (Nat.le_add_right _ _) sb ⟨⟨es', hS', ?_, fun e he => ?_, fun j c2 hj hc2 => ?_⟩, fun c2 hc2 => tupKey_at (ks c2 hc2) fun o e => by rw [sb.2 c2 (hcS c2 hc2)]; exact e⟩
      · have := had.length_eq
        rw [Array.length_toList, List.length_cons, Array.length_toList] at this
        omega
      · rcases List.mem_cons.mp (had.mem_iff.mp he) with q | q
        · exact ⟨c, hcm, q⟩
        · exact m1 e q
      · by_cases e : j = i
        · subst e
          rw [hc] at hc2
          cases hc2
          exact ⟨c, hcm, rfl, had.mem_iff.mpr (List.mem_cons_self ..)⟩
        · obtain ⟨c', a1, a2, a3⟩ := m2 j c2 (by omega) hc2
          exact ⟨c', a1, a2, had.mem_iff.mpr (List.mem_cons_of_mem _ a3)⟩
/-- the ints put in of the first i -/
structure IntIn (prog : Program) (w : World) (S : Addr) (ns : List Int) (i : Nat) (h : Heap) : Prop where
  ex : ∃ (es : Array (Int × Value)) (ms : List (Int × Tok)), SetAt w h S es ∧ es.size ≤ i ∧ es.toList = ms.map (fun m => ((intKind prog w).hash m.1, Value.int m.1 m.2)) ∧ (ms.map (·.1)).Nodup ∧ ∀ k, k ∈ ms.map (·.1) ↔ k ∈ ns.take i
theorem set_ints {l : Addr} {ns : List Int} {items : Array Value} {Q : Value → Shared → Prop} (hh : A.handled = none) (hl : s.heap.IsList l items) (hi : PyProof.Rows.IntsAre items.toList ns) (hn : ns.length ≤ 300)
    (h : ∀ (h' : Heap) (tk : Nat), IntIn prog w s.heap.objs.size ns ns.length h' → (∀ b o, b < s.heap.objs.size → s.heap.get? b = some o → h'.get? b = some o) → Q (.ref s.heap.objs.size) { s with heap := h', toks := tk }) :
    wpAny (model prog w) A (call (.type "set") [.ref l]) Q E s := by
  have hsz : items.size = ns.length := by rw [← Array.length_toList]; exact hi.length
  refine call_set_gen hh hl (fun i h' => IntIn prog w s.heap.objs.size ns i h') (fun h0 e kp => ⟨#[], [], set_at_new e, Nat.le_refl _, rfl, List.nodup_nil, fun k => by simp⟩) ?_ ?_ (fun h' tk hv kp => h h' tk (by rw [hsz] at hv; exact hv) kp)
  · rintro i h1 h2 ⟨es, ms, hS, r⟩ kp
    exact ⟨es, ms, hS.at fun o e => kp _ o (Nat.ne_of_lt (Nat.lt_succ_self _)) e, r⟩
  · rintro i v s' E' Q' hlt hv ⟨es, ms, hS, z, em, nd, mm⟩ hq
    rw [hsz] at hlt
    obtain ⟨t, rfl⟩ := PyProof.Rows.IntsAre.int_at hi i v (by rw [Array.getElem?_toList]; exact hv)
    have hg : ns[i]? = some (ns.getD i 0) := by rw [List.getD_eq_getElem?_getD, List.getElem?_eq_getElem hlt]; rfl
    generalize hk : ns.getD i 0 = k at hg
    have tk1 : ns.take (i + 1) = ns.take i ++ [k] := by rw [List.take_succ, hg]; rfl
    unfold setAdd
    refine wpAny_holding ?_
    refine wpAny_bind ((intKind prog w).pyHash (k := k) (intIs k t) ?_)
    have hints : Ints prog w es.toList := fun e he => by
      rw [em] at he
      obtain ⟨m, _, rfl⟩ := List.mem_map.mp he
      exact ⟨m.1, m.2, rfl⟩
    refine add_int (s := { s' with toks := s'.toks + 1 }) hS hints (by omega) (fun hex b => ?_) fun hno h' es' b sb hS' had => ?_
    · refine hq s'.heap _ b (Nat.le_add_right _ _) (Heap.SameBut.refl _ _) ⟨es, ms, hS, by omega, em, nd, fun k' => ?_⟩
      rw [mm, tk1, List.mem_append, List.mem_singleton]
      refine ⟨.inl, fun q => q.elim id fun e => ?_⟩
      subst e
      obtain ⟨t', ht'⟩ := hex
      rw [em] at ht'
      obtain ⟨m, hm, e⟩ := List.mem_map.mp ht'
      have e2 : Value.int m.1 m.2 = Value.int k' t' := congrArg Prod.snd e
      cases e2
      exact (mm _).mp (List.mem_map.mpr ⟨m, hm, rfl⟩)
    · -- the new order as ms'
      have hall : ∀ e ∈ es'.toList, ∃ m : Int × Tok, e = ((intKind prog w).hash m.1, Value.int m.1 m.2) := fun e he => by
        rcases List.mem_cons.mp (had.mem_iff.mp he) with q | q
        · exact ⟨(k, t), q⟩
        · obtain ⟨i', t', e'⟩ := hints e q
          exact ⟨(i', t'), e'⟩
      have hback : ∀ L : List (Int × Value), (∀ e ∈ L, ∃ m : Int × Tok, e = ((intKind prog w).hash m.1, Value.int m.1 m.2)) → ∃ ms : List (Int × Tok), L = ms.map (fun m => ((intKind prog w).hash m.1, Value.int m.1 m.2)) := fun L => by
        induction L with
        | nil => intro _; exact ⟨[], rfl⟩
        | cons x r ih =>
          intro hL
          obtain ⟨m, rfl⟩ := hL x (List.mem_cons_self ..)
          obtain ⟨ms', rfl⟩ := ih fun e he => hL e (List.mem_cons_of_mem _ he)
          exact ⟨m :: ms', rfl⟩
      obtain ⟨ms', em'⟩ := hback es'.toList hall
      have hp : (ms'.map (·.1)).Perm (k :: ms.map (·.1)) := by
        have hval : ∀ L : List (Int × Tok), (L.map (fun m => ((intKind prog w).hash m.1, Value.int m.1 m.2))).map (fun e => match e.2 with | .int i _ => i | _ => 0) = L.map (·.1) := fun L => by
          rw [List.map_map]; rfl
        have h1 := (had.map (fun e : Int × Value => match e.2 with | .int i _ => i | _ => 0))
        rw [em', List.map_cons, em, hval, hval] at h1
        exact h1
      refine hq h' _ b (Nat.le_add_right _ _) sb ⟨es', ms', hS', ?_, em', ?_, fun k' => ?_⟩
      · have := had.length_eq
        rw [Array.length_toList, List.length_cons, Array.length_toList] at this
        omega
      · refine hp.nodup_iff.mpr (List.nodup_cons.mpr ⟨fun hm => ?_, nd⟩)
        obtain ⟨m, hm, e⟩ := List.mem_map.mp hm
        refine hno m.2 ?_
        rw [em, ← e]
        exact List.mem_map.mpr ⟨m, hm, rfl⟩
      · rw [hp.mem_iff, List.mem_cons, mm, tk1, List.mem_append, List.mem_singleton]
        exact Or.comm
end
end RtS
end

section
set_option Elab.async false
set_option linter.all false
set_option maxRecDepth 100000
set_option maxHeartbeats 4000000
namespace RtS
open PySem PySem.SetTable
open PyProof.Rows (seqObj sortedHeap sortedHeap_old sortedHeap_at kind_sorted plain_sorted entry_sorted args_sorted1 slot_list_sort entry_list_sort args_list_sort IntsAre)
section
variable {prog : Program} {w : World} {A : Around} {E : Value → Shared → Prop} {s : Shared}
/-- sorted(a set): the list as it is sorted in place -/
theorem sorted_gen {a : Addr} {es : Array (Int × Value)} {ep : Nat} {t : SetTable} {Q : Value → Shared → Prop} (hh : A.handled = none) (hS : SetIs w s.heap a es ep t) (hn : es.size ≤ 300)
    (hsort : ∀ (h1 : Heap) (l : Addr), s.heap.objs.size ≤ l → (∀ b o, s.heap.get? b = some o → h1.get? b = some o ∧ b ≠ l) → h1.get? l = some (seqObj "list" ((order w a ep es).toList.map (·.2)).toArray 0) →
      wpAny (model prog w) A.in1.in1 (Builtin.«list.sort» ⟨[.ref l], []⟩) (fun f s' => ∃ v, f = .done (.ret v) ∧ Q (.ref l) s') E { s with heap := h1 }) :
    wpAny (model prog w) A (call (.builtin "sorted") [.ref a]) Q E s := by
  refine Calls.call_function_entry kind_sorted plain_sorted entry_sorted (args_sorted1 _) ?_
  unfold Builtin.«sorted»
  refine wpAny_bind (m := checkCount "sorted" 1 1 _) (wpAny_pure ?_)
  refine wpAny_bind (collect_set (by simpa using hh) hS hn fun h0 hlt kp => ?_)
  refine wpAny_bind (wpAny_newList ?_ (by rw [List.length_map, Array.length_toList, order_size, sizeLine_eq]; omega))
  have hoL : (h0.push (seqObj "list" ((order w a ep es).toList.map (·.2)).toArray 0)).get? h0.objs.size = some (seqObj "list" ((order w a ep es).toList.map (·.2)).toArray 0) := Heap.get?_push_size _ rfl
  refine wpAny_bind (wpAny_holding (wpAny_call_entry slot_list_sort ⟨_, hoL, rfl⟩ entry_list_sort ?_ (args_list_sort _)))
  refine wpAny_mono (hsort (h0.push (seqObj "list" ((order w a ep es).toList.map (·.2)).toArray 0)) h0.objs.size (Nat.le_of_lt hlt) (fun b o e => ⟨Heap.get?_push_of_some _ (kp b o e), Nat.ne_of_lt (Nat.lt_trans (Heap.lt_size e) hlt)⟩) hoL) ?_ fun _ _ x => x
  rintro f s' ⟨v, rfl, q⟩
  exact ⟨v, rfl, wpAny_pure ⟨_, rfl, q⟩⟩
/-- ints: fewer than 64 -/
theorem sorted_ints_set {a : Addr} {ns : List Int} {i : Nat} {Q : Value → Shared → Prop} (hh : A.handled = none) (hS : IntIn prog w a ns i s.heap) (hi : i < 64)
    (hQ : ∀ (h' : Heap) (l : Addr) (out : List Value) (ns' : List Int) (ep : Nat), s.heap.objs.size ≤ l → (∀ b o, s.heap.get? b = some o → h'.get? b = some o) → h'.get? l = some (seqObj "list" out.toArray ep) → IntsAre out ns' → ns'.Nodup → ns'.Pairwise (· ≤ ·) → (∀ k, k ∈ ns' ↔ k ∈ ns.take i) →
      Q (.ref l) { s with heap := h' }) : wpAny (model prog w) A (call (.builtin "sorted") [.ref a]) Q E s := by
  obtain ⟨es, ms, hS, z, em, nd, mm⟩ := hS
  obtain ⟨ep, t, hS⟩ := hS.is
  refine sorted_gen hh hS (by omega) fun h1 l hl kp hoL => ?_
  have hp := order_perm w a ep es
  -- the values as ints
  have hints : ∀ L : List (Int × Value), (∀ e ∈ L, ∃ m : Int × Tok, e = ((intKind prog w).hash m.1, Value.int m.1 m.2)) → IntsAre (L.map (·.2)) (L.map (fun e => match e.2 with | .int i _ => i | _ => 0)) := fun L => by
    induction L with
    | nil => intro _; exact IntsAre.nil
    | cons x r ih =>
      intro hL
      obtain ⟨m, rfl⟩ := hL x (List.mem_cons_self ..)
      exact IntsAre.cons m.1 m.2 (ih fun e he => hL e (List.mem_cons_of_mem _ he))
  have hI := hints (order w a ep es).toList fun e he => by
    have := hp.mem_iff.mp he
    rw [em] at this
    obtain ⟨m, _, rfl⟩ := List.mem_map.mp this
    exact ⟨m, rfl⟩
  have hpn : ((order w a ep es).toList.map (fun e => match e.2 with | .int i _ => i | _ => 0)).Perm (ms.map (·.1)) := by
    have h1 := hp.map (fun e : Int × Value => match e.2 with | .int i _ => i | _ => 0)
    rw [em, List.map_map] at h1
    exact h1
  refine PyProof.Rows.list_sort_tree hoL hI (by rw [List.length_map, Array.length_toList, order_size]; omega) fun out ns' h2 h3 h4 => ⟨_, rfl, ?_⟩
  obtain ⟨e2, he2⟩ := sortedHeap_at (vs := (order w a ep es).toList.map (·.2)) (out := out) hoL
  refine hQ _ l out.toList ns' e2 hl (fun b o e => ?_) (by simpa using he2) h2 ((h3.trans hpn).nodup_iff.mpr nd) h4 fun k => by rw [(h3.trans hpn).mem_iff]; exact mm k
  obtain ⟨e1, ne⟩ := kp b o e
  show (sortedHeap h1 l _ out).get? b = some o
  rw [sortedHeap_old ne (Heap.lt_size e1)]
  exact e1
end
end RtS
end

section
set_option Elab.async false
set_option linter.all false
set_option maxRecDepth 100000
set_option maxHeartbeats 4000000
namespace RtS
open PySem PySem.SeqAt PySem.MeetsSeq
open PySem.AutoSeq1 (wpAny_loadPart')
/-! ### list.remove, the items' == at this heap -/
theorem remove_loopAt (l : Addr) (items : Array Value) (n : Nat) (x : Value) (e : Value → Bool) (j : Nat) (hj : j < items.size) (hit : e items[j] = true) (k : Nat) (hs1 : items.size ≤ sizeLine) :
    ∀ i : Nat, j - i = k → i ≤ j → (∀ m (hm : m < items.size), i ≤ m → m < j → e items[m] = false) → Meets (Builtin.«list.remove.loop» ⟨[.ref l, x, rawInt i], []⟩)
      (fun A R s => s.heap.get? l = some { cls := .type "list", dict := none, data := .seq items n, slots := #[] } ∧ (∀ y, y ∈ items → EqAt A.in1 s y x (e y)) ∧ R (.ok (.ret .none)) { s with heap := s.heap.update l (Obj.mapSeq fun xs => xs.eraseIdxIfInBounds j) }) := by
  induction k with
  | zero =>
    intro i hk hij hno prog w A R s h
    obtain ⟨hp, g, d, tk, os⟩ := s; obtain ⟨hl, he, h⟩ := h
    have hij' : i = j := by omega
    subst hij'
    wp_walk using wpAny_loadPart' hl
    have hi : items[((i : Nat) : Int).toNat]? = some items[i] := by simp [hj]
    rw [hi]
    refine wpAny_bind (he _ (Array.getElem_mem hj) prog w _ _ ?_)
    rw [hit]
    have hz' : (items.eraseIdxIfInBounds i).size ≤ sizeLine + 1 := Nat.le_trans (size_erased items _) (Nat.le_succ_of_le hs1)
    wp_walk using (wpAny_updateSeq hl rfl (hz := hs1) (_hz' := hz')), wpAny_loadPart' hl
    simpa using h
  | succ k ih =>
    intro i hk hij hno prog w A R s h
    obtain ⟨hp, g, d, tk, os⟩ := s; obtain ⟨hl, he, h⟩ := h
    have hlt : i < items.size := by omega
    wp_walk using wpAny_loadPart' hl
    have hi : items[((i : Nat) : Int).toNat]? = some items[i] := by simp [hlt]
    have hc : ((i : Int) + 1) = ((i + 1 : Nat) : Int) := by push_cast; rfl
    rw [hi]
    refine wpAny_bind (he _ (Array.getElem_mem hlt) prog w _ _ ?_)
    rw [hno i hlt (Nat.le_refl _) (by omega)]
    wp_walk
    rw [hc]
    exact ⟨plainId_quiet plain_remove_loop _, codeAny_builtin entry_remove_loop (by
      rw [Around.under_plainId plain_remove_loop _]
      exact ih (i + 1) (by omega) (by omega) (fun m hm h1 h2 => hno m hm (by omega) h2) prog w A R _ ⟨hl, he, h⟩)⟩
theorem list_removeAt (l : Addr) (items : Array Value) (n : Nat) (x : Value) (e : Value → Bool) (j : Nat) (hj : j < items.size)
    (hit : e items[j] = true) (hno : ∀ m (hm : m < items.size), m < j → e items[m] = false) (hs1 : items.size ≤ sizeLine) :
    Meets (Builtin.«list.remove» ⟨[.ref l, x], []⟩)
      (fun A R s => s.heap.get? l = some { cls := .type "list", dict := none, data := .seq items n, slots := #[] } ∧ (∀ y, y ∈ items → EqAt A.in1 s y x (e y)) ∧ R (.ok (.ret .none)) { s with heap := s.heap.update l (Obj.mapSeq fun xs => xs.eraseIdxIfInBounds j) }) := by
  intro prog w A R s h
  obtain ⟨hp, g, d, tk, os⟩ := s; obtain ⟨hl, he, h⟩ := h
  wp_walk using wpAny_loadPart' hl
  exact ⟨plainId_quiet plain_remove_loop _, codeAny_builtin entry_remove_loop (by
    rw [Around.under_plainId plain_remove_loop _]
    exact remove_loopAt l items n x e j hj hit _ hs1 0 rfl (Nat.zero_le _) (fun m hm _ h2 => hno m hm h2) prog w A R _ ⟨hl, he, h⟩)⟩
end RtS
end

section
set_option Elab.async false
set_option linter.all false
set_option maxRecDepth 100000
set_option maxHeartbeats 2000000
namespace L2
open PySem PySem.Spec PyProof.Rows

/-! ### defs by name -/
/-- a def of the text, by its name -/
def D1 (K : PySem.W.Frag) (mg : Str → Option Value) (x : Str) (st : Stmt) (ps : List Str) : Prop :=
  ∃ (f : Addr) (fd : FuncData), Fun K x x st f fd ∧ Binds K fd ps [] ∧ mg x = some (.ref f)
/-- a def that keeps its promise, by its name -/
def Has (P : Program) (w : World) (K : PySem.W.Frag) (mg : Str → Option Value) (base : Heap) (k : Nat) (x : Str) (ps : List Str) (sp : Sp) : Prop :=
  ∃ (f : Addr) (fd : FuncData), FnOk P w K mg base CX0 k f fd ps sp ∧ mg x = some (.ref f) ∧ PySem.W.keepIn K (.ref f) = true ∧ Binds K fd ps []
theorem D1.has {P : Program} {w : World} {K : PySem.W.Frag} {mg : Str → Option Value} {base : Heap} {k : Nat} {x : Str} {st : Stmt} {ps : List Str} {sp : Sp} (D : D1 K mg x st ps)
    (h : ∀ (f : Addr) (fd : FuncData), Fun K x x st f fd → FnOk P w K mg base CX0 k f fd ps sp) : Has P w K mg base k x ps sp := by
  obtain ⟨f, fd, F, b, m⟩ := D
  exact ⟨f, fd, h f fd F, m, F.kp, b⟩
section
variable {X : Cx}
theorem pe_callH {k : Nat} {x : Str} {ps : List Str} {sp : Sp} {e : Expr} {es : List Expr} {t : TA} {p pos : Pos} (h : Has X.prog X.w X.K X.mg X.base k x ps sp) (hr : Room k X.A) (hg : Gl X x) (ha : PA X (e :: es) t)
    (hdb : (x == ("__debug__" : Str)) = false := by decide) (he : starEach (e :: es) X.env = (false, eval e X.env) :: starEach es X.env := by rfl) (hpl : (backTo pos (starEach es X.env)).any (·.1) = false := by rfl) :
    PE X (.Call (.Name x p) (e :: es) [] pos) (tCall sp [] E0 t) := by
  obtain ⟨f, fd, F, m, kp, b⟩ := h
  exact pe_call F hr hg m kp b .nil (fun _ _ _ _ _ _ _ h => h.elim) ha hdb he hpl
/-- a number of the module -/
def GI (mg : Str → Option Value) (x : Str) (i : Int) : Prop := ∃ t, mg x = some (Value.int i t)
theorem pgi {x : Str} {i : Int} {pos : Pos} (h : GI X.mg x i) (hg : Gl X x) (hd : (x == ("__debug__" : Str)) = false := by decide) : PE X (.Name x pos) (tC (.int i)) := by
  obtain ⟨t, e⟩ := h
  exact pe_glob hg e ⟨t, rfl⟩ hd
theorem PI.or {tg l : Expr} {w1 w2 : TI} (h1 : PI X tg l w1) (h2 : PI X tg l w2) : PI X tg l (fun σ H R => w1 σ H R ∨ w2 σ H R) := by
  intro pins s σ H R I h
  rcases h with h | h
  · exact h1 pins s σ H R I h
  · exact h2 pins s σ H R I h
end
/-! ### within a block: the written part by name -/
section
variable {X : Cx}
theorem pe_fldK (K : PySem.W.Frag) {e : Expr} {f : Str} {pos : Pos} {ta : TE} (he : PE X e ta) (hb : attributeBase e f X.env (eval e X.env) = eval e X.env := by rfl) (hK : X.K = K := by rfl) : PE X (.Attribute e f pos) (tFld K ta f) := by
  subst hK
  exact pe_fld he hb
theorem pe_ixL (K : PySem.W.Frag) {a b : Expr} {pos : Pos} {ta tb : TE} (ha : PE X a ta) (hb : PE X b tb) (hs : PlainIx b := by exact fun _ _ => rfl) (hK : X.K = K := by rfl) : PE X (.Subscript a b pos) (tOp (rIxL K) ta tb) := by
  subst hK
  exact pe_ix ix_list ha hb hs
theorem pe_ixT (K : PySem.W.Frag) {a b : Expr} {pos : Pos} {ta tb : TE} (ha : PE X a ta) (hb : PE X b tb) (hs : PlainIx b := by exact fun _ _ => rfl) (hK : X.K = K := by rfl) : PE X (.Subscript a b pos) (tOp (rIxT K) ta tb) := by
  subst hK
  exact pe_ix ix_tup ha hb hs
end
/-! ### heaps -/
theorem Same.new {H : Hp} {p : Addr} {o : HO} (h : H p = none) : Same H (upd H p o) := fun b u e => by
  rw [upd_ne (ne_of_none e h)]; exact e
theorem Same.seqT {K : PySem.W.Frag} {H H' : Hp} {a : Addr} {xs : List V} (e : Same H H') (h : SqT K H a xs) : SqT K H' a xs := by
  rcases h with (h | ⟨o, h⟩) | h
  · exact .inl (.inl (e _ _ h))
  · exact .inl (.inr ⟨o, e _ _ h⟩)
  · exact .inr h
/-- a value comes, what was tracked stays -/
def Ret (H : Hp) (Q : VK) (v : V) : Prop := ∀ H', Same H H' → Q v H'
/-- a new list comes -/
def RetL (H : Hp) (Q : VK) (vs : List V) : Prop := ∀ H' p, Same H H' → H p = none → H' p = some (.lst vs) → Q (.ref p) H'
theorem wipe1 {σ : St} {i : Nat} {x : V} : wipe ((wipe σ [i]).set i (some x)) [i] = wipe σ [i] := by
  show ((σ.set i none).set i (some x)).set i none = σ.set i none
  rw [List.set_set, List.set_set]
/-- what the turn's test and item do, the heap growing -/
theorem lc_filter {α : Type} {K : PySem.W.Frag} {a : Addr} (L : List α) (g : α → V) {i : Nat} {tt : TT} {te : TE} {σ : St} {H1 : Hp} {D : Addr} {Qd : Hp → Prop} (p : α → Bool) (f : α → V) (hD : H1 D = none) (hx : SqL K H1 a (L.map g)) (hz : L.length ≤ sizeLine)
    (ht : ∀ x ∈ L, ∀ H, Same H1 H → ∀ Qt : Bool → Hp → Prop, (∀ H', Same H H' → Qt (p x) H') → tt ((wipe σ [i]).set i (some (g x))) H Qt)
    (he : ∀ x ∈ L, p x = true → ∀ H, Same H1 H → ∀ Qe : VK, (∀ H', Same H H' → Qe (f x) H') → te ((wipe σ [i]).set i (some (g x))) H Qe)
    (hQ : ∀ H', Same H1 H' → H' D = some (.lst ((L.filter p).map f)) → Qd H') :
    ∃ W : Nat → Nat → Hp → Prop, (∃ m, W 0 m (upd H1 D (.lst []))) ∧ ∀ j m H, W j m H →
      ((Itl K a).stop j H ∧ Qd H) ∨ ((Itl K a).go j H ∧ ∃ Nx : Hp → Prop, (∀ H', Nx H' → ∃ m', m' < m ∧ W (j + 1) m' H') ∧ ∀ x H', (Itl K a).yld j H x H' → gName i x (wipe σ [i]) H' fun σ2 H2 => wipe σ2 [i] = wipe σ [i] ∧ tt σ2 H2 fun b H3 =>
        if b = true then te σ2 H3 fun y H4 => ∃ acc, H4 D = some (.lst acc) ∧ acc.length < sizeLine ∧ Nx (upd H4 D (.lst (acc ++ [y]))) else Nx H3) := by
  refine lc_list (K := K) (a := a) (xs := L.map g) (g := gName i) (fun j H => Same H1 H ∧ H D = some (.lst (((L.take j).filter p).map f))) ⟨Same.new hD, by rw [upd_same]; rfl⟩ (fun j H _ q => q.1.seq hx) ?_ ?_
  · rintro j x H hj ⟨s1, q⟩
    rw [List.getElem?_map] at hj
    obtain ⟨y, hy, rfl⟩ := Option.map_eq_some_iff.mp hj
    have hm : y ∈ L := List.mem_of_getElem? hy
    have hl : j < L.length := (List.getElem?_eq_some_iff.mp hy).1
    have tk : L.take (j + 1) = L.take j ++ [y] := by rw [List.take_succ, hy]; rfl
    refine ⟨wipe1, ht y hm H s1 _ fun H2 s2 => ?_⟩
    cases hp : p y with
    | false =>
      rw [if_neg Bool.false_ne_true]
      refine ⟨s1.trans s2, ?_⟩
      rw [s2 _ _ q, tk, List.filter_append, List.filter_cons, hp]
      simp
    | true =>
      rw [if_pos rfl]
      refine he y hm hp H2 (s1.trans s2) _ fun H3 s3 => ⟨_, s3 _ _ (s2 _ _ q), ?_, ?_, ?_⟩
      · rw [List.length_map]
        refine Nat.lt_of_le_of_lt (List.length_filter_le ..) ?_
        rw [List.length_take]; omega
      · intro b o e
        rw [upd_ne (ne_of_none e hD)]
        exact s3 _ _ (s2 _ _ (s1 _ _ e))
      · rw [upd_same, tk, List.filter_append, List.filter_cons, hp, List.map_append]
        simp
  · rintro H ⟨s1, q⟩
    rw [List.length_map, List.take_length] at q
    exact hQ H s1 q
/-- what the turn's test and item do, the heap growing -/
theorem lc_filterT {α : Type} {K : PySem.W.Frag} {a : Addr} (L : List α) (g : α → V) {i : Nat} {tt : TT} {te : TE} {σ : St} {H1 : Hp} {D : Addr} {Qd : Hp → Prop} (p : α → Bool) (f : α → V) (hD : H1 D = none) (hx : SqT K H1 a (L.map g)) (hz : L.length ≤ sizeLine)
    (ht : ∀ x ∈ L, ∀ H, Same H1 H → ∀ Qt : Bool → Hp → Prop, (∀ H', Same H H' → Qt (p x) H') → tt ((wipe σ [i]).set i (some (g x))) H Qt)
    (he : ∀ x ∈ L, p x = true → ∀ H, Same H1 H → ∀ Qe : VK, (∀ H', Same H H' → Qe (f x) H') → te ((wipe σ [i]).set i (some (g x))) H Qe)
    (hQ : ∀ H', Same H1 H' → H' D = some (.lst ((L.filter p).map f)) → Qd H') :
    ∃ W : Nat → Nat → Hp → Prop, (∃ m, W 0 m (upd H1 D (.lst []))) ∧ ∀ j m H, W j m H →
      ((Itt K a).stop j H ∧ Qd H) ∨ ((Itt K a).go j H ∧ ∃ Nx : Hp → Prop, (∀ H', Nx H' → ∃ m', m' < m ∧ W (j + 1) m' H') ∧ ∀ x H', (Itt K a).yld j H x H' → gName i x (wipe σ [i]) H' fun σ2 H2 => wipe σ2 [i] = wipe σ [i] ∧ tt σ2 H2 fun b H3 =>
        if b = true then te σ2 H3 fun y H4 => ∃ acc, H4 D = some (.lst acc) ∧ acc.length < sizeLine ∧ Nx (upd H4 D (.lst (acc ++ [y]))) else Nx H3) := by
  refine lc_tup (K := K) (a := a) (xs := L.map g) (g := gName i) (fun j H => Same H1 H ∧ H D = some (.lst (((L.take j).filter p).map f))) ⟨Same.new hD, by rw [upd_same]; rfl⟩ (fun j H _ q => q.1.seqT hx) ?_ ?_
  · rintro j x H hj ⟨s1, q⟩
    rw [List.getElem?_map] at hj
    obtain ⟨y, hy, rfl⟩ := Option.map_eq_some_iff.mp hj
    have hm : y ∈ L := List.mem_of_getElem? hy
    have hl : j < L.length := (List.getElem?_eq_some_iff.mp hy).1
    have tk : L.take (j + 1) = L.take j ++ [y] := by rw [List.take_succ, hy]; rfl
    refine ⟨wipe1, ht y hm H s1 _ fun H2 s2 => ?_⟩
    cases hp : p y with
    | false =>
      rw [if_neg Bool.false_ne_true]
      refine ⟨s1.trans s2, ?_⟩
      rw [s2 _ _ q, tk, List.filter_append, List.filter_cons, hp]
      simp
    | true =>
      rw [if_pos rfl]
      refine he y hm hp H2 (s1.trans s2) _ fun H3 s3 => ⟨_, s3 _ _ (s2 _ _ q), ?_, ?_, ?_⟩
      · rw [List.length_map]
        refine Nat.lt_of_le_of_lt (List.length_filter_le ..) ?_
        rw [List.length_take]; omega
      · intro b o e
        rw [upd_ne (ne_of_none e hD)]
        exact s3 _ _ (s2 _ _ (s1 _ _ e))
      · rw [upd_same, tk, List.filter_append, List.filter_cons, hp, List.map_append]
        simp
  · rintro H ⟨s1, q⟩
    rw [List.length_map, List.take_length] at q
    exact hQ H s1 q
end L2
end

section
set_option Elab.async false
set_option linter.all false
set_option maxRecDepth 100000
set_option maxHeartbeats 2000000
namespace L2
open PySem PySem.Spec PyProof.Rows

/-! ### tuples of ints -/
def MkAt (H : Hp) (p : Addr) (k : List Int) : Prop := H p = some (.tup (k.map V.int))
abbrev Mks (H : Hp) : List Addr → List (List Int) → Prop := Paired (MkAt H)
theorem mapint_inj : ∀ {a b : List Int}, a.map V.int = b.map V.int → a = b
  | [], [], _ => rfl
  | [], _ :: _, h => by cases h
  | _ :: _, [], h => by cases h
  | x :: a, y :: b, h => by
    rw [List.map_cons, List.map_cons] at h
    injection h with h1 h2
    injection h1 with h1
    rw [h1, mapint_inj h2]
theorem MkAt.inj {H : Hp} {p : Addr} {k m : List Int} (a : MkAt H p k) (b : MkAt H p m) : k = m := by
  have := Option.some.inj (a.symm.trans b)
  injection this with this
  exact mapint_inj this
theorem MkAt.same {H H' : Hp} {p : Addr} {k : List Int} (a : MkAt H p k) (s : Same H H') : MkAt H' p k := s _ _ a
theorem Mks.same {H H' : Hp} : ∀ {ps : List Addr} {ks : List (List Int)}, Mks H ps ks → Same H H' → Mks H' ps ks
  | _, _, .nil, _ => .nil
  | _, _, .cons a r, s => .cons (a.same s) (Mks.same r s)
theorem Mks.get {H : Hp} : ∀ {ps : List Addr} {ks : List (List Int)} {i : Nat} {p : Addr}, Mks H ps ks → ps[i]? = some p → ∃ k, ks[i]? = some k ∧ MkAt H p k
  | _, _, _, _, .nil, e => by simp at e
  | _, _, 0, _, .cons a r, e => by simp at e; subst e; exact ⟨_, rfl, a⟩
  | _, _, i + 1, _, .cons a r, e => by
    obtain ⟨k, h1, h2⟩ := Mks.get (i := i) r (by simpa using e)
    exact ⟨k, by simpa using h1, h2⟩
theorem Mks.length {H : Hp} {ps : List Addr} {ks : List (List Int)} (h : Mks H ps ks) : ps.length = ks.length := Paired.length h
theorem Mks.append {H : Hp} : ∀ {ps qs : List Addr} {ks ms : List (List Int)}, Mks H ps ks → Mks H qs ms → Mks H (ps ++ qs) (ks ++ ms)
  | _, _, _, _, .nil, s => s
  | _, _, _, _, .cons a r, s => .cons a (Mks.append r s)
theorem Mks.mem {H : Hp} {ps : List Addr} {ks : List (List Int)} (h : Mks H ps ks) {p : Addr} (hp : p ∈ ps) : ∃ k ∈ ks, MkAt H p k := by
  obtain ⟨i, hi, e⟩ := List.mem_iff_getElem.mp hp
  obtain ⟨k, h1, h2⟩ := h.get (i := i) (p := p) (by rw [List.getElem?_eq_getElem hi, e])
  exact ⟨k, List.mem_of_getElem? h1, h2⟩
theorem Mks.key {H : Hp} : ∀ {ps : List Addr} {ks : List (List Int)} (key : Addr → List Int), Mks H ps ks → (∀ p ∈ ps, MkAt H p (key p)) → ks = ps.map key
  | _, _, key, .nil, _ => rfl
  | _, _, key, .cons a r, h => by
    rw [List.map_cons, (h _ (List.mem_cons_self ..)).inj a, Mks.key key r fun p hp => h p (List.mem_cons_of_mem _ hp)]
theorem Mks.of {H : Hp} {key : Addr → List Int} : ∀ {ps : List Addr}, (∀ p ∈ ps, MkAt H p (key p)) → Mks H ps (ps.map key)
  | [], _ => .nil
  | p :: r, h => .cons (h p (List.mem_cons_self ..)) (Mks.of fun q hq => h q (List.mem_cons_of_mem _ hq))
theorem items_of {prog : Program} {w : World} : ∀ {k : List Int} {its : List Value}, Vals (k.map V.int) its → ItemsAre (intKind prog w) k its
  | [], _, h => by cases h; exact .nil
  | i :: k, _, h => by
    rw [List.map_cons] at h
    cases h with
    | cons r t =>
      obtain ⟨tk, rfl⟩ := r
      exact .cons (RtS.intIs i tk) (items_of t)
theorem vals_refs : ∀ {ps : List Addr} {its : List Value}, Vals (ps.map V.ref) its → its = ps.map Value.ref
  | [], _, h => by cases h; rfl
  | p :: ps, _, h => by
    rw [List.map_cons] at h
    cases h with
    | cons r t =>
      cases r
      rw [vals_refs t, List.map_cons]
theorem refs_vals : ∀ (ps : List Addr), Vals (ps.map V.ref) (ps.map Value.ref)
  | [] => .nil
  | p :: ps => .cons rfl (refs_vals ps)
section
variable {X : Cx} {pins : List (Addr × Obj)} {σ : St} {H : Hp} {s : Shared}
theorem Inv.tupKey (I : Inv X pins σ H s) {p : Addr} {k : List Int} (h : MkAt H p k) (prog : Program) (w : World) : IsTupleKey (intKind prog w) s.heap k p := by
  obtain ⟨z, its, rv, o, ho, hc, n, hd⟩ := I.hok p _ h
  exact ⟨o, its.toArray, n, ho, hc, hd, by simpa using items_of rv⟩
theorem Inv.tupEq (I : Inv X pins σ H s) (hu : X.A.units + 1 < cLine) {p q : Addr} {k m : List Int} (hp : MkAt H p k) (hq : MkAt H q m) : SeqAt.EqAt X.A.in1 s (.ref q) (.ref p) (decide (m = k)) := fun prog w E Q h =>
  wpAny_eqBool_tuple (A := X.A.in1) hu (I.tupKey hq prog w) (I.tupKey hp prog w) h
end
open Classical in
noncomputable def isM (H : Hp) (k : List Int) (u : Value) : Bool := decide (∃ q, u = Value.ref q ∧ MkAt H q k)
theorem isM_ref {H : Hp} {k m : List Int} {q : Addr} (h : MkAt H q m) : isM H k (.ref q) = decide (m = k) := by
  unfold isM
  haveI : Decidable (∃ q', Value.ref q = Value.ref q' ∧ MkAt H q' k) := Classical.propDecidable _
  by_cases e : m = k
  · subst e
    rw [decide_eq_true rfl]
    exact @decide_eq_true _ (Classical.propDecidable _) ⟨q, rfl, h⟩
  · rw [decide_eq_false e]
    refine @decide_eq_false _ (Classical.propDecidable _) ?_
    rintro ⟨q', e2, h'⟩
    cases e2
    exact e (h.inj h')
theorem any_isM {H : Hp} {k : List Int} : ∀ {ps : List Addr} {ks : List (List Int)}, Mks H ps ks → (ps.map Value.ref).any (isM H k) = ks.contains k
  | _, _, .nil => rfl
  | _, _, .cons (a := p) (b := m) a r => by
    rw [List.map_cons, List.any_cons, isM_ref a, any_isM r, List.contains_cons]
    congr 1
    by_cases e : m = k
    · subst e; simp
    · rw [decide_eq_false e]
      symm
      simpa using fun q => e q.symm
section
variable {X : Cx}
/-- a tuple in, not in a list of tuples -/
def rInM (K : PySem.W.Frag) (neg : Bool) : R2 := fun x y H Q => ∃ p l k ps ks, x = .ref p ∧ y = .ref l ∧ MkAt H p k ∧ SqL K H l (ps.map V.ref) ∧ Mks H ps ks ∧ Q (.bl (if neg then !(ks.contains k) else ks.contains k)) H
theorem op_inM (hu : X.A.units + 1 < cLine) : OpR X (compareOp .In) (rInM X.K false) := by
  intro pins s σ H x y v u Q I rx ry h
  obtain ⟨p, l, k, ps, ks, rfl, rfl, hp, hl, hm, q⟩ := h
  cases rx
  cases ry
  obtain ⟨its, r, pl, hz⟩ := I.list hl
  obtain rfl := vals_refs r
  refine SeqAt.in_listAt (isM H k) pl.isList (fun w hw => ?_) ⟨.bl _, H, I, rfl, ?_⟩
  · have hw : w ∈ ps.map Value.ref := by simpa using hw
    obtain ⟨q', hq', rfl⟩ := List.mem_map.mp hw
    obtain ⟨m, _, hm'⟩ := hm.mem hq'
    rw [isM_ref hm']
    exact I.tupEq hu hp hm'
  · rw [show (ps.map Value.ref).toArray.any (isM H k) = (ps.map Value.ref).any (isM H k) by simp, any_isM hm]
    exact q
theorem op_notInM (hu : X.A.units + 1 < cLine) : OpR X (compareOp .NotIn) (rInM X.K true) := by
  intro pins s σ H x y v u Q I rx ry h
  obtain ⟨p, l, k, ps, ks, rfl, rfl, hp, hl, hm, q⟩ := h
  cases rx
  cases ry
  obtain ⟨its, r, pl, hz⟩ := I.list hl
  obtain rfl := vals_refs r
  refine SeqAt.notIn_listAt (isM H k) pl.isList (fun w hw => ?_) ⟨.bl _, H, I, rfl, ?_⟩
  · have hw : w ∈ ps.map Value.ref := by simpa using hw
    obtain ⟨q', hq', rfl⟩ := List.mem_map.mp hw
    obtain ⟨m, _, hm'⟩ := hm.mem hq'
    rw [isM_ref hm']
    exact I.tupEq hu hp hm'
  · rw [show (ps.map Value.ref).toArray.any (isM H k) = (ps.map Value.ref).any (isM H k) by simp, any_isM hm]
    exact q
/-- l.remove(a tuple that is there, first at j) -/
def rRemM : V → List V → Hp → VK → Prop := fun x vs H Q => ∃ l p k ps ks j, x = .ref l ∧ vs = [.ref p] ∧ H l = some (.lst (ps.map V.ref)) ∧ MkAt H p k ∧ Mks H ps ks ∧ ks[j]? = some k ∧ (∀ m, m < j → ks[m]? ≠ some k) ∧ Q .non (upd H l (.lst ((ps.eraseIdx j).map V.ref)))
theorem mt_removeM (hu : X.A.units + 1 < cLine) : MtM X "list.remove" rRemM := by
  intro pins s σ H x vs v us Q I rx rv h
  obtain ⟨l, p, k, ps, ks, j, rfl, rfl, hH, hp, hm, hj, hno, q⟩ := h
  cases rx
  obtain ⟨u, rfl, ru⟩ := rv.one
  cases ru
  obtain ⟨z, its, n, r, hl, e⟩ := I.lstM hH
  obtain rfl := vals_refs r
  have hjl : j < ps.length := by
    have := (List.getElem?_eq_some_iff.mp hj).1
    rw [hm.length]; exact this
  have at_ : ∀ (m : Nat) (hm' : m < (ps.map Value.ref).toArray.size), ∃ k', ks[m]? = some k' ∧ isM H k ((ps.map Value.ref).toArray[m]) = decide (k' = k) := fun m hm' => by
    have hlt : m < ps.length := by simpa using hm'
    obtain ⟨k', e1, e2⟩ := hm.get (i := m) (p := ps[m]) (List.getElem?_eq_getElem hlt)
    refine ⟨k', e1, ?_⟩
    rw [show (ps.map Value.ref).toArray[m] = Value.ref ps[m] by simp]
    exact isM_ref e2
  refine call_meets F.slot_list_remove ⟨_, e, rfl⟩ F.entry_list_remove (F.args_list_remove_2 _ _) (RtS.list_removeAt l (ps.map Value.ref).toArray n (.ref p) (isM H k) j (by simpa using hjl) ?_ ?_ (by simpa using z)) ⟨e, fun w hw => ?_, ?_⟩
  · obtain ⟨k', e1, e2⟩ := at_ j (by simpa using hjl)
    rw [e2, hj] at *
    cases e1
    exact decide_eq_true rfl
  · intro m hm' hlt
    obtain ⟨k', e1, e2⟩ := at_ m hm'
    rw [e2]
    exact decide_eq_false fun q => hno m hlt (by rw [e1, q])
  · have hw : w ∈ ps.map Value.ref := by simpa using hw
    obtain ⟨q', hq', rfl⟩ := List.mem_map.mp hw
    obtain ⟨m, _, hm'⟩ := hm.mem hq'
    rw [isM_ref hm']
    exact I.tupEq hu hp hm'
  · refine ⟨.non, _, I.lset (its' := (ps.map Value.ref).eraseIdx j) hH e ?_ ?_ ?_, rfl, q⟩
    · rw [Array.eraseIdxIfInBounds]
      rw [dif_pos (by simpa using hjl)]
      simp
    · have hem : ∀ {α β : Type} (g : α → β) (l : List α) (j : Nat), (l.map g).eraseIdx j = (l.eraseIdx j).map g := fun g l => by
        induction l with
        | nil => intro j; rfl
        | cons x l ih =>
          intro j
          cases j with
          | zero => rfl
          | succ j => show g x :: (l.map g).eraseIdx j = g x :: (l.eraseIdx j).map g; rw [ih j]
      rw [hem]
      exact refs_vals _
    · rw [List.length_map]
      refine Nat.le_trans (len_erase ..) ?_
      simpa using z
end
end L2
end

section
set_option Elab.async false
set_option linter.all false
set_option maxRecDepth 100000
set_option maxHeartbeats 2000000
namespace L2
open PySem PySem.Spec PyProof.Rows

/-! ### set(a list of tuples), sorted(a set) -/
def SetO (w : World) (S : Addr) (ps : List Addr) : HO := .ext fun h => ∃ es : Array (Int × Value), RtS.SetAt w h S es ∧ es.toList.map (·.2) = ps.map Value.ref ∧ es.size ≤ 300
def rSetM (w : World) (K : PySem.W.Frag) : List V → Hp → VK → Prop := fun vs H Q => ∃ l ps ks, vs = [.ref l] ∧ SqL K H l (ps.map V.ref) ∧ Mks H ps ks ∧ ps.length ≤ 300 ∧
  ∀ S ps' ks', H S = none → Mks H ps' ks' → (∀ k, k ∈ ks' ↔ k ∈ ks) → ps'.length ≤ 300 → Q (.ref S) (upd H S (SetO w S ps'))
theorem refs_of : ∀ {L : List Value} {C : Addr → Prop}, (∀ v ∈ L, ∃ c, v = .ref c ∧ C c) → ∃ ps : List Addr, L = ps.map Value.ref ∧ ∀ p ∈ ps, C p
  | [], _, _ => ⟨[], rfl, fun p hp => by cases hp⟩
  | v :: L, C, h => by
    obtain ⟨c, rfl, hc⟩ := h v (List.mem_cons_self ..)
    obtain ⟨ps, rfl, hp⟩ := refs_of (L := L) fun u hu => h u (List.mem_cons_of_mem _ hu)
    refine ⟨c :: ps, rfl, fun p hpm => ?_⟩
    rcases List.mem_cons.mp hpm with e | m
    · rw [e]; exact hc
    · exact hp p m
noncomputable def keyAt (H : Hp) (p : Addr) : List Int := Classical.epsilon fun k => MkAt H p k
theorem keyAt_at {H : Hp} {p : Addr} {k : List Int} (h : MkAt H p k) : MkAt H p (keyAt H p) := Classical.epsilon_spec (p := fun k => MkAt H p k) ⟨k, h⟩
section
variable {X : Cx}
theorem cr_setM (hc : X.calm = true) (hu : X.A.units + 64 < cLine) : CallR X (.type "set") (rSetM X.w X.K) := by
  intro pins s σ H vs us Q I r h
  obtain ⟨l, ps, ks, rfl, hl, hm, hn, q⟩ := h
  obtain ⟨its, rv, pl, hz⟩ := I.list hl
  obtain rfl := vals_refs rv
  rw [Vals.ref1 r]
  have hkey : ∀ p ∈ ps, MkAt H p (keyAt H p) := fun p hp => by
    obtain ⟨k, _, h⟩ := hm.mem hp
    exact keyAt_at h
  have hks := hm.key (keyAt H) hkey
  refine RtS.set_tuples (cs := ps) (key := keyAt H) (items := (ps.map Value.ref).toArray) (I.ok.hd hc) (show X.A.units + 3 < cLine by omega) pl.isList (by simp) (fun c hc => I.tupKey (hkey c hc) _ _) hn fun h' tk TI kp => ?_
  obtain ⟨⟨es, hS, z, m1, m2⟩, _⟩ := TI
  obtain ⟨ps', e1, e2⟩ := refs_of (L := es.toList.map (·.2)) (C := fun c => c ∈ ps) fun v hv => by
    obtain ⟨e, he, rfl⟩ := List.mem_map.mp hv
    obtain ⟨c, hc, rfl⟩ := m1 e he
    exact ⟨c, rfl, hc⟩
  have hS' := hS
  obtain ⟨o, ep, t, ho, _⟩ := hS'
  refine ⟨.ref _, upd H s.heap.objs.size (SetO X.w s.heap.objs.size ps'), I.laid (t' := tk) (fun b u e => kp b u (Heap.lt_size e) e) (Nat.le_refl _) ⟨⟨es, hS, e1, by omega⟩, ⟨o, ho⟩, fun h1 h2 p k => ?_⟩, rfl, q _ ps' (ps'.map (keyAt H)) I.fresh (Mks.of fun p hp => hkey p (e2 p hp)) (fun k => ?_) ?_⟩
  · obtain ⟨es, x, r⟩ := p
    exact ⟨es, x.at k, r⟩
  · rw [hks]
    constructor
    · intro h
      obtain ⟨p, hp, rfl⟩ := List.mem_map.mp h
      exact List.mem_map.mpr ⟨p, e2 p hp, rfl⟩
    · intro h
      obtain ⟨p, hp, rfl⟩ := List.mem_map.mp h
      obtain ⟨j, hj, ej⟩ := List.mem_iff_getElem.mp hp
      obtain ⟨c', hc', ek, hin⟩ := m2 j p hj (by rw [List.getElem?_eq_getElem hj, ej])
      have : Value.ref c' ∈ ps'.map Value.ref := by
        rw [← e1]
        exact List.mem_map.mpr ⟨_, hin, rfl⟩
      obtain ⟨c2, hc2, e⟩ := List.mem_map.mp this
      cases e
      exact List.mem_map.mpr ⟨c', hc2, ek⟩
  · have := congrArg List.length e1
    rw [List.length_map, List.length_map, Array.length_toList] at this
    omega
/-- the order of tuples -/
def lexLe (x y : List Int) : Prop := PyProof.Rows.lexLt PyProof.Rows.itemOrd (y.map Sum.inl) (x.map Sum.inl) = false
def rSortM (w : World) : List V → Hp → VK → Prop := fun vs H Q => ∃ S ps ks, vs = [.ref S] ∧ H S = some (SetO w S ps) ∧ Mks H ps ks ∧ (∀ k ∈ ks, k ≠ []) ∧
  ∀ l ps' ks', H l = none → Mks H ps' ks' → ks'.Perm ks → ks'.Pairwise lexLe → Q (.ref l) (upd H l (.lst (ps'.map V.ref)))
abbrev sh0 : Nat → Bool := fun _ => false
theorem items0 {prog : Program} {w : World} : ∀ {k : List Int} {vs : List Value} (i : Nat), ItemsAre (intKind prog w) k vs → tupItems sh0 i vs = some (k.map Sum.inl)
  | _, _, _, .nil => rfl
  | _, _, i, .cons h1 r => by
    obtain ⟨t, rfl⟩ := Value.isInt_shape h1
    simp [tupItems, items0 (i + 1) r]
theorem key0 {prog : Program} {w : World} {h : Heap} {k : List Int} {c : Addr} (x : IsTupleKey (intKind prog w) h k c) : PyProof.Rows.G.tupKeyC h sh0 (.ref c) = some (k.map Sum.inl) := by
  obtain ⟨o, items, n, ho, hc, hd, hi⟩ := x
  unfold PyProof.Rows.G.tupKeyC
  have h1 : PyProof.Rows.G.isTupObj h (.ref c) = true := by simp [PyProof.Rows.G.isTupObj, ho, hc]
  rw [if_pos h1]
  simp only [tupKey, ho, hd]
  exact items0 0 hi
theorem tups0 {prog : Program} {w : World} {h : Heap} {key : Addr → List Int} : ∀ {ps : List Addr}, (∀ p ∈ ps, IsTupleKey (intKind prog w) h (key p) p ∧ key p ≠ []) → ∃ fs, TupsOf h sh0 (ps.map Value.ref) fs
  | [], _ => ⟨[], .nil⟩
  | p :: ps, hp => by
    obtain ⟨fs, r⟩ := tups0 (ps := ps) fun q hq => hp q (List.mem_cons_of_mem _ hq)
    obtain ⟨⟨o, items, n, ho, hc, hd, hi⟩, ne⟩ := hp p (List.mem_cons_self ..)
    generalize hkp : key p = kp at hi ne
    obtain ⟨xs⟩ := items
    cases hi with
    | nil => exact absurd rfl ne
    | @cons k v ks vs h1 h2 =>
      obtain ⟨t, rfl⟩ := Value.isInt_shape h1
      exact ⟨_ :: fs, .cons ⟨p, o, _, n, rfl, ho, hc, hd, rfl, fun _ => ⟨k, t, rfl⟩, fun q => by cases q⟩ r⟩
theorem unref_perm {L : List Value} {ps : List Addr} (h : L.Perm (ps.map Value.ref)) : ∃ ps' : List Addr, L = ps'.map Value.ref ∧ ps'.Perm ps := by
  obtain ⟨ps', e, _⟩ := refs_of (L := L) (C := fun _ => True) fun v hv => by
    obtain ⟨p, _, rfl⟩ := List.mem_map.mp (h.mem_iff.mp hv)
    exact ⟨p, rfl, trivial⟩
  refine ⟨ps', e, ?_⟩
  subst e
  have h2 := h.map (fun v => match v with | Value.ref a => a | _ => 0)
  rw [List.map_map, List.map_map] at h2
  have : ∀ l : List Addr, l.map ((fun v => match v with | Value.ref a => a | _ => 0) ∘ Value.ref) = l := fun l => by
    rw [show ((fun v => match v with | Value.ref a => a | _ => 0) ∘ Value.ref) = (id : Addr → Addr) from rfl, List.map_id]
  rw [this, this] at h2
  exact h2
theorem cr_sortM (hc : X.calm = true) : CallR X (.builtin "sorted") (rSortM X.w) := by
  intro pins s σ H vs us Q I r h
  obtain ⟨S, ps, ks, rfl, hS, hm, hne, q⟩ := h
  rw [Vals.ref1 r]
  obtain ⟨⟨es, hSA, ees, hz⟩, _⟩ := I.hok S _ hS
  obtain ⟨ep, t, hSI⟩ := hSA.is
  have hkey : ∀ p ∈ ps, MkAt H p (keyAt H p) := fun p hp => by
    obtain ⟨k, _, h⟩ := hm.mem hp
    exact keyAt_at h
  have hks := hm.key (keyAt H) hkey
  refine RtS.sorted_gen (I.ok.hd hc) hSI hz fun h1 l hl kp hoL => ?_
  have hperm : ((RtS.order X.w S ep es).toList.map (·.2)).Perm (ps.map Value.ref) := by
    rw [← ees]
    exact (RtS.order_perm X.w S ep es).map _
  obtain ⟨ps1, e1, p1⟩ := unref_perm hperm
  rw [e1] at hoL
  have hk1 : ∀ p ∈ ps1, MkAt H p (keyAt H p) := fun p hp => hkey p (p1.mem_iff.mp hp)
  have ht1 : ∀ p ∈ ps1, IsTupleKey (intKind X.prog X.w) h1 (keyAt H p) p := fun p hp => RtS.tupKey_at (I.tupKey (hk1 p hp) _ _) fun o e => (kp p o e).1
  obtain ⟨fs, htups⟩ := tups0 (ps := ps1) (key := keyAt H) (prog := X.prog) (w := X.w) (h := h1) fun p hp => ⟨ht1 p hp, hne _ (by rw [hks]; exact List.mem_map.mpr ⟨p, p1.mem_iff.mp hp, rfl⟩)⟩
  have hlen : ps1.length ≤ 300 := by
    rw [p1.length_eq]
    have := congrArg List.length ees
    rw [List.length_map, List.length_map, Array.length_toList] at this
    omega
  refine PyProof.Rows.G.list_sort_tups (s := { s with heap := h1 }) (shape := sh0) hoL htups (fun v hv => ?_) (by rw [List.length_map, sizeLine_eq]; omega) fun st' a1 a2 a3 => ⟨_, rfl, ?_⟩
  · obtain ⟨p, hp, rfl⟩ := List.mem_map.mp hv
    exact ⟨_, key0 (ht1 p hp)⟩
  · -- the pairs
    have ap : (arrOf st').toList.Perm ((ps1.map Value.ref).zip (ps1.map Value.ref)) := by
      have := Array.perm_iff_toList_perm.mp a1
      rw [pairsOf_toList] at this
      exact this
    have same : ∀ x ∈ (arrOf st').toList, x.1 = x.2 := fun x hx => (mem_zip_self (ap.mem_iff.mp hx)).1
    have op : ((arrOf st').toList.map (·.2)).Perm (ps1.map Value.ref) := by
      have := ap.map (·.2)
      rw [List.map_snd_zip (by simp)] at this
      exact this
    obtain ⟨ps2, e2, p2⟩ := unref_perm op
    obtain ⟨ee, he⟩ := sortedHeap_at (vs := ps1.map Value.ref) (out := (arrOf st').map (·.2)) hoL
    have hk2 : ∀ p ∈ ps2, MkAt H p (keyAt H p) := fun p hp => hk1 p (p2.mem_iff.mp hp)
    have hlen2 : ps2.length = (arrOf st').size := by
      have := congrArg List.length e2
      rw [List.length_map, List.length_map, Array.length_toList] at this
      exact this.symm
    refine ⟨.ref l, upd H l (.lst (ps2.map V.ref)), I.laid (t' := s.toks) (fun b u e => ?_) hl ⟨by rw [List.length_map, p2.length_eq, sizeLine_eq]; omega, ps2.map Value.ref, ee, refs_vals ps2, ?_⟩, rfl, q l ps2 (ps2.map (keyAt H)) (I.hok.fresh hl) (Mks.of hk2) ?_ ?_⟩
    · obtain ⟨x1, x2⟩ := kp b u e
      show (sortedHeap h1 l _ _).get? b = some u
      rw [sortedHeap_old x2 (Heap.lt_size x1)]
      exact x1
    · have eA : (arrOf st').map (·.2) = (ps2.map Value.ref).toArray := by
        apply Array.ext'
        rw [Array.toList_map, e2]
      rw [eA] at he
      show (sortedHeap h1 l _ ((arrOf st').map (·.2))).get? l = _
      rw [eA]
      exact he
    · rw [hks]
      exact (p2.trans p1).map _
    · rw [List.pairwise_iff_getElem]
      intro i j hi hj hij
      rw [List.length_map] at hi hj
      have hsz : (arrOf st').size = (pairsOf (ps1.map Value.ref)).size := by rw [pairsOf_size, List.length_map, ← hlen2, p2.length_eq]
      have key_at : ∀ (i : Nat) (hi : i < ps2.length), KK (PyProof.Rows.G.tupKindC h1 sh0) (arrOf st') i = (keyAt H ps2[i]).map Sum.inl := fun i hi => by
        have hi2 : i < (arrOf st').size := by rw [← hlen2]; exact hi
        have g1 : (arrOf st')[i]? = some (arrOf st')[i] := Array.getElem?_eq_getElem hi2
        have g2 : (arrOf st')[i].2 = Value.ref ps2[i] := by
          have : ((arrOf st').toList.map (·.2))[i]? = (ps2.map Value.ref)[i]? := by rw [e2]
          rw [List.getElem?_map, List.getElem?_map, Array.getElem?_toList, g1, List.getElem?_eq_getElem hi] at this
          exact Option.some.inj this
        have g3 := same _ (Array.mem_toList_iff.mpr (Array.getElem_mem hi2))
        unfold KK
        rw [g1]
        show ((PyProof.Rows.G.tupKeyC h1 sh0 (arrOf st')[i].1).getD []) = _
        rw [g3, g2, key0 (ht1 _ (p2.mem_iff.mp (List.getElem_mem hi)))]
        rfl
      have := a2 i j (Nat.le_of_lt hij) (by rw [← hsz, ← hlen2]; exact hj)
      rw [key_at i hi, key_at j hj] at this
      rw [List.getElem_map, List.getElem_map]
      exact this
/-! ### ints -/
def IntSetO (prog : Program) (w : World) (S : Addr) (ns : List Int) : HO := .ext fun h => RtS.IntIn prog w S ns ns.length h
def rSetI (prog : Program) (w : World) (K : PySem.W.Frag) : List V → Hp → VK → Prop := fun vs H Q => ∃ l ns, vs = [.ref l] ∧ SqL K H l (ns.map V.int) ∧ ns.length ≤ 60 ∧ ∀ S, H S = none → Q (.ref S) (upd H S (IntSetO prog w S ns))
theorem cr_setI (hc : X.calm = true) : CallR X (.type "set") (rSetI X.prog X.w X.K) := by
  intro pins s σ H vs us Q I r h
  obtain ⟨l, ns, rfl, hl, hn, q⟩ := h
  obtain ⟨its, rv, pl, hz⟩ := I.list hl
  rw [Vals.ref1 r]
  refine RtS.set_ints (ns := ns) (items := its.toArray) (I.ok.hd hc) pl.isList (by simpa using rv.ints) (by omega) fun h' tk TI kp => ?_
  have TI' := TI
  obtain ⟨es, ms, ⟨o, ep, t, ho, _⟩, _⟩ := TI'
  refine ⟨.ref _, upd H s.heap.objs.size (IntSetO X.prog X.w s.heap.objs.size ns), I.laid (t' := tk) (fun b u e => kp b u (Heap.lt_size e) e) (Nat.le_refl _) ⟨TI, ⟨o, ho⟩, fun h1 h2 p k => ?_⟩, rfl, q _ I.fresh⟩
  obtain ⟨es, ms, x, r⟩ := p
  exact ⟨es, ms, x.at k, r⟩
def rSortI (prog : Program) (w : World) : List V → Hp → VK → Prop := fun vs H Q => ∃ S ns, vs = [.ref S] ∧ H S = some (IntSetO prog w S ns) ∧ ns.length ≤ 60 ∧
  ∀ (l : Addr) (ns' : List Int), H l = none → ns'.Nodup → ns'.Pairwise (· ≤ ·) → (∀ k, k ∈ ns' ↔ k ∈ ns) → Q (.ref l) (upd H l (.lst (ns'.map V.int)))
theorem cr_sortI (hc : X.calm = true) : CallR X (.builtin "sorted") (rSortI X.prog X.w) := by
  intro pins s σ H vs us Q I r h
  obtain ⟨S, ns, rfl, hS, hn, q⟩ := h
  rw [Vals.ref1 r]
  obtain ⟨hI, _⟩ := I.hok S _ hS
  refine RtS.sorted_ints_set (prog := X.prog) (I.ok.hd hc) hI (by omega) fun h' l out ns' ep hl kp ho hi nd pw mm => ?_
  rw [List.take_length] at mm
  have hlen : ns'.length ≤ 60 := by
    have := RtS.nodup_le ns' ns nd fun k hk => (mm k).mp hk
    omega
  exact ⟨.ref l, upd H l (.lst (ns'.map V.int)), I.laid (t' := s.toks) kp hl ⟨by rw [List.length_map, sizeLine_eq]; omega, out, ep, vals_of_ints hi, ho⟩, rfl, q l ns' (I.hok.fresh hl) nd pw mm⟩
end
end L2
end

section
set_option Elab.async false
set_option linter.all false
set_option maxRecDepth 100000
set_option maxHeartbeats 2000000
namespace Rt
open PySem PySem.Spec PyProof.Rows L2
open Su69 (Abs)

/-! ### the text by places -/
def top (i : Nat) : Stmt := PySem.Challenge.pw_recalltyres_s01_answers.main.body.getD i (.Pass ⟨0, 0, 0, 0⟩)
abbrev s_tinit : Stmt := inClass (top 17) 0
abbrev s_winit : Stmt := inClass (top 18) 0
abbrev s_lacks_rack : Stmt := top 19
abbrev s_lacks_tyre : Stmt := top 20
abbrev s_is_no_mark : Stmt := top 21
abbrev s_has_mark : Stmt := top 22
abbrev s_has_any : Stmt := top 23
abbrev s_is_recalled : Stmt := top 24
abbrev s_tyres_with : Stmt := top 25
abbrev s_count_at_stage : Stmt := top 26
abbrev s_claimed_tyres : Stmt := top 27
abbrev s_was_sent : Stmt := top 28
abbrev s_tyres_held : Stmt := top 29
abbrev s_room_left : Stmt := top 30
abbrev s_marks_of : Stmt := top 31
abbrev s_have_all : Stmt := top 33
abbrev s_shared_marks : Stmt := top 34
abbrev s_common_marks : Stmt := top 35
abbrev s_count_with : Stmt := top 36
abbrev s_narrowest_mark : Stmt := top 37
abbrev s_second_marks : Stmt := top 38
abbrev s_explaining_pairs : Stmt := top 39
abbrev s_count_with_either : Stmt := top 40
abbrev s_explaining_marks : Stmt := top 41
abbrev s_hand_over : Stmt := top 45
abbrev s_send_tyre : Stmt := top 46
abbrev s_sendable_tyres : Stmt := top 47
abbrev s_oldest_tyre : Stmt := top 48
abbrev s_send_oldest : Stmt := top 49
abbrev s_claim_tyre : Stmt := top 50
abbrev s_take_back : Stmt := top 51
abbrev s_recall_mark : Stmt := top 52
abbrev s_lift_mark : Stmt := top 53
abbrev s_numbers_of : Stmt := top 55
abbrev s_counted : Stmt := top 56
abbrev s_list_customers : Stmt := top 57
abbrev s_list_recalled : Stmt := top 58
abbrev s_list_rack : Stmt := top 59
abbrev s_list_with : Stmt := top 60
abbrev s_list_sent_to : Stmt := top 61
abbrev s_tell_next : Stmt := top 62
abbrev s_look_at_tyre : Stmt := top 64
abbrev s_tell_sums : Stmt := top 65
abbrev s_tell_state : Stmt := top 66
abbrev s_mark_counts : Stmt := top 68
abbrev s_rate_of_mark : Stmt := top 69
abbrev s_rated_marks : Stmt := top 70
abbrev s_worst_mark : Stmt := top 71
abbrev s_add_rack : Stmt := top 77
abbrev s_are_five_marks : Stmt := top 78
abbrev s_put_tyre : Stmt := top 79
abbrev s_move_tyre : Stmt := top 80
abbrev s_pass_days : Stmt := top 81
abbrev s_call_end : Stmt := top 109
abbrev s_answer_stocking : Stmt := top 110
abbrev s_answer_sending : Stmt := top 111
abbrev s_answer_causes : Stmt := top 112
abbrev s_answer_listing : Stmt := top 113
abbrev s_answer_looking : Stmt := top 114
abbrev s_answer_call : Stmt := top 115
abbrev s_answers : Stmt := top 116
def argsV : List V := ([0, 1, 1, 2, 2, 3, 1, 1, 1, 2, 2, 0, 0, 0, 2, 1, 2, 0, 0, 1, 2, 1, 0, 1, 0, 0] : List Int).map V.int
/-- what of the module's text the proofs lean on -/
structure Txt (K : PySem.W.Frag) (mg : Str → Option Value) (CT CW fT fW : Addr) : Prop where
  clT : Cls K CT
  clW : Cls K CW
  nT_number : NoAttr K CT "number"
  nT_marks : NoAttr K CT "marks"
  nT_stage : NoAttr K CT "stage"
  nT_holder : NoAttr K CT "holder"
  nT_since : NoAttr K CT "since"
  nT_claimed : NoAttr K CT "claimed"
  nW_day : NoAttr K CW "day"
  nW_sizes : NoAttr K CW "sizes"
  nW_tyres : NoAttr K CW "tyres"
  nW_recalled : NoAttr K CW "recalled"
  mgT : mg "Tyre" = some (.ref CT)
  mgW : mg "Warehouse" = some (.ref CW)
  mkT : Mk K CT fT
  mkW : Mk K CW fW
  inT : ∃ fd, Fun K "__init__" "Tyre.__init__" s_tinit fT fd ∧ Binds K fd ["self", "number", "marks", "rack_number", "day"] []
  inW : ∃ fd, Fun K "__init__" "Warehouse.__init__" s_winit fW fd ∧ Binds K fd ["self"] []
  b_len : mg "len" = none
  b_any : mg "any" = none
  b_all : mg "all" = none
  b_max : mg "max" = none
  b_list : mg "list" = none
  b_set : mg "set" = none
  b_sorted : mg "sorted" = none
  b_range : mg "range" = none
  c_NO_SUCH : GI mg "NO_SUCH" (-2)
  c_NONE_THERE : GI mg "NONE_THERE" (-6)
  c_NOT_BEGUN : GI mg "NOT_BEGUN" (-11)
  c_IS_RECALLED : GI mg "IS_RECALLED" (-13)
  c_NOT_SO : GI mg "NOT_SO" (-16)
  c_SO_ALREADY : GI mg "SO_ALREADY" (-17)
  c_OUT_OF_RANGE : GI mg "OUT_OF_RANGE" (-22)
  c_TOO_MANY : GI mg "TOO_MANY" (-28)
  c_NONE_FITS : GI mg "NONE_FITS" (-33)
  c_PLACES : GI mg "PLACES" 5
  c_WEEK_PLACE : GI mg "WEEK_PLACE" 4
  c_HIGHEST_VALUE : GI mg "HIGHEST_VALUE" 99
  c_HIGHEST_CUSTOMER : GI mg "HIGHEST_CUSTOMER" 9
  c_IN_RACK : GI mg "IN_RACK" 0
  c_SENT : GI mg "SENT" 1
  c_COME_BACK : GI mg "COME_BACK" 2
  c_MOST_CLAIMS : GI mg "MOST_CLAIMS" 20
  c_MOST_RECALLS : GI mg "MOST_RECALLS" 10
  c_MOST_RACKS : GI mg "MOST_RACKS" 8
  c_LARGEST_RACK : GI mg "LARGEST_RACK" 60
  c_MOST_TYRES : GI mg "MOST_TYRES" 60
  c_MOST_DAYS : GI mg "MOST_DAYS" 1000
  c_BEGIN : GI mg "BEGIN" 0
  c_RACK : GI mg "RACK" 1
  c_PUT : GI mg "PUT" 2
  c_MOVE : GI mg "MOVE" 3
  c_SEND : GI mg "SEND" 4
  c_OLDEST : GI mg "OLDEST" 5
  c_DAYS : GI mg "DAYS" 6
  c_CLAIM : GI mg "CLAIM" 7
  c_BACK : GI mg "BACK" 8
  c_RECALL : GI mg "RECALL" 9
  c_LIFT : GI mg "LIFT" 10
  c_COMMON : GI mg "COMMON" 11
  c_NARROW : GI mg "NARROW" 12
  c_TWO : GI mg "TWO" 13
  c_RATE : GI mg "RATE" 14
  c_WORST : GI mg "WORST" 15
  c_WHO : GI mg "WHO" 16
  c_LEFT : GI mg "LEFT" 17
  c_BLOCKED : GI mg "BLOCKED" 18
  c_STOCK : GI mg "STOCK" 19
  c_WITH : GI mg "WITH" 20
  c_SENT_TO : GI mg "SENT_TO" 21
  c_LOOK : GI mg "LOOK" 23
  c_SUMS : GI mg "SUMS" 24
  c_STATE : GI mg "STATE" 25
  c_ARGUMENTS : ∃ a, mg "ARGUMENTS" = some (.ref a) ∧ ∀ H : Hp, SqT K H a argsV
  d_lacks_rack : D1 K mg "lacks_rack" s_lacks_rack ["house", "rack_number"]
  d_lacks_tyre : D1 K mg "lacks_tyre" s_lacks_tyre ["house", "number"]
  d_is_no_mark : D1 K mg "is_no_mark" s_is_no_mark ["place", "value"]
  d_has_mark : D1 K mg "has_mark" s_has_mark ["tyre", "place", "value"]
  d_has_any : D1 K mg "has_any" s_has_any ["tyre", "marks"]
  d_is_recalled : D1 K mg "is_recalled" s_is_recalled ["house", "tyre"]
  d_tyres_with : D1 K mg "tyres_with" s_tyres_with ["house", "place", "value"]
  d_count_at_stage : D1 K mg "count_at_stage" s_count_at_stage ["tyres", "stage"]
  d_claimed_tyres : D1 K mg "claimed_tyres" s_claimed_tyres ["house"]
  d_was_sent : D1 K mg "was_sent" s_was_sent ["tyre"]
  d_tyres_held : D1 K mg "tyres_held" s_tyres_held ["house", "stage", "holder"]
  d_room_left : D1 K mg "room_left" s_room_left ["house", "rack_number"]
  d_marks_of : D1 K mg "marks_of" s_marks_of ["tyres"]
  d_have_all : D1 K mg "have_all" s_have_all ["tyres", "place", "value"]
  d_shared_marks : D1 K mg "shared_marks" s_shared_marks ["tyres"]
  d_common_marks : D1 K mg "common_marks" s_common_marks ["house"]
  d_count_with : D1 K mg "count_with" s_count_with ["house", "mark"]
  d_narrowest_mark : D1 K mg "narrowest_mark" s_narrowest_mark ["house"]
  d_second_marks : D1 K mg "second_marks" s_second_marks ["claimed", "first"]
  d_explaining_pairs : D1 K mg "explaining_pairs" s_explaining_pairs ["claimed"]
  d_count_with_either : D1 K mg "count_with_either" s_count_with_either ["house", "pair"]
  d_explaining_marks : D1 K mg "explaining_marks" s_explaining_marks ["house"]
  d_hand_over : D1 K mg "hand_over" s_hand_over ["house", "tyre", "customer"]
  d_send_tyre : D1 K mg "send_tyre" s_send_tyre ["house", "number", "customer"]
  d_sendable_tyres : D1 K mg "sendable_tyres" s_sendable_tyres ["house"]
  d_oldest_tyre : D1 K mg "oldest_tyre" s_oldest_tyre ["tyres"]
  d_send_oldest : D1 K mg "send_oldest" s_send_oldest ["house", "place", "value", "customer"]
  d_claim_tyre : D1 K mg "claim_tyre" s_claim_tyre ["house", "number"]
  d_take_back : D1 K mg "take_back" s_take_back ["house", "number"]
  d_recall_mark : D1 K mg "recall_mark" s_recall_mark ["house", "place", "value"]
  d_lift_mark : D1 K mg "lift_mark" s_lift_mark ["house", "place", "value"]
  d_numbers_of : D1 K mg "numbers_of" s_numbers_of ["tyres"]
  d_counted : D1 K mg "counted" s_counted ["numbers"]
  d_list_customers : D1 K mg "list_customers" s_list_customers ["house", "place", "value"]
  d_list_recalled : D1 K mg "list_recalled" s_list_recalled ["house", "stage"]
  d_list_rack : D1 K mg "list_rack" s_list_rack ["house", "rack_number"]
  d_list_with : D1 K mg "list_with" s_list_with ["house", "place", "value"]
  d_list_sent_to : D1 K mg "list_sent_to" s_list_sent_to ["house", "customer"]
  d_tell_next : D1 K mg "tell_next" s_tell_next ["house"]
  d_look_at_tyre : D1 K mg "look_at_tyre" s_look_at_tyre ["house", "number"]
  d_tell_sums : D1 K mg "tell_sums" s_tell_sums ["house"]
  d_tell_state : D1 K mg "tell_state" s_tell_state ["house"]
  d_mark_counts : D1 K mg "mark_counts" s_mark_counts ["house", "place", "value"]
  d_rate_of_mark : D1 K mg "rate_of_mark" s_rate_of_mark ["house", "place", "value"]
  d_rated_marks : D1 K mg "rated_marks" s_rated_marks ["house", "least"]
  d_worst_mark : D1 K mg "worst_mark" s_worst_mark ["house", "least"]
  d_add_rack : D1 K mg "add_rack" s_add_rack ["house", "size"]
  d_are_five_marks : D1 K mg "are_five_marks" s_are_five_marks ["values"]
  d_put_tyre : D1 K mg "put_tyre" s_put_tyre ["house", "rack_number", "values"]
  d_move_tyre : D1 K mg "move_tyre" s_move_tyre ["house", "number", "rack_number"]
  d_pass_days : D1 K mg "pass_days" s_pass_days ["house", "days"]
  d_call_end : D1 K mg "call_end" s_call_end ["calls", "start"]
  d_answer_stocking : D1 K mg "answer_stocking" s_answer_stocking ["house", "call"]
  d_answer_sending : D1 K mg "answer_sending" s_answer_sending ["house", "call"]
  d_answer_causes : D1 K mg "answer_causes" s_answer_causes ["house", "call"]
  d_answer_listing : D1 K mg "answer_listing" s_answer_listing ["house", "call"]
  d_answer_looking : D1 K mg "answer_looking" s_answer_looking ["house", "call"]
  d_answer_call : D1 K mg "answer_call" s_answer_call ["house", "call"]
  d_answers : D1 K mg "answers" s_answers ["calls"]

/-! ### the house on the heap -/
structure RD where
  ls : Addr
  lt : Addr
  lr : Addr
  ta : Nat → Addr
  ma : Nat → Addr
abbrev iv (n : Nat) : V := .int (n : Int)
def hfs (day : Nat) (ls lt lr : Addr) : List (Str × V) := [("day", iv day), ("sizes", .ref ls), ("tyres", .ref lt), ("recalled", .ref lr)]
def tfs (i : Nat) (m : Addr) (t : Su69.Tyre) : List (Str × V) := [("number", iv i), ("marks", .ref m), ("stage", iv t.how), ("holder", iv t.place), ("since", iv t.day), ("claimed", .bl t.claimed)]
def km (x : Nat × Nat) : List Int := [(x.1 : Int), (x.2 : Int)]
structure Rep (CT CW : Addr) (H : Hp) (h : Addr) (R : RD) (a : Abs) : Prop where
  good : Good a
  house : ∃ dx, H h = some (.ins CW dx (hfs a.today R.ls R.lt R.lr))
  sizes : H R.ls = some (.lst (a.racks.map iv))
  tyres : H R.lt = some (.lst (a.all.map fun i => .ref (R.ta i)))
  recd : ∃ ps, H R.lr = some (.lst (ps.map V.ref)) ∧ Mks H ps (a.recalled.map km)
  tyre : ∀ i, i < a.tyres.length → ∃ dx, H (R.ta i) = some (.ins CT dx (tfs i (R.ma i) (a.tyre i)))
  marks : ∀ i, i < a.tyres.length → H (R.ma i) = some (.lst ((a.tyre i).marks.map iv))
  inj : ∀ i j, i < a.tyres.length → j < a.tyres.length → R.ta i = R.ta j → i = j
  dist : R.ls ≠ R.lt ∧ R.ls ≠ R.lr ∧ R.lt ≠ R.lr
  mne : ∀ i, i < a.tyres.length → R.ma i ≠ R.ls ∧ R.ma i ≠ R.lt ∧ R.ma i ≠ R.lr
theorem Rep.same {CT CW : Addr} {H H' : Hp} {h : Addr} {R : RD} {a : Abs} (r : Rep CT CW H h R a) (s : Same H H') : Rep CT CW H' h R a where
  good := r.good
  house := let ⟨dx, e⟩ := r.house; ⟨dx, s _ _ e⟩
  sizes := s _ _ r.sizes
  tyres := s _ _ r.tyres
  recd := let ⟨ps, e, m⟩ := r.recd; ⟨ps, s _ _ e, m.same s⟩
  tyre i hi := let ⟨dx, e⟩ := r.tyre i hi; ⟨dx, s _ _ e⟩
  marks i hi := s _ _ (r.marks i hi)
  inj := r.inj
  dist := r.dist
  mne := r.mne
/-- what a call may change -/
def Keep (H : Hp) (h : Addr) (R : RD) (a : Abs) (H' : Hp) : Prop := ∀ b o, H b = some o → b ≠ h → b ≠ R.ls → b ≠ R.lt → b ≠ R.lr → (∀ i, i < a.tyres.length → b ≠ R.ta i) → H' b = some o
theorem Keep.of {H H' : Hp} {h : Addr} {R : RD} {a : Abs} (s : Same H H') : Keep H h R a H' := fun b o e _ _ _ _ _ => s b o e
/-- an answer comes, and the house is as it is due -/
def Fin (CT CW : Addr) (H : Hp) (h : Addr) (R : RD) (a : Abs) (x : Abs × Su69.Ans) (Q : VK) : Prop :=
  ∀ (H' : Hp) (R' : RD) (p : Addr), R'.ls = R.ls → R'.lt = R.lt → (R'.lr = R.lr ∧ ∀ i, R'.ma i = R.ma i ∨ H (R'.ma i) = none) → Rep CT CW H' h R' x.1 → Keep H h R a H' → H p = none → H' p = some (.lst ((ans x.2).map V.int)) → Q (.ref p) H'
theorem lrR {R : RD} {H : Hp} : R.lr = R.lr ∧ ∀ i, R.ma i = R.ma i ∨ H (R.ma i) = none := ⟨rfl, fun _ => .inl rfl⟩
theorem Fin.read {CT CW : Addr} {H H' : Hp} {h : Addr} {R : RD} {a : Abs} {x : Abs × Su69.Ans} {Q : VK} (f : Fin CT CW H h R a x Q) (r : Rep CT CW H h R a) (e : x.1 = a) (s : Same H H') {p : Addr} (hp : H p = none) {vs : List V} (q : H' p = some (.lst vs)) (ev : vs = (ans x.2).map V.int) : Q (.ref p) H' :=
  f H' R p rfl rfl lrR (by rw [e]; exact r.same s) (Keep.of s) hp (by rw [q, ev])
end Rt
end

section
set_option Elab.async false
set_option linter.all false
set_option maxRecDepth 100000
set_option maxHeartbeats 2000000
namespace Rt
open PySem PySem.Spec PyProof.Rows L2
open Su69 (Abs)

theorem le_nat {m n : Nat} : decide ((m : Int) ≤ (n : Int)) = decide (m ≤ n) := by
  by_cases h : m ≤ n
  · rw [decide_eq_true h]; exact decide_eq_true (by omega)
  · rw [decide_eq_false h]; exact decide_eq_false (by omega)
theorem lt_nat {m n : Nat} : decide ((m : Int) < (n : Int)) = decide (m < n) := by
  by_cases h : m < n
  · rw [decide_eq_true h]; exact decide_eq_true (by omega)
  · rw [decide_eq_false h]; exact decide_eq_false (by omega)
theorem eq_nat {m n : Nat} : decide (iv m = iv n) = decide (m = n) := by
  by_cases h : m = n
  · subst h; simp
  · rw [decide_eq_false h]
    refine decide_eq_false fun e => h ?_
    injection e with e
    omega
abbrev tr (R : RD) (i : Nat) : V := .ref (R.ta i)
/-! ### the promises -/
section
variable (K : PySem.W.Frag) (CT CW : Addr)
def spLacksRack : Sp := fun vs H Q _ => ∃ h R a r, vs = [.ref h, iv r] ∧ Rep CT CW H h R a ∧ Ret H Q (.bl (decide (a.racks.length ≤ r)))
def spLacksTyre : Sp := fun vs H Q _ => ∃ h R a t, vs = [.ref h, iv t] ∧ Rep CT CW H h R a ∧ Ret H Q (.bl (decide (a.tyres.length ≤ t)))
def spNoMark : Sp := fun vs H Q _ => ∃ k v, vs = [iv k, iv v] ∧ Ret H Q (.bl (!Su69.okMark k v))
def spHasMark : Sp := fun vs H Q _ => ∃ h R a i k v, vs = [tr R i, iv k, iv v] ∧ Rep CT CW H h R a ∧ i < a.tyres.length ∧ k < 5 ∧ Ret H Q (.bl (a.has i (k, v)))
def spHasAny : Sp := fun vs H Q _ => ∃ (h : Addr) (R : RD) (a : Abs) (i : Nat) (l : Addr) (ps : List Addr) (ms : List (Nat × Nat)), vs = [tr R i, .ref l] ∧ Rep CT CW H h R a ∧ i < a.tyres.length ∧ (SqL K H l (ps.map V.ref) ∨ SqT K H l (ps.map V.ref)) ∧ Mks H ps (ms.map km) ∧ ms.length ≤ 10 ∧ (∀ m ∈ ms, m.1 < 5) ∧ Ret H Q (.bl (ms.any (a.has i)))
def spIsRecalled : Sp := fun vs H Q _ => ∃ h R a i, vs = [.ref h, tr R i] ∧ Rep CT CW H h R a ∧ i < a.tyres.length ∧ Ret H Q (.bl (a.bad i))
def spTyresWith : Sp := fun vs H Q _ => ∃ h R a k v, vs = [.ref h, iv k, iv v] ∧ Rep CT CW H h R a ∧ k < 5 ∧ RetL H Q ((a.with_ (k, v)).map (tr R))
def spCountAt : Sp := fun vs H Q _ => ∃ (h : Addr) (R : RD) (a : Abs) (l : Addr) (is : List Nat) (st : Nat), vs = [.ref l, iv st] ∧ Rep CT CW H h R a ∧ H l = some (.lst (is.map (tr R))) ∧ (∀ i ∈ is, i < a.tyres.length) ∧ is.length ≤ 60 ∧ Ret H Q (iv (is.filter fun t => (a.tyre t).how == st).length)
def spClaimed : Sp := fun vs H Q _ => ∃ h R a, vs = [.ref h] ∧ Rep CT CW H h R a ∧ RetL H Q (a.claims.map (tr R))
def spWasSent : Sp := fun vs H Q _ => ∃ h R a i, vs = [tr R i] ∧ Rep CT CW H h R a ∧ i < a.tyres.length ∧ Ret H Q (.bl ((a.tyre i).how != 0))
def spHeld : Sp := fun vs H Q _ => ∃ h R a st ho, vs = [.ref h, iv st, iv ho] ∧ Rep CT CW H h R a ∧ RetL H Q ((a.all.filter fun t => (a.tyre t).how == st && (a.tyre t).place == ho).map (tr R))
def spRoom : Sp := fun vs H Q _ => ∃ h R a r, vs = [.ref h, iv r] ∧ Rep CT CW H h R a ∧ r < a.racks.length ∧ Ret H Q (.int (((a.racks.getD r 0 : Nat) : Int) - ((a.inRack r).length : Int)))
end
section
variable {P : Program} {w : World} {K : PySem.W.Frag} {mg : Str → Option Value} {base : Heap} {CT CW fT fW : Addr}

theorem sc_lacks_rack : FnScope ["house", "rack_number"] ["house", "rack_number"] (defScope s_lacks_rack) := ⟨rfl, rfl, rfl, by decide +kernel, rfl, by decide +kernel, by decide +kernel⟩
theorem ok_lacks_rack (T : Txt K mg CT CW fT fW) : Has P w K mg base 1 "lacks_rack" ["house", "rack_number"] (spLacksRack CT CW) := T.d_lacks_rack.has fun f fd F => by
  refine F.ok sc_lacks_rack (fun vs H Q E h => ?_) (fun cdv A outer s H vs Q E hr h => ?_)
  · obtain ⟨h, R, a, r, rfl, _⟩ := h
    rfl
  · obtain ⟨h, R, a, r, rfl, rep, q⟩ := h
    obtain ⟨dx, hh⟩ := rep.house
    refine ⟨_, pss_one (ps_ret (pe_cmpR op_ge (pv 1) (pe_callB call_len_seq (by rfl) T.b_len PySem.boot_len (pa_cons (pe_fld (pv 0) rfl) pa_nil)) (nomark _))), ?_⟩
    refine ⟨_, rfl, _, rfl, h, CW, dx, _, _, rfl, hh, T.clW, T.nW_sizes, rfl, R.ls, _, rfl, .inl (SqL.of rep.sizes), _, _, rfl, rfl, ?_⟩
    try dsimp only
    rw [List.length_map, le_nat]
    exact q H (Same.refl H)
theorem sc_lacks_tyre : FnScope ["house", "number"] ["house", "number"] (defScope s_lacks_tyre) := ⟨rfl, rfl, rfl, by decide +kernel, rfl, by decide +kernel, by decide +kernel⟩
theorem ok_lacks_tyre (T : Txt K mg CT CW fT fW) : Has P w K mg base 1 "lacks_tyre" ["house", "number"] (spLacksTyre CT CW) := T.d_lacks_tyre.has fun f fd F => by
  refine F.ok sc_lacks_tyre (fun vs H Q E h => ?_) (fun cdv A outer s H vs Q E hr h => ?_)
  · obtain ⟨h, R, a, r, rfl, _⟩ := h
    rfl
  · obtain ⟨h, R, a, r, rfl, rep, q⟩ := h
    obtain ⟨dx, hh⟩ := rep.house
    refine ⟨_, pss_one (ps_ret (pe_cmpR op_ge (pv 1) (pe_callB call_len_seq (by rfl) T.b_len PySem.boot_len (pa_cons (pe_fld (pv 0) rfl) pa_nil)) (nomark _))), ?_⟩
    refine ⟨_, rfl, _, rfl, h, CW, dx, _, _, rfl, hh, T.clW, T.nW_tyres, rfl, R.lt, _, rfl, .inl (SqL.of rep.tyres), _, _, rfl, rfl, ?_⟩
    try dsimp only
    rw [List.length_map, show a.all.length = a.tyres.length by unfold Su69.Abs.all; exact List.length_range, le_nat]
    exact q H (Same.refl H)
theorem sc_is_no_mark : FnScope ["place", "value"] ["place", "value"] (defScope s_is_no_mark) := ⟨rfl, rfl, rfl, by decide +kernel, rfl, by decide +kernel, by decide +kernel⟩
theorem ok_is_no_mark (T : Txt K mg CT CW fT fW) : Has P w K mg base 1 "is_no_mark" ["place", "value"] spNoMark := T.d_is_no_mark.has fun f fd F => by
  refine F.ok sc_is_no_mark (fun vs H Q E h => ?_) (fun cdv A outer s H vs Q E hr h => ?_)
  · obtain ⟨k, v, rfl, _⟩ := h
    rfl
  · obtain ⟨k, v, rfl, q⟩ := h
    refine ⟨_, pss_one (ps_ret (pe_or (pe_cmpR op_ge (pv 0) (pgi T.c_PLACES (by rfl)) (nomark _)) (pe_one (pe_cmpR op_gt (pv 1) (pgi T.c_HIGHEST_VALUE (by rfl)) (nomark _))))), ?_⟩
    refine ⟨_, rfl, _, _, rfl, rfl, _, rfl, ite2 (fun h1 => ?_) fun h1 => ⟨_, rfl, _, _, rfl, rfl, ?_⟩⟩
    · have e : Su69.okMark k v = false := by
        have h1 := of_decide_eq_true h1
        unfold Su69.okMark Su69.MARKS
        rw [decide_eq_false (by omega)]; rfl
      have q := q H (Same.refl H)
      rw [e] at q
      exact q
    · have e : decide ((99 : Int) < (v : Int)) = !Su69.okMark k v := by
        have h1 : k < 5 := by
          have : ¬ (5 : Int) ≤ (k : Int) := fun z => h1 (decide_eq_true z)
          omega
        unfold Su69.okMark Su69.MARKS Su69.VALUES
        rw [decide_eq_true h1, Bool.true_and]
        by_cases h2 : v < 100
        · rw [decide_eq_true h2]; exact decide_eq_false (by omega)
        · rw [decide_eq_false h2]; exact decide_eq_true (by omega)
      try dsimp only
      rw [e]
      exact q H (Same.refl H)
theorem Mks.zip {H : Hp} : ∀ {ps : List Addr} {ms : List (Nat × Nat)}, Mks H ps (ms.map km) → (∀ x ∈ ps.zip ms, MkAt H x.1 (km x.2)) ∧ (ps.zip ms).map (fun x => V.ref x.1) = ps.map V.ref ∧ (ps.zip ms).map (·.2) = ms ∧ (ps.zip ms).length = ms.length
  | [], [], _ => ⟨fun x hx => (by cases hx), rfl, rfl, rfl⟩
  | [], m :: ms, h => by rw [List.map_cons] at h; cases h
  | p :: ps, [], h => by cases h
  | p :: ps, m :: ms, h => by
    rw [List.map_cons] at h
    cases h with
    | cons a r =>
      obtain ⟨h1, h2, h3, h4⟩ := Mks.zip r
      refine ⟨fun x hx => ?_, ?_, ?_, ?_⟩
      · rcases List.mem_cons.mp hx with e | m'
        · rw [e]; exact a
        · exact h1 x m'
      · rw [List.zip_cons_cons, List.map_cons, List.map_cons, h2]
      · rw [List.zip_cons_cons, List.map_cons, h3]
      · rw [List.zip_cons_cons, List.length_cons, List.length_cons, h4]
theorem all_len (a : Abs) : a.all.length = a.tyres.length := by unfold Su69.Abs.all; exact List.length_range
theorem Rep.all_small {CT CW : Addr} {H : Hp} {h : Addr} {R : RD} {a : Abs} (r : Rep CT CW H h R a) : a.all.length ≤ sizeLine := by rw [all_len]; exact Nat.le_trans r.good.nT (by decide)
theorem sixty {n : Nat} (h : n ≤ 60) : n ≤ sizeLine := Nat.le_trans h (by decide)
theorem sc_has_mark : FnScope ["tyre", "place", "value"] ["tyre", "place", "value"] (defScope s_has_mark) := ⟨rfl, rfl, rfl, by decide +kernel, rfl, by decide +kernel, by decide +kernel⟩
theorem ok_has_mark (T : Txt K mg CT CW fT fW) : Has P w K mg base 1 "has_mark" ["tyre", "place", "value"] (spHasMark CT CW) := T.d_has_mark.has fun f fd F => by
  refine F.ok sc_has_mark (fun vs H Q E h => ?_) (fun cdv A outer s H vs Q E hr h => ?_)
  · obtain ⟨h, R, a, i, k, v, rfl, _⟩ := h
    rfl
  · obtain ⟨h, R, a, i, k, v, rfl, rep, hi, hk, q⟩ := h
    obtain ⟨dx, ht⟩ := rep.tyre i hi
    refine ⟨_, pss_one (ps_ret (pe_cmpR op_eq (pe_ix ix_list (pe_fld (pv 0) rfl) (pv 1) (fun _ _ => rfl)) (pv 2) (nomark _))), ?_⟩
    refine ⟨_, rfl, R.ta i, CT, dx, _, _, rfl, ht, T.clT, T.nT_marks, rfl, _, rfl, R.ma i, _, _, iv (mk a i k), rfl, rfl, SqL.of (rep.marks i hi), atI_nat (by rw [List.getElem?_map, mk_get rep.good hi hk]; rfl), _, rfl, rfl, ?_⟩
    try dsimp only
    rw [eq_nat, ← has_eq rep.good hi hk]
    exact q H (Same.refl H)
theorem sc_has_any : FnScope ["tyre", "marks", "mark"] ["tyre", "marks"] (defScope s_has_any) := ⟨rfl, rfl, rfl, by decide +kernel, rfl, by decide +kernel, by decide +kernel⟩
theorem ok_has_any (T : Txt K mg CT CW fT fW) : Has P w K mg base 2 "has_any" ["tyre", "marks"] (spHasAny K CT CW) := T.d_has_any.has fun f fd F => by
  refine F.ok sc_has_any (fun vs H Q E h => ?_) (fun cdv A outer s H vs Q E hr h => ?_)
  · obtain ⟨h, R, a, i, l, ps, ms, rfl, _⟩ := h
    rfl
  · obtain ⟨h, R, a, i, l, ps, ms, rfl, rep, hi, hl, hm, h10, ok, q⟩ := h
    obtain ⟨z1, z2, z3, z4⟩ := Mks.zip hm
    refine ⟨_, pss_one (ps_ret (pe_callB (cr_any rfl) (by rfl) T.b_any (by rfl) (pa_cons (pe_lc (own := [("mark", 2)]) rfl sc_has_any.nd (PI.or (pi_list (pv 1)) (pi_tup (pv 1))) (blkOk_by (by show blkC ["tyre", "marks", "mark"] (defScope s_has_any) _ _ = true; decide +kernel)) (fun _ _ _ _ _ => pg_name (i := 2) sc_has_any.nd rfl (Or.inl rfl)) (fun _ _ _ _ _ => pts_nil)
      (fun _ _ _ _ _ => pe_callH (ok_has_mark T) hr (by rfl) (pa_cons (pv 0) (pa_cons (pe_ixT K (pv 2) pe_int) (pa_cons (pe_ixT K (pv 2) pe_int) pa_nil))))) pa_nil))), ?_⟩
    have he : ∀ x ∈ ps.zip ms, ∀ H', Same H H' → ∀ Qe : VK, (∀ H2, Same H' H2 → Qe (.bl (a.has i x.2)) H2) → spHasMark CT CW [tr R i, .int ((x.2.1 : Nat) : Int), .int ((x.2.2 : Nat) : Int)] H' Qe E0 := fun x hx H' s1 Qe hq => by
      have hm2 : x.2 ∈ ms := by rw [← z3]; exact List.mem_map.mpr ⟨x, hx, rfl⟩
      exact ⟨h, R, a, i, x.2.1, x.2.2, rfl, rep.same s1, hi, ok _ hm2, hq⟩
    have fin : ∀ (D : Addr) (H' : Hp), Same H H' → H' D = some (.lst (((ps.zip ms).filter fun _ => true).map fun x => V.bl (a.has i x.2))) → rAny K [V.ref D] H' Q := fun D H' s1 hD => by
      refine ⟨D, ms.map (a.has i), rfl, SqL.of ?_, ?_⟩
      · rw [hD, List.filter_eq_self.mpr (fun _ _ => rfl)]
        have e : (ps.zip ms).map (fun x => V.bl (a.has i x.2)) = ((ps.zip ms).map (·.2)).map (fun m => V.bl (a.has i m)) := by rw [List.map_map]; rfl
        rw [e, z3, List.map_map]; rfl
      · rw [List.any_map]
        exact q H' s1
    rcases hl with hl | hl
    · refine Or.inl ⟨_, rfl, l, rfl, ⟨_, hl⟩, fun D hD => ?_⟩
      rw [← z2] at hl
      refine lc_filter (ps.zip ms) (fun x => V.ref x.1) (fun _ => true) (fun x => V.bl (a.has i x.2)) hD hl (by rw [z4]; exact Nat.le_trans h10 (by decide)) (fun x hx H1 s1 Qt hq => hq H1 (Same.refl _)) (fun x hx _ H1 s1 Qe hq => ?_) (fun H' s1 hD' => fin D H' s1 hD')
      exact ⟨_, rfl, _, rfl, x.1, _, _, _, rfl, rfl, SqT.of ((z1 x hx).same s1), rfl, _, rfl, x.1, _, _, _, rfl, rfl, SqT.of ((z1 x hx).same s1), rfl, he x hx H1 s1 Qe hq⟩
    · refine Or.inr ⟨_, rfl, l, rfl, ⟨_, hl⟩, fun D hD => ?_⟩
      rw [← z2] at hl
      refine lc_filterT (ps.zip ms) (fun x => V.ref x.1) (fun _ => true) (fun x => V.bl (a.has i x.2)) hD hl (by rw [z4]; exact Nat.le_trans h10 (by decide)) (fun x hx H1 s1 Qt hq => hq H1 (Same.refl _)) (fun x hx _ H1 s1 Qe hq => ?_) (fun H' s1 hD' => fin D H' s1 hD')
      exact ⟨_, rfl, _, rfl, x.1, _, _, _, rfl, rfl, SqT.of ((z1 x hx).same s1), rfl, _, rfl, x.1, _, _, _, rfl, rfl, SqT.of ((z1 x hx).same s1), rfl, he x hx H1 s1 Qe hq⟩
theorem sc_is_recalled : FnScope ["house", "tyre"] ["house", "tyre"] (defScope s_is_recalled) := ⟨rfl, rfl, rfl, by decide +kernel, rfl, by decide +kernel, by decide +kernel⟩
theorem ok_is_recalled (T : Txt K mg CT CW fT fW) : Has P w K mg base 3 "is_recalled" ["house", "tyre"] (spIsRecalled CT CW) := T.d_is_recalled.has fun f fd F => by
  refine F.ok sc_is_recalled (fun vs H Q E h => ?_) (fun cdv A outer s H vs Q E hr h => ?_)
  · obtain ⟨h, R, a, i, rfl, _⟩ := h
    rfl
  · obtain ⟨h, R, a, i, rfl, rep, hi, q⟩ := h
    obtain ⟨dx, hh⟩ := rep.house
    obtain ⟨ps, hp, hm⟩ := rep.recd
    refine ⟨_, pss_one (ps_ret (pe_callH (ok_has_any T) hr (by rfl) (pa_cons (pv 1) (pa_cons (pe_fld (pv 0) rfl) pa_nil)))), ?_⟩
    exact ⟨_, rfl, _, rfl, h, CW, dx, _, _, rfl, hh, T.clW, T.nW_recalled, rfl, h, R, a, i, R.lr, ps, a.recalled, rfl, rep, hi, .inl (SqL.of hp), hm, rep.good.nRec, fun m hm => (rep.good.rok m hm).1, q⟩
theorem sc_tyres_with : FnScope ["house", "place", "value", "tyre"] ["house", "place", "value"] (defScope s_tyres_with) := ⟨rfl, rfl, rfl, by decide +kernel, rfl, by decide +kernel, by decide +kernel⟩
theorem ok_tyres_with (T : Txt K mg CT CW fT fW) : Has P w K mg base 2 "tyres_with" ["house", "place", "value"] (spTyresWith CT CW) := T.d_tyres_with.has fun f fd F => by
  refine F.ok sc_tyres_with (fun vs H Q E h => ?_) (fun cdv A outer s H vs Q E hr h => ?_)
  · obtain ⟨h, R, a, k, v, rfl, _⟩ := h
    rfl
  · obtain ⟨h, R, a, k, v, rfl, rep, hk, q⟩ := h
    obtain ⟨dx, hh⟩ := rep.house
    refine ⟨_, pss_one (ps_ret (pe_lc (own := [("tyre", 3)]) rfl sc_tyres_with.nd (pi_list (pe_fld (pv 0) rfl)) (blkOk_by (by show blkC ["house", "place", "value", "tyre"] (defScope s_tyres_with) _ _ = true; decide +kernel)) (fun _ _ _ _ _ => pg_name (i := 3) sc_tyres_with.nd rfl (Or.inl rfl))
      (fun _ _ _ _ _ => pts_one (pt_val (pe_callH (ok_has_mark T) hr (by rfl) (pa_cons (pv 3) (pa_cons (pv 1) (pa_cons (pv 2) pa_nil)))))) (fun _ _ _ _ _ => pv 3))), ?_⟩
    refine ⟨_, rfl, h, CW, dx, _, _, rfl, hh, T.clW, T.nW_tyres, rfl, R.lt, rfl, ⟨_, SqL.of rep.tyres⟩, fun D hD => ?_⟩
    refine lc_filter a.all (tr R) (fun i => a.has i (k, v)) (tr R) hD (SqL.of rep.tyres) rep.all_small (fun i hi H1 s1 Qt hq => ?_) (fun i hi _ H1 s1 Qe hq => ⟨_, rfl, hq H1 (Same.refl _)⟩) (fun H' s1 hD' => q H' D s1 hD hD')
    exact ⟨_, rfl, _, rfl, _, rfl, h, R, a, i, k, v, rfl, rep.same s1, mem_all.mp hi, hk, fun H' s2 => ⟨_, rfl, hq H' s2⟩⟩
theorem sc_count_at_stage : FnScope ["tyres", "stage", "tyre"] ["tyres", "stage"] (defScope s_count_at_stage) := ⟨rfl, rfl, rfl, by decide +kernel, rfl, by decide +kernel, by decide +kernel⟩
theorem ok_count_at_stage (T : Txt K mg CT CW fT fW) : Has P w K mg base 1 "count_at_stage" ["tyres", "stage"] (spCountAt CT CW) := T.d_count_at_stage.has fun f fd F => by
  refine F.ok sc_count_at_stage (fun vs H Q E h => ?_) (fun cdv A outer s H vs Q E hr h => ?_)
  · obtain ⟨h, R, a, l, is, st, rfl, _⟩ := h
    rfl
  · obtain ⟨h, R, a, l, is, st, rfl, rep, hl, hi, h60, q⟩ := h
    refine ⟨_, pss_one (ps_ret (pe_callB call_len_seq (by rfl) T.b_len PySem.boot_len (pa_cons (pe_lc (own := [("tyre", 2)]) rfl sc_count_at_stage.nd (pi_list (pv 0)) (blkOk_by (by show blkC ["tyres", "stage", "tyre"] (defScope s_count_at_stage) _ _ = true; decide +kernel)) (fun _ _ _ _ _ => pg_name (i := 2) sc_count_at_stage.nd rfl (Or.inl rfl))
      (fun _ _ _ _ _ => pts_one (pt_cmpR op_eq (pe_fldK K (pv 2)) (pv 1) (nomark _))) (fun _ _ _ _ _ => pv 2)) pa_nil))), ?_⟩
    refine ⟨_, rfl, l, rfl, ⟨_, SqL.of hl⟩, fun D hD => ?_⟩
    refine lc_filter is (tr R) (fun i => (a.tyre i).how == st) (tr R) hD (SqL.of hl) (sixty h60) (fun i him H1 s1 Qt hq => ?_) (fun i hi _ H1 s1 Qe hq => ⟨_, rfl, hq H1 (Same.refl _)⟩) (fun H' s1 hD' => ⟨D, _, rfl, .inl (SqL.of hD'), ?_⟩)
    · obtain ⟨dx, ht⟩ := rep.tyre i (hi i him)
      refine ⟨_, rfl, R.ta i, CT, dx, _, _, rfl, s1 _ _ ht, T.clT, T.nT_stage, rfl, _, rfl, rfl, _, rfl, ?_⟩
      try dsimp only
      rw [eq_nat]
      exact hq H1 (Same.refl _)
    · try dsimp only
      rw [List.length_map]
      exact q H' s1
theorem sc_claimed_tyres : FnScope ["house", "tyre"] ["house"] (defScope s_claimed_tyres) := ⟨rfl, rfl, rfl, by decide +kernel, rfl, by decide +kernel, by decide +kernel⟩
theorem ok_claimed_tyres (T : Txt K mg CT CW fT fW) : Has P w K mg base 1 "claimed_tyres" ["house"] (spClaimed CT CW) := T.d_claimed_tyres.has fun f fd F => by
  refine F.ok sc_claimed_tyres (fun vs H Q E h => ?_) (fun cdv A outer s H vs Q E hr h => ?_)
  · obtain ⟨h, R, a, rfl, _⟩ := h
    rfl
  · obtain ⟨h, R, a, rfl, rep, q⟩ := h
    obtain ⟨dx, hh⟩ := rep.house
    refine ⟨_, pss_one (ps_ret (pe_lc (own := [("tyre", 1)]) rfl sc_claimed_tyres.nd (pi_list (pe_fld (pv 0) rfl)) (blkOk_by (by show blkC ["house", "tyre"] (defScope s_claimed_tyres) _ _ = true; decide +kernel)) (fun _ _ _ _ _ => pg_name (i := 1) sc_claimed_tyres.nd rfl (Or.inl rfl))
      (fun _ _ _ _ _ => pts_one (pt_val (pe_fldK K (pv 1)))) (fun _ _ _ _ _ => pv 1))), ?_⟩
    refine ⟨_, rfl, h, CW, dx, _, _, rfl, hh, T.clW, T.nW_tyres, rfl, R.lt, rfl, ⟨_, SqL.of rep.tyres⟩, fun D hD => ?_⟩
    refine lc_filter a.all (tr R) (fun i => (a.tyre i).claimed) (tr R) hD (SqL.of rep.tyres) rep.all_small (fun i hi H1 s1 Qt hq => ?_) (fun i hi _ H1 s1 Qe hq => ⟨_, rfl, hq H1 (Same.refl _)⟩) (fun H' s1 hD' => q H' D s1 hD hD')
    obtain ⟨dt, ht⟩ := rep.tyre i (mem_all.mp hi)
    exact ⟨_, rfl, R.ta i, CT, dt, _, _, rfl, s1 _ _ ht, T.clT, T.nT_claimed, rfl, _, rfl, hq H1 (Same.refl _)⟩
theorem sc_was_sent : FnScope ["tyre"] ["tyre"] (defScope s_was_sent) := ⟨rfl, rfl, rfl, by decide +kernel, rfl, by decide +kernel, by decide +kernel⟩
theorem ok_was_sent (T : Txt K mg CT CW fT fW) : Has P w K mg base 1 "was_sent" ["tyre"] (spWasSent CT CW) := T.d_was_sent.has fun f fd F => by
  refine F.ok sc_was_sent (fun vs H Q E h => ?_) (fun cdv A outer s H vs Q E hr h => ?_)
  · obtain ⟨h, R, a, i, rfl, _⟩ := h
    rfl
  · obtain ⟨h, R, a, i, rfl, rep, hi, q⟩ := h
    obtain ⟨dt, ht⟩ := rep.tyre i hi
    refine ⟨_, pss_one (ps_ret (pe_cmpR op_ne (pe_fld (pv 0) rfl) (pgi T.c_IN_RACK (by rfl)) (nomark _))), ?_⟩
    refine ⟨_, rfl, R.ta i, CT, dt, _, _, rfl, ht, T.clT, T.nT_stage, rfl, rfl, ?_⟩
    have e : (!decide (iv (a.tyre i).how = V.int 0)) = ((a.tyre i).how != 0) := by
      rw [show V.int 0 = iv 0 from rfl, eq_nat]; rfl
    try dsimp only
    rw [e]
    exact q H (Same.refl H)
theorem sc_tyres_held : FnScope ["house", "stage", "holder", "tyre"] ["house", "stage", "holder"] (defScope s_tyres_held) := ⟨rfl, rfl, rfl, by decide +kernel, rfl, by decide +kernel, by decide +kernel⟩
theorem ok_tyres_held (T : Txt K mg CT CW fT fW) : Has P w K mg base 1 "tyres_held" ["house", "stage", "holder"] (spHeld CT CW) := T.d_tyres_held.has fun f fd F => by
  refine F.ok sc_tyres_held (fun vs H Q E h => ?_) (fun cdv A outer s H vs Q E hr h => ?_)
  · obtain ⟨h, R, a, st, ho, rfl, _⟩ := h
    rfl
  · obtain ⟨h, R, a, st, ho, rfl, rep, q⟩ := h
    obtain ⟨dx, hh⟩ := rep.house
    refine ⟨_, pss_one (ps_ret (pe_lc (own := [("tyre", 3)]) rfl sc_tyres_held.nd (pi_list (pe_fld (pv 0) rfl)) (blkOk_by (by show blkC ["house", "stage", "holder", "tyre"] (defScope s_tyres_held) _ _ = true; decide +kernel)) (fun _ _ _ _ _ => pg_name (i := 3) sc_tyres_held.nd rfl (Or.inl rfl))
      (fun _ _ _ _ _ => pts_one (pw_and (pt_cmpR op_eq (pe_fldK K (pv 3)) (pv 1) (nomark _)) (pw_and1 (pt_cmpR op_eq (pe_fldK K (pv 3)) (pv 2) (nomark _)))).pt) (fun _ _ _ _ _ => pv 3))), ?_⟩
    refine ⟨_, rfl, h, CW, dx, _, _, rfl, hh, T.clW, T.nW_tyres, rfl, R.lt, rfl, ⟨_, SqL.of rep.tyres⟩, fun D hD => ?_⟩
    refine lc_filter a.all (tr R) (fun i => (a.tyre i).how == st && (a.tyre i).place == ho) (tr R) hD (SqL.of rep.tyres) rep.all_small (fun i hi H1 s1 Qt hq => ?_) (fun i hi _ H1 s1 Qe hq => ⟨_, rfl, hq H1 (Same.refl _)⟩) (fun H' s1 hD' => q H' D s1 hD hD')
    obtain ⟨dt, ht⟩ := rep.tyre i (mem_all.mp hi)
    have hq1 := hq H1 (Same.refl _)
    refine ⟨_, rfl, R.ta i, CT, dt, _, _, rfl, s1 _ _ ht, T.clT, T.nT_stage, rfl, _, rfl, rfl, _, rfl, ?_⟩
    try dsimp only
    rw [eq_nat]
    refine ite2 (fun h1 => ⟨_, rfl, R.ta i, CT, dt, _, _, rfl, s1 _ _ ht, T.clT, T.nT_holder, rfl, _, rfl, rfl, _, rfl, ?_⟩) fun h1 => ?_
    · rw [eq_nat]
      have e : ((a.tyre i).how == st) = true := h1
      rw [e, Bool.true_and] at hq1
      exact hq1
    · have e : ((a.tyre i).how == st) = false := Bool.eq_false_iff.mpr h1
      rw [e, Bool.false_and] at hq1
      exact hq1
theorem sc_room_left : FnScope ["house", "rack_number"] ["house", "rack_number"] (defScope s_room_left) := ⟨rfl, rfl, rfl, by decide +kernel, rfl, by decide +kernel, by decide +kernel⟩
theorem ok_room_left (T : Txt K mg CT CW fT fW) : Has P w K mg base 2 "room_left" ["house", "rack_number"] (spRoom CT CW) := T.d_room_left.has fun f fd F => by
  refine F.ok sc_room_left (fun vs H Q E h => ?_) (fun cdv A outer s H vs Q E hr h => ?_)
  · obtain ⟨h, R, a, r, rfl, _⟩ := h
    rfl
  · obtain ⟨h, R, a, r, rfl, rep, hrr, q⟩ := h
    obtain ⟨dx, hh⟩ := rep.house
    refine ⟨_, pss_one (ps_ret (pe_op op_sub (pe_ix ix_list (pe_fld (pv 0) rfl) (pv 1) (fun _ _ => rfl)) (pe_callB call_len_seq (by rfl) T.b_len PySem.boot_len (pa_cons (pe_callH (ok_tyres_held T) hr (by rfl) (pa_cons (pv 0) (pa_cons (pgi T.c_IN_RACK (by rfl)) (pa_cons (pv 1) pa_nil)))) pa_nil)))), ?_⟩
    refine ⟨_, rfl, h, CW, dx, _, _, rfl, hh, T.clW, T.nW_sizes, rfl, _, rfl, R.ls, _, _, iv (a.racks.getD r 0), rfl, rfl, SqL.of rep.sizes, atI_nat (by rw [List.getElem?_map, List.getD_eq_getElem?_getD, List.getElem?_eq_getElem hrr]; rfl), _, rfl, _, rfl, h, R, a, 0, r, rfl, rep, fun H' p s1 n1 hp => ?_⟩
    refine ⟨p, _, rfl, .inl (SqL.of hp), _, _, rfl, rfl, ?_⟩
    try dsimp only
    rw [List.length_map]
    exact q H' s1
end
end Rt
end

section
set_option Elab.async false
set_option linter.all false
set_option maxRecDepth 100000
set_option maxHeartbeats 2000000
namespace Rt
open PySem PySem.Spec PyProof.Rows L2
open Su69 (Abs)

/-! ### marks as tuples -/
theorem lexLe_km {x y : Nat × Nat} (hx : OkM x) (hy : OkM y) (h : lexLe (km x) (km y)) : mkey x ≤ mkey y := by
  unfold lexLe km at h
  rw [List.map_cons, List.map_cons, List.map_nil, List.map_cons, List.map_cons, List.map_nil] at h
  obtain ⟨h1, h2⟩ := lex_false.mp h
  have h1 : ¬ ((y.1 : Nat) : Int) < ((x.1 : Nat) : Int) := of_decide_eq_false h1
  obtain ⟨_, b1⟩ := hx
  obtain ⟨_, b2⟩ := hy
  unfold mkey
  rcases h2 with h2 | h2
  · have h2 : ((x.1 : Nat) : Int) < ((y.1 : Nat) : Int) := of_decide_eq_true h2
    omega
  · obtain ⟨h3, _⟩ := lex_false.mp h2
    have h3 : ¬ ((y.2 : Nat) : Int) < ((x.2 : Nat) : Int) := of_decide_eq_false h3
    omega
theorem kms_of : ∀ {ks : List (List Int)} {C : Nat × Nat → Prop}, (∀ k ∈ ks, ∃ x, C x ∧ k = km x) → ∃ ms : List (Nat × Nat), ks = ms.map km ∧ ∀ x ∈ ms, C x
  | [], _, _ => ⟨[], rfl, fun x hx => by cases hx⟩
  | k :: ks, C, h => by
    obtain ⟨x, hx, rfl⟩ := h k (List.mem_cons_self ..)
    obtain ⟨ms, rfl, hm⟩ := kms_of (ks := ks) fun u hu => h u (List.mem_cons_of_mem _ hu)
    refine ⟨x :: ms, rfl, fun y hy => ?_⟩
    rcases List.mem_cons.mp hy with e | m
    · rw [e]; exact hx
    · exact hm y m
theorem km_inj {x y : Nat × Nat} (h : km x = km y) : x = y := by
  unfold km at h
  injection h with h1 h2
  injection h2 with h2 _
  exact Prod.ext (by omega) (by omega)
theorem five_each {α : Type} (f : Nat → Nat → α) : ∀ L : List Nat, (L.flatMap fun i => (List.range 5).map fun k => f i k).length = 5 * L.length
  | [] => rfl
  | i :: L => by
    rw [List.flatMap_cons, List.length_append, five_each f L, List.length_map, List.length_range, List.length_cons]; omega
/-- a walk over a range that makes tuples -/
theorem lc_rangeM {n : Nat} {i : Nat} {tt : TT} {te : TE} {σ : L2.St} {H1 : Hp} {D : Addr} {Qd : Hp → Prop} (p : Nat → Bool) (f : Nat → List Int) (hD : H1 D = none) (hz : n ≤ 60)
    (ht : ∀ k, k < n → ∀ H, Same H1 H → ∀ Qt : Bool → Hp → Prop, (∀ H', Same H H' → Qt (p k) H') → tt ((wipe σ [i]).set i (some (.int (0 + (k : Int))))) H Qt)
    (he : ∀ k, k < n → p k = true → ∀ H, Same H1 H → ∀ Qe : VK, (∀ t H', Same H H' → H t = none → H' t = some (.tup ((f k).map V.int)) → Qe (.ref t) H') → te ((wipe σ [i]).set i (some (.int (0 + (k : Int))))) H Qe)
    (hQ : ∀ H' qs, Same H1 H' → H' D = some (.lst (qs.map V.ref)) → Mks H' qs (((List.range n).filter p).map f) → Qd H') :
    ∃ W : Nat → Nat → Hp → Prop, (∃ m, W 0 m (upd H1 D (.lst []))) ∧ ∀ j m H, W j m H →
      ((Itr 0 n).stop j H ∧ Qd H) ∨ ((Itr 0 n).go j H ∧ ∃ Nx : Hp → Prop, (∀ H', Nx H' → ∃ m', m' < m ∧ W (j + 1) m' H') ∧ ∀ x H', (Itr 0 n).yld j H x H' → gName i x (wipe σ [i]) H' fun σ2 H2 => wipe σ2 [i] = wipe σ [i] ∧ tt σ2 H2 fun b H3 =>
        if b = true then te σ2 H3 fun y H4 => ∃ acc, H4 D = some (.lst acc) ∧ acc.length < sizeLine ∧ Nx (upd H4 D (.lst (acc ++ [y]))) else Nx H3) := by
  refine lc_range (n := n) (g := gName i) (fun j H => Same H1 H ∧ ∃ qs, H D = some (.lst (qs.map V.ref)) ∧ Mks H qs (((List.range j).filter p).map f)) ⟨Same.new hD, [], by rw [upd_same]; rfl, .nil⟩ ?_ ?_
  · rintro k H hk ⟨s1, qs, q, m⟩
    have rg : (List.range (k + 1)).filter p = (List.range k).filter p ++ (if p k = true then [k] else []) := by
      rw [List.range_succ, List.filter_append, List.filter_cons]; rfl
    refine ⟨wipe1, ht k hk H s1 _ fun H2 s2 => ?_⟩
    cases hp : p k with
    | false =>
      rw [if_neg Bool.false_ne_true]
      refine ⟨s1.trans s2, qs, s2 _ _ q, ?_⟩
      rw [rg, hp, if_neg Bool.false_ne_true, List.append_nil]
      exact m.same s2
    | true =>
      rw [if_pos rfl]
      refine he k hk hp H2 (s1.trans s2) _ fun t H3 s3 nt ht3 => ⟨_, s3 _ _ (s2 _ _ q), ?_, ?_, qs ++ [t], ?_, ?_⟩
      · have := m.length
        rw [List.length_map] at this
        rw [List.length_map, this]
        refine Nat.lt_of_le_of_lt (List.length_filter_le ..) ?_
        rw [List.length_range, sizeLine_eq]; omega
      · intro b o e
        rw [upd_ne (ne_of_none e hD)]
        exact s3 _ _ (s2 _ _ (s1 _ _ e))
      · rw [upd_same, List.map_append]; rfl
      · have tD : ∀ {b : Addr} {k : List Int}, MkAt H3 b k → MkAt (upd H3 D (.lst (qs.map V.ref ++ [.ref t]))) b k := fun {b k} e => by
          have : b ≠ D := ne_of e (s3 _ _ (s2 _ _ q)) (by intro z; cases z)
          unfold MkAt
          rw [upd_ne this]; exact e
        have tDs : ∀ {ps : List Addr} {ks : List (List Int)}, Mks H3 ps ks → Mks (upd H3 D (.lst (qs.map V.ref ++ [.ref t]))) ps ks := fun {ps ks} h => Paired.mapP h fun _ _ e => tD e
        rw [rg, hp, if_pos rfl, List.map_append]
        exact (tDs ((m.same s2).same s3)).append (.cons (tD ht3) .nil)
  · rintro H ⟨s1, qs, q, m⟩
    exact hQ H qs s1 q m
section
variable (K : PySem.W.Frag) (CT CW : Addr)
/-- a list of tyres is handed in -/
structure TL (H : Hp) (h : Addr) (R : RD) (a : Abs) (l : Addr) (is : List Nat) : Prop where
  rep : Rep CT CW H h R a
  lst : H l = some (.lst (is.map (tr R)))
  lt : ∀ i ∈ is, i < a.tyres.length
  few : is.length ≤ 60
/-- a new list of marks comes -/
def RetM (H : Hp) (Q : VK) (ms : List (Nat × Nat)) : Prop := ∀ H' p ps, Same H H' → H p = none → H' p = some (.lst (ps.map V.ref)) → Mks H' ps (ms.map km) → Q (.ref p) H'
def spMarksOf : Sp := fun vs H Q _ => ∃ h R a l is, vs = [.ref l] ∧ TL CT CW H h R a l is ∧ ∀ ms, ms.length ≤ 300 → ms.Pairwise (fun x y => mkey x ≤ mkey y) → (∀ x, x ∈ ms ↔ ∃ i ∈ is, a.has i x = true) → RetM H Q ms
def spHaveAll : Sp := fun vs H Q _ => ∃ h R a l is k v, vs = [.ref l, iv k, iv v] ∧ TL CT CW H h R a l is ∧ k < 5 ∧ Ret H Q (.bl (is.all fun j => a.has j (k, v)))
def spShared : Sp := fun vs H Q _ => ∃ h R a l is, vs = [.ref l] ∧ TL CT CW H h R a l is ∧ is ≠ [] ∧ RetM H Q (shared a is)
def spCommon : Sp := fun vs H Q _ => ∃ h R a, vs = [.ref h] ∧ Rep CT CW H h R a ∧ Fin CT CW H h R a (Su69.does a .common) Q
def spCountWith : Sp := fun vs H Q _ => ∃ h R a m x, vs = [.ref h, .ref m] ∧ Rep CT CW H h R a ∧ MkAt H m (km x) ∧ x.1 < 5 ∧ Ret H Q (iv (a.with_ x).length)
def spNarrow : Sp := fun vs H Q _ => ∃ h R a, vs = [.ref h] ∧ Rep CT CW H h R a ∧ Fin CT CW H h R a (Su69.does a .narrow) Q
end
theorem TL.same {CT CW : Addr} {H H' : Hp} {h : Addr} {R : RD} {a : Abs} {l : Addr} {is : List Nat} (t : TL CT CW H h R a l is) (s : Same H H') : TL CT CW H' h R a l is := ⟨t.rep.same s, s _ _ t.lst, t.lt, t.few⟩
section
variable {P : Program} {w : World} {K : PySem.W.Frag} {mg : Str → Option Value} {base : Heap} {CT CW fT fW : Addr}
theorem sc_marks_of : FnScope ["tyres", "marks", "tyre", "place"] ["tyres"] (defScope s_marks_of) := ⟨rfl, rfl, rfl, by decide +kernel, rfl, by decide +kernel, by decide +kernel⟩
theorem ok_marks_of (T : Txt K mg CT CW fT fW) : Has P w K mg base 1 "marks_of" ["tyres"] (spMarksOf CT CW) := T.d_marks_of.has fun f fd F => by
  refine F.ok sc_marks_of (fun vs H Q E h => ?_) (fun cdv A outer s H vs Q E hr h => ?_)
  · obtain ⟨h, R, a, l, is, rfl, _⟩ := h
    rfl
  · obtain ⟨h, R, a, l, is, rfl, tl, q⟩ := h
    have good := tl.rep.good
    refine ⟨_, (pss_cons (ps_set (i := 1) sc_marks_of.nd rfl (Or.inl rfl) (pe_lst pa_nil)) (pss_cons (ps_for PassesOwn.never rfl (pi_list (pv 0)) (pg_name (i := 2) sc_marks_of.nd rfl (Or.inr rfl)) (pss_one (ps_expr (pe_bm PySem.F.plainAttrs_list PySem.F.slot_list_extend PySem.F.type_list_extend mt_extend (pv 1) (pa_cons (pe_lc (own := [("place", 3)]) rfl sc_marks_of.nd (pi_range1 (by rfl) T.b_range (pa_cons (pgi T.c_PLACES (by rfl)) pa_nil)) (blkOk_by (by show blkC ["tyres", "marks", "tyre", "place"] (defScope s_marks_of) _ _ = true; decide +kernel)) (fun _ _ _ _ _ => pg_name (i := 3) sc_marks_of.nd rfl (Or.inl rfl)) (fun _ _ _ _ _ => pts_nil) (fun _ _ _ _ _ => (pe_tup (pa_cons (pv 3) (pa_cons (pe_ixL K (pe_fldK K (pv 2)) (pv 3)) pa_nil))))) pa_nil))))) (pss_one (ps_ret (pe_callB (cr_sortM rfl) (by rfl) T.b_sorted (by rfl) (pa_cons (pe_callTy (cr_setM rfl hr.units) (by rfl) T.b_set (by rfl) (pa_cons (pv 1) pa_nil)) pa_nil)))))), ?_⟩
    refine ⟨(by show 0 ≤ sizeLine; decide), fun lm hlm => ?_⟩
    refine ⟨_, rfl, l, rfl, ⟨_, SqL.of (Same.new hlm _ _ tl.lst)⟩, for_list (K := K) (a := l) (xs := is.map (tr R)) (fun j σ H' => ∃ (v : Option V) (ps : List Addr), σ = [some (.ref l), some (.ref lm), v, none] ∧ Same H H' ∧ H' lm = some (.lst (ps.map V.ref)) ∧ Mks H' ps (((is.take j).flatMap fun i => (List.range 5).map fun k => (k, mk a i k)).map km))
      ⟨none, [], rfl, Same.new hlm, upd_same, .nil⟩ (fun j σ H' _ ⟨_, _, _, s1, _⟩ => SqL.of (s1 _ _ tl.lst)) ?_ ?_⟩
    · rintro j x σ H1 hj ⟨v, ps, rfl, s1, hl1, hm1⟩
      rw [List.getElem?_map] at hj
      obtain ⟨i, hi, rfl⟩ := Option.map_eq_some_iff.mp hj
      have hiL := tl.lt i (List.mem_of_getElem? hi)
      have rep1 := tl.rep.same s1
      obtain ⟨dx, ht⟩ := rep1.tyre i hiL
      have tk : is.take (j + 1) = is.take j ++ [i] := by rw [List.take_succ, hi]; rfl
      refine ⟨_, rfl, .inl ⟨rfl, _, SqL.of hl1⟩, 5, rfl, by decide, by decide, fun D hD => ?_⟩
      refine lc_rangeM (n := 5) (fun _ => true) (fun k => [(k : Int), ((mk a i k : Nat) : Int)]) hD (by decide) (fun k hk H2 s2 Qt hq => hq H2 (Same.refl _)) (fun k hk _ H2 s2 Qe hq => ?_) (fun H2 qs s2 hD2 hm2 => ?_)
      · refine ⟨_, rfl, _, rfl, R.ta i, CT, dx, _, _, rfl, s2 _ _ ht, T.clT, T.nT_marks, rfl, _, rfl, R.ma i, _, _, iv (mk a i k), rfl, rfl, SqL.of (s2 _ _ (rep1.marks i hiL)), ?_, (by show 2 ≤ sizeLine; decide), fun t nt => ?_⟩
        · rw [Int.zero_add]
          exact atI_nat (by rw [List.getElem?_map, mk_get good hiL hk]; rfl)
        · refine hq t _ (Same.new nt) nt ?_
          rw [upd_same, Int.zero_add]; rfl
      · have lD : lm ≠ D := ne_of_none hl1 hD
        refine ⟨lm, D, _, _, rfl, rfl, s2 _ _ hl1, hD2, ?_, some (tr R i), ps ++ qs, rfl, ?_, ?_, ?_⟩
        · have e1 := hm1.length
          have e2 := hm2.length
          have e3 : ((is.take j).flatMap fun i => (List.range 5).map fun k => (k, mk a i k)).length ≤ 300 := by
            rw [five_each, List.length_take]
            have := tl.few
            omega
          rw [List.length_map] at e1
          rw [List.length_map] at e2
          have e4 : ((List.range 5).filter fun _ => true).length ≤ 5 := by decide
          rw [List.length_map, List.length_map, sizeLine_eq]
          omega
        · intro b o e
          rw [upd_ne (ne_of_none e hlm)]
          exact s2 _ _ (s1 _ _ e)
        · rw [upd_same, List.map_append]
        · have up : ∀ {b : Addr} {k : List Int}, MkAt H2 b k → MkAt (upd H2 lm (.lst (ps.map V.ref ++ qs.map V.ref))) b k := fun {b k} e => by
            have : b ≠ lm := ne_of e (s2 _ _ hl1) (by intro z; cases z)
            unfold MkAt
            rw [upd_ne this]; exact e
          have e5 : (((is.take (j + 1)).flatMap fun i => (List.range 5).map fun k => (k, mk a i k)).map km) = (((is.take j).flatMap fun i => (List.range 5).map fun k => (k, mk a i k)).map km) ++ (((List.range 5).filter fun _ => true).map fun (k : Nat) => [(k : Int), ((mk a i k : Nat) : Int)]) := by
            rw [tk, List.flatMap_append, List.map_append]
            rfl
          rw [e5]
          exact Mks.append (Paired.mapP (hm1.same s2) fun _ _ e => up e) (Paired.mapP hm2 fun _ _ e => up e)
    · rintro σ H1 ⟨v, ps, rfl, s1, hl1, hm1⟩
      rw [List.length_map, List.take_length] at hm1
      have hlen : ps.length ≤ 300 := by
        rw [hm1.length, List.length_map, five_each]
        have := tl.few
        omega
      have hmem : ∀ x : Nat × Nat, x ∈ (is.flatMap fun i => (List.range 5).map fun k => (k, mk a i k)) ↔ ∃ i ∈ is, a.has i x = true := fun x => by
        rw [List.mem_flatMap]
        constructor
        · rintro ⟨i, hi, hx⟩
          obtain ⟨k, hk, rfl⟩ := List.mem_map.mp hx
          exact ⟨i, hi, (has_iff good (x := (k, mk a i k)) (tl.lt i hi) (List.mem_range.mp hk)).mpr rfl⟩
        · rintro ⟨i, hi, hx⟩
          have ok := has_ok good (tl.lt i hi) hx
          exact ⟨i, hi, List.mem_map.mpr ⟨x.1, List.mem_range.mpr ok.1, by rw [(has_iff good (tl.lt i hi) ok.1).mp hx]⟩⟩
      refine ⟨_, rfl, lm, ps, _, rfl, SqL.of hl1, hm1, hlen, fun S ps' ks' hS hm' hk' h300 => ?_⟩
      refine ⟨S, ps', ks', rfl, upd_same, hm'.same (Same.new hS), fun k hk => ?_, fun l2 ps2 ks2 hl2 hm2 hperm hpw => ?_⟩
      · obtain ⟨x, _, rfl⟩ := List.mem_map.mp ((hk' k).mp hk)
        exact fun z => by cases z
      · obtain ⟨ms, rfl, hC⟩ := kms_of (ks := ks2) (C := fun x => ∃ i ∈ is, a.has i x = true) fun k hk => by
          obtain ⟨x, hx, rfl⟩ := List.mem_map.mp ((hk' k).mp (hperm.mem_iff.mp hk))
          exact ⟨x, (hmem x).mp hx, rfl⟩
        have okm : ∀ x ∈ ms, OkM x := fun x hx => by
          obtain ⟨i, hi, h⟩ := hC x hx
          exact has_ok good (tl.lt i hi) h
        refine q ms ?_ ?_ (fun x => ⟨hC x, fun hx => ?_⟩) _ l2 ps2 ((s1.trans (Same.new hS)).trans (Same.new hl2)) (s1.free ((Same.new hS).free hl2)) upd_same (hm2.same (Same.new hl2))
        · have e1 := hperm.length_eq
          have e2 := hm'.length
          rw [List.length_map] at e1
          omega
        · rw [List.pairwise_map] at hpw
          exact List.Pairwise.imp_of_mem (fun {x y} hx hy h => lexLe_km (okm x hx) (okm y hy) h) hpw
        · have : km x ∈ ms.map km := hperm.mem_iff.mpr ((hk' _).mpr (List.mem_map.mpr ⟨x, (hmem x).mpr hx, rfl⟩))
          obtain ⟨y, hy, e⟩ := List.mem_map.mp this
          rw [← km_inj e]; exact hy
theorem sc_have_all : FnScope ["tyres", "place", "value", "tyre"] ["tyres", "place", "value"] (defScope s_have_all) := ⟨rfl, rfl, rfl, by decide +kernel, rfl, by decide +kernel, by decide +kernel⟩
theorem ok_have_all (T : Txt K mg CT CW fT fW) : Has P w K mg base 2 "have_all" ["tyres", "place", "value"] (spHaveAll CT CW) := T.d_have_all.has fun f fd F => by
  refine F.ok sc_have_all (fun vs H Q E h => ?_) (fun cdv A outer s H vs Q E hr h => ?_)
  · obtain ⟨h, R, a, l, is, k, v, rfl, _⟩ := h
    rfl
  · obtain ⟨h, R, a, l, is, k, v, rfl, tl, hk, q⟩ := h
    refine ⟨_, (pss_one (ps_ret (pe_callB (cr_all rfl) (by rfl) T.b_all (by rfl) (pa_cons (pe_lc (own := [("tyre", 3)]) rfl sc_have_all.nd (pi_list (pv 0)) (blkOk_by (by show blkC ["tyres", "place", "value", "tyre"] (defScope s_have_all) _ _ = true; decide +kernel)) (fun _ _ _ _ _ => pg_name (i := 3) sc_have_all.nd rfl (Or.inl rfl)) (fun _ _ _ _ _ => pts_nil) (fun _ _ _ _ _ => (pe_callH (ok_has_mark T) hr (by rfl) (pa_cons (pv 3) (pa_cons (pv 1) (pa_cons (pv 2) pa_nil)))))) pa_nil)))), ?_⟩
    refine ⟨_, rfl, l, rfl, ⟨_, SqL.of tl.lst⟩, fun D hD => ?_⟩
    refine lc_filter is (tr R) (fun _ => true) (fun i => .bl (a.has i (k, v))) hD (SqL.of tl.lst) (sixty tl.few) (fun i hi H1 s1 Qt hq => hq H1 (Same.refl _)) (fun i hi _ H1 s1 Qe hq => ?_) (fun H' s1 hD' => ?_)
    · exact ⟨_, rfl, _, rfl, _, rfl, h, R, a, i, k, v, rfl, tl.rep.same s1, tl.lt i hi, hk, hq⟩
    · refine ⟨D, is.map fun i => a.has i (k, v), rfl, SqL.of ?_, ?_⟩
      · rw [hD', List.filter_eq_self.mpr (fun _ _ => rfl), List.map_map]; rfl
      · rw [List.all_map]
        exact q H' s1
theorem sc_shared_marks : FnScope ["tyres", "values", "place"] ["tyres"] (defScope s_shared_marks) := ⟨rfl, rfl, rfl, by decide +kernel, rfl, by decide +kernel, by decide +kernel⟩
theorem ok_shared_marks (T : Txt K mg CT CW fT fW) : Has P w K mg base 3 "shared_marks" ["tyres"] (spShared CT CW) := T.d_shared_marks.has fun f fd F => by
  refine F.ok sc_shared_marks (fun vs H Q E h => ?_) (fun cdv A outer s H vs Q E hr h => ?_)
  · obtain ⟨h, R, a, l, is, rfl, _⟩ := h
    rfl
  · obtain ⟨h, R, a, l, is, rfl, tl, ne, q⟩ := h
    have good := tl.rep.good
    refine ⟨_, (pss_cons (ps_set (i := 1) sc_shared_marks.nd rfl (Or.inr rfl) (pe_fld (pe_ix ix_list (pv 0) pe_int (fun _ _ => rfl)) rfl)) (pss_one (ps_ret (pe_lc (own := [("place", 2)]) rfl sc_shared_marks.nd (pi_range1 (by rfl) T.b_range (pa_cons (pgi T.c_PLACES (by rfl)) pa_nil)) (blkOk_by (by show blkC ["tyres", "values", "place"] (defScope s_shared_marks) _ _ = true; decide +kernel)) (fun _ _ _ _ _ => pg_name (i := 2) sc_shared_marks.nd rfl (Or.inl rfl)) (fun _ _ _ _ _ => pts_one (pt_val (pe_callH (ok_have_all T) hr (by rfl) (pa_cons (pv 0) (pa_cons (pv 2) (pa_cons (pe_ixL K (pv 1) (pv 2)) pa_nil)))))) (fun _ _ _ _ _ => (pe_tup (pa_cons (pv 2) (pa_cons (pe_ixL K (pv 1) (pv 2)) pa_nil)))))))), ?_⟩
    obtain ⟨i0, is', rfl⟩ : ∃ i0 is', is = i0 :: is' := by
      cases is with
      | nil => exact absurd rfl ne
      | cons x r => exact ⟨x, r, rfl⟩
    have h0 := tl.lt i0 (List.mem_cons_self ..)
    obtain ⟨dx, ht⟩ := tl.rep.tyre i0 h0
    have hmk := tl.rep.marks i0 h0
    have ix : ∀ (k : Nat), k < 5 → atI ((a.tyre i0).marks.map iv) (0 + (k : Int)) = some (iv (mk a i0 k)) := fun k hk => by
      rw [Int.zero_add]
      exact atI_nat (by rw [List.getElem?_map, mk_get good h0 hk]; rfl)
    refine ⟨_, rfl, l, _, _, tr R i0, rfl, rfl, SqL.of tl.lst, at_of (j := 0) rfl rfl, R.ta i0, CT, dx, _, _, rfl, ht, T.clT, T.nT_marks, rfl, 5, rfl, by decide, by decide, fun D hD => ?_⟩
    refine lc_rangeM (n := 5) (fun k => (i0 :: is').all fun j => a.has j (k, mk a i0 k)) (fun k => [(k : Int), ((mk a i0 k : Nat) : Int)]) hD (by decide) (fun k hk H2 s2 Qt hq => ?_) (fun k hk _ H2 s2 Qe hq => ?_) (fun H2 qs s2 hD2 hm2 => ?_)
    · exact ⟨_, rfl, _, rfl, _, rfl, _, rfl, R.ma i0, _, _, iv (mk a i0 k), rfl, rfl, SqL.of (s2 _ _ hmk), ix k hk, h, R, a, l, i0 :: is', k, mk a i0 k, by rw [Int.zero_add]; rfl, tl.same s2, hk, fun H' s3 => ⟨_, rfl, hq H' s3⟩⟩
    · refine ⟨_, rfl, _, rfl, _, rfl, R.ma i0, _, _, iv (mk a i0 k), rfl, rfl, SqL.of (s2 _ _ hmk), ix k hk, (by show 2 ≤ sizeLine; decide), fun t nt => hq t _ (Same.new nt) nt ?_⟩
      rw [upd_same, Int.zero_add]; rfl
    · refine q H2 D qs s2 hD hD2 ?_
      unfold shared
      rw [List.map_map]
      exact hm2
end
end Rt
end

section
set_option Elab.async false
set_option linter.all false
set_option maxRecDepth 100000
set_option maxHeartbeats 2000000
namespace Rt
open PySem PySem.Spec PyProof.Rows L2
open Su69 (Abs)

theorem int_nat0 {n : Nat} : decide (V.int (n : Int) = V.int 0) = true ↔ n = 0 := by
  rw [show V.int 0 = iv 0 from rfl, eq_nat]; simp
theorem Fin.ref1 {CT CW : Addr} {H H1 : Hp} {h : Addr} {R : RD} {a : Abs} {x : Abs × Su69.Ans} {v : Int} {Q : VK} (f : Fin CT CW H h R a x Q) (r : Rep CT CW H h R a) (e : x = (a, Su69.no v)) (s : Same H H1) {l : Addr} (hl : H1 l = none) : Q (.ref l) (upd H1 l (.lst [.int v])) :=
  f.read r (by rw [e]) (s.trans (Same.new hl)) (s.free hl) upd_same (by rw [e]; rfl)
theorem Rep.tl {CT CW : Addr} {H : Hp} {h : Addr} {R : RD} {a : Abs} (r : Rep CT CW H h R a) {l : Addr} {is : List Nat} (hl : H l = some (.lst (is.map (tr R)))) (hs : is.Sublist a.all) : TL CT CW H h R a l is :=
  ⟨r, hl, fun i hi => mem_all.mp (hs.mem hi), by have := hs.length_le; rw [all_len] at this; exact Nat.le_trans this r.good.nT⟩
theorem claims_sub (a : Abs) : a.claims.Sublist a.all := List.filter_sublist
def PairAt (H : Hp) (q : Addr) (p : (Nat × Nat) × (Nat × Nat)) : Prop := ∃ m1 m2, H q = some (.tup [.ref m1, .ref m2]) ∧ MkAt H m1 (km p.1) ∧ MkAt H m2 (km p.2)
theorem PairAt.same {H H' : Hp} {q : Addr} {p : (Nat × Nat) × (Nat × Nat)} (x : PairAt H q p) (s : Same H H') : PairAt H' q p := let ⟨m1, m2, a, b, c⟩ := x; ⟨m1, m2, s _ _ a, b.same s, c.same s⟩
theorem PairAt.upd {H : Hp} {q l : Addr} {p : (Nat × Nat) × (Nat × Nat)} {xs ys : List V} (x : PairAt H q p) (hl : H l = some (.lst xs)) : PairAt (upd H l (.lst ys)) q p := by
  obtain ⟨m1, m2, a, b, c⟩ := x
  refine ⟨m1, m2, ?_, ?_, ?_⟩
  · rw [upd_ne (ne_of a hl (by intro z; cases z))]; exact a
  · unfold MkAt; rw [upd_ne (ne_of b hl (by intro z; cases z))]; exact b
  · unfold MkAt; rw [upd_ne (ne_of c hl (by intro z; cases z))]; exact c
abbrev Prs (H : Hp) : List Addr → List ((Nat × Nat) × (Nat × Nat)) → Prop := Paired (PairAt H)
theorem paired_get {α β : Type} {F : α → β → Prop} : ∀ {xs : List α} {ys : List β} {i : Nat} {x : α}, Paired F xs ys → xs[i]? = some x → ∃ y, ys[i]? = some y ∧ F x y
  | _, _, _, _, .nil, e => by simp at e
  | _, _, 0, _, .cons a r, e => by simp at e; subst e; exact ⟨_, rfl, a⟩
  | _, _, i + 1, _, .cons a r, e => by
    obtain ⟨k, h1, h2⟩ := paired_get (i := i) r (by simpa using e)
    exact ⟨k, by simpa using h1, h2⟩
theorem paired_append {α β : Type} {F : α → β → Prop} : ∀ {xs xs' : List α} {ys ys' : List β}, Paired F xs ys → Paired F xs' ys' → Paired F (xs ++ xs') (ys ++ ys')
  | _, _, _, _, .nil, s => s
  | _, _, _, _, .cons a r, s => .cons a (paired_append r s)
theorem mkm_get {H : Hp} {ps : List Addr} {ms : List (Nat × Nat)} (h : Mks H ps (ms.map km)) {i : Nat} {p : Addr} (hp : ps[i]? = some p) : ∃ m, ms[i]? = some m ∧ MkAt H p (km m) := by
  obtain ⟨k, h1, h2⟩ := h.get hp
  rw [List.getElem?_map] at h1
  obtain ⟨m, e, rfl⟩ := Option.map_eq_some_iff.mp h1
  exact ⟨m, e, h2⟩
theorem mkm_at {H : Hp} {ps : List Addr} {ms : List (Nat × Nat)} (h : Mks H ps (ms.map km)) {i : Nat} {m : Nat × Nat} (hm : ms[i]? = some m) : ∃ p, ps[i]? = some p ∧ MkAt H p (km m) := by
  have hl := h.length
  rw [List.length_map] at hl
  have hi := (List.getElem?_eq_some_iff.mp hm).1
  obtain ⟨m', e1, e2⟩ := mkm_get h (i := i) (p := ps[i]'(by omega)) (List.getElem?_eq_getElem (by omega))
  rw [hm] at e1
  cases e1
  exact ⟨_, List.getElem?_eq_getElem (by omega), e2⟩
theorem foldl_snoc {α β : Type} (g : β → α → β) (b : β) (l : List α) (x : α) : (l ++ [x]).foldl g b = g (l.foldl g b) x := by rw [List.foldl_append]; rfl
theorem shared_len (a : Abs) (l : List Nat) : (shared a l).length ≤ 5 := by
  unfold shared
  rw [List.length_map]
  exact Nat.le_trans (List.length_filter_le ..) (by rw [List.length_range]; exact Nat.le_refl _)
theorem seconds_len (a : Abs) (x : Nat × Nat) : (seconds a x).length ≤ 5 := by
  unfold seconds
  split
  · exact Nat.le_trans (Nat.le_refl 1) (by decide)
  · exact shared_len ..
theorem ppairs_len (a : Abs) : ∀ ms : List (Nat × Nat), (ppairs a ms).length ≤ 5 * ms.length
  | [] => Nat.le_refl _
  | m :: ms => by
    have := ppairs_len a ms
    have h2 := seconds_len a m
    show ((seconds a m).map (fun y => (m, y)) ++ ppairs a ms).length ≤ _
    rw [List.length_append, List.length_map, List.length_cons]; omega
/-- a walk over a list that makes tuples -/
theorem lc_tups {α : Type} {K : PySem.W.Frag} {a : Addr} (L : List α) (g : α → V) {i : Nat} {tt : TT} {te : TE} {σ : L2.St} {H1 : Hp} {D : Addr} {Qd : Hp → Prop} (c : α → List V) (hD : H1 D = none) (hx : SqL K H1 a (L.map g)) (hz : L.length < sizeLine)
    (ht : ∀ x ∈ L, ∀ H, Same H1 H → ∀ Qt : Bool → Hp → Prop, (∀ H', Same H H' → Qt true H') → tt ((wipe σ [i]).set i (some (g x))) H Qt)
    (he : ∀ x ∈ L, ∀ H, Same H1 H → ∀ Qe : VK, (∀ t H', Same H H' → H t = none → H' t = some (.tup (c x)) → Qe (.ref t) H') → te ((wipe σ [i]).set i (some (g x))) H Qe)
    (hQ : ∀ H' qs, Same H1 H' → H' D = some (.lst (qs.map V.ref)) → Paired (fun q x => H' q = some (.tup (c x))) qs L → Qd H') :
    ∃ W : Nat → Nat → Hp → Prop, (∃ m, W 0 m (upd H1 D (.lst []))) ∧ ∀ j m H, W j m H →
      ((Itl K a).stop j H ∧ Qd H) ∨ ((Itl K a).go j H ∧ ∃ Nx : Hp → Prop, (∀ H', Nx H' → ∃ m', m' < m ∧ W (j + 1) m' H') ∧ ∀ x H', (Itl K a).yld j H x H' → gName i x (wipe σ [i]) H' fun σ2 H2 => wipe σ2 [i] = wipe σ [i] ∧ tt σ2 H2 fun b H3 =>
        if b = true then te σ2 H3 fun y H4 => ∃ acc, H4 D = some (.lst acc) ∧ acc.length < sizeLine ∧ Nx (upd H4 D (.lst (acc ++ [y]))) else Nx H3) := by
  refine lc_list (K := K) (a := a) (xs := L.map g) (g := gName i) (fun j H => Same H1 H ∧ ∃ qs, H D = some (.lst (qs.map V.ref)) ∧ Paired (fun q x => H q = some (.tup (c x))) qs (L.take j)) ⟨Same.new hD, [], by rw [upd_same]; rfl, .nil⟩ (fun j H _ q => q.1.seq hx) ?_ ?_
  · rintro j x H hj ⟨s1, qs, q, m⟩
    rw [List.getElem?_map] at hj
    obtain ⟨y, hy, rfl⟩ := Option.map_eq_some_iff.mp hj
    have hm : y ∈ L := List.mem_of_getElem? hy
    have tk : L.take (j + 1) = L.take j ++ [y] := by rw [List.take_succ, hy]; rfl
    refine ⟨wipe1, ht y hm H s1 _ fun H2 s2 => ?_⟩
    rw [if_pos rfl]
    refine he y hm H2 (s1.trans s2) _ fun t H3 s3 nt ht3 => ⟨_, s3 _ _ (s2 _ _ q), ?_, ?_, qs ++ [t], ?_, ?_⟩
    · have := Paired.length m
      rw [List.length_take] at this
      rw [List.length_map, this]; omega
    · intro b o e
      rw [upd_ne (ne_of_none e hD)]
      exact s3 _ _ (s2 _ _ (s1 _ _ e))
    · rw [upd_same, List.map_append]; rfl
    · have tD : ∀ {b : Addr} {k : List V}, H3 b = some (.tup k) → (upd H3 D (.lst (qs.map V.ref ++ [.ref t]))) b = some (.tup k) := fun {b k} e => by
        rw [upd_ne (ne_of e (s3 _ _ (s2 _ _ q)) (by intro z; cases z))]; exact e
      rw [tk]
      exact paired_append (Paired.mapP m fun _ _ e => tD (s3 _ _ (s2 _ _ e))) (.cons (tD ht3) .nil)
  · rintro H ⟨s1, qs, q, m⟩
    rw [List.length_map, List.take_length] at m
    exact hQ H qs s1 q m
theorem prs_of {H : Hp} {p : Addr} {m : Nat × Nat} (hp : MkAt H p (km m)) : ∀ {qs : List Addr} {L : List (Addr × (Nat × Nat))}, (∀ x ∈ L, MkAt H x.1 (km x.2)) → Paired (fun q (x : Addr × (Nat × Nat)) => H q = some (.tup [.ref p, .ref x.1])) qs L → Prs H qs (L.map fun x => (m, x.2))
  | _, _, _, .nil => .nil
  | _, _, h, .cons a r => .cons ⟨p, _, a, hp, h _ (List.mem_cons_self ..)⟩ (prs_of hp (fun x hx => h x (List.mem_cons_of_mem _ hx)) r)
section
variable (K : PySem.W.Frag) (CT CW : Addr)
def spSecond : Sp := fun vs H Q _ => ∃ h R a l m x, vs = [.ref l, .ref m] ∧ TL CT CW H h R a l a.claims ∧ MkAt H m (km x) ∧ x.1 < 5 ∧ RetM H Q (seconds a x)
def spPairs : Sp := fun vs H Q _ => ∃ h R a l, vs = [.ref l] ∧ TL CT CW H h R a l a.claims ∧ ∀ ms H' p qs, ms.Pairwise (fun x y => mkey x ≤ mkey y) → (∀ x, x ∈ ms ↔ ∃ i ∈ a.claims, a.has i x = true) → Same H H' → H p = none → H' p = some (.lst (qs.map V.ref)) → Prs H' qs (ppairs a ms) → Q (.ref p) H'
def spEither : Sp := fun vs H Q _ => ∃ h R a q p, vs = [.ref h, .ref q] ∧ Rep CT CW H h R a ∧ PairAt H q p ∧ p.1.1 < 5 ∧ p.2.1 < 5 ∧ Ret H Q (iv (a.either p.1 p.2).length)
def spTwo : Sp := fun vs H Q _ => ∃ h R a, vs = [.ref h] ∧ Rep CT CW H h R a ∧ Fin CT CW H h R a (Su69.does a .two) Q
end
section
variable {P : Program} {w : World} {K : PySem.W.Frag} {mg : Str → Option Value} {base : Heap} {CT CW fT fW : Addr}
theorem sc_common_marks : FnScope ["house", "claimed", "shared", "told", "mark"] ["house"] (defScope s_common_marks) := ⟨rfl, rfl, rfl, by decide +kernel, rfl, by decide +kernel, by decide +kernel⟩
theorem ok_common_marks (T : Txt K mg CT CW fT fW) : Has P w K mg base 4 "common_marks" ["house"] (spCommon CT CW) := T.d_common_marks.has fun f fd F => by
  refine F.ok sc_common_marks (fun vs H Q E h => ?_) (fun cdv A outer s H vs Q E hr h => ?_)
  · obtain ⟨h, R, a, rfl, _⟩ := h
    rfl
  · obtain ⟨h, R, a, rfl, rep, q⟩ := h
    refine ⟨_, (pss_cons (ps_set (i := 1) sc_common_marks.nd rfl (Or.inl rfl) (pe_callH (ok_claimed_tyres T) (hr.mono (by decide)) (by rfl) (pa_cons (pv 0) pa_nil))) (pss_cons (ps_if (pt_cmpR op_eq (pe_callB call_len_seq (by rfl) T.b_len PySem.boot_len (pa_cons (pv 1) pa_nil)) pe_int (nomark _)) (pss_one (ps_ret (pe_lst (pa_cons (pgi T.c_NONE_THERE (by rfl)) pa_nil)))) pss_nil) (pss_cons (ps_set (i := 2) sc_common_marks.nd rfl (Or.inl rfl) (pe_callH (ok_shared_marks T) hr (by rfl) (pa_cons (pv 1) pa_nil))) (pss_cons (ps_set (i := 3) sc_common_marks.nd rfl (Or.inl rfl) (pe_lst (pa_cons (pe_callB call_len_seq (by rfl) T.b_len PySem.boot_len (pa_cons (pv 2) pa_nil)) pa_nil))) (pss_cons (ps_for PassesOwn.never rfl (pi_list (pv 2)) (pg_name (i := 4) sc_common_marks.nd rfl (Or.inl rfl)) (pss_one (ps_expr (pe_bm PySem.F.plainAttrs_list PySem.F.slot_list_extend PySem.F.type_list_extend mt_extend (pv 3) (pa_cons (pe_lst (pa_cons (pe_ix ix_tup (pv 4) pe_int (fun _ _ => rfl)) (pa_cons (pe_ix ix_tup (pv 4) pe_int (fun _ _ => rfl)) pa_nil))) pa_nil))))) (pss_one (ps_ret (pv 3)))))))), ?_⟩
    refine ⟨_, rfl, h, R, a, rfl, rep, fun H1 lc s1 n1 hlc => ?_⟩
    have rep1 := rep.same s1
    refine ⟨_, rfl, lc, _, rfl, .inl (SqL.of hlc), rfl, _, rfl, ?_⟩
    rw [List.length_map]
    refine ite2 (fun h0 => ⟨(by show 1 ≤ sizeLine; decide), fun l hl => ?_⟩) fun h0 => ?_
    · have e : a.claims = [] := List.length_eq_zero_iff.mp (int_nat0.mp h0)
      exact q.ref1 rep (by show (if a.claims = [] then _ else _) = _; rw [if_pos e]) s1 hl
    · have ne : a.claims ≠ [] := fun z => h0 (int_nat0.mpr (by rw [z]; rfl))
      refine ⟨_, rfl, h, R, a, lc, a.claims, rfl, rep1.tl hlc (claims_sub a), ne, fun H2 ls ps s2 n2 hls hms => ?_⟩
      have s02 := s1.trans s2
      refine ⟨_, rfl, ls, _, rfl, .inl (SqL.of hls), (by show 1 ≤ sizeLine; decide), fun lt hlt => ?_⟩
      have hsh := hms.length
      rw [List.length_map] at hsh
      have few : (shared a a.claims).length ≤ 5 := by
        unfold shared
        rw [List.length_map]
        exact Nat.le_trans (List.length_filter_le ..) (by rw [List.length_range]; exact Nat.le_refl _)
      refine ⟨_, rfl, ls, rfl, ⟨_, SqL.of (Same.new hlt _ _ hls)⟩, for_list (K := K) (a := ls) (xs := ps.map V.ref) (fun j σ H' => ∃ v : Option V, σ = [some (.ref h), some (.ref lc), some (.ref ls), some (.ref lt), v] ∧ Same H2 H' ∧ H' lt = some (.lst (iv (shared a a.claims).length :: ((shared a a.claims).take j).flatMap fun x => [iv x.1, iv x.2])))
        ⟨none, rfl, Same.new hlt, by rw [upd_same, List.length_map, hsh]; rfl⟩ (fun j σ H' _ ⟨_, _, s3, _⟩ => SqL.of (s3 _ _ hls)) ?_ ?_⟩
      · rintro j x σ H3 hj ⟨v, rfl, s3, hl3⟩
        rw [List.getElem?_map] at hj
        obtain ⟨p, hp, rfl⟩ := Option.map_eq_some_iff.mp hj
        obtain ⟨m, em, hm⟩ := mkm_get hms hp
        have hm3 := hm.same s3
        have tk : (shared a a.claims).take (j + 1) = (shared a a.claims).take j ++ [m] := by rw [List.take_succ, em]; rfl
        refine ⟨_, rfl, .inl ⟨rfl, _, SqL.of hl3⟩, _, rfl, p, _, _, _, rfl, rfl, SqT.of hm3, rfl, _, rfl, p, _, _, _, rfl, rfl, SqT.of hm3, rfl, (by show 2 ≤ sizeLine; decide), fun b hb => ?_⟩
        have nb : lt ≠ b := ne_of_none hl3 hb
        refine ⟨lt, b, _, _, rfl, rfl, by rw [upd_ne nb]; exact hl3, upd_same, ?_, some (.ref p), rfl, ?_, ?_⟩
        · have e5 : ∀ L : List (Nat × Nat), (L.flatMap fun x => [iv x.1, iv x.2]).length = 2 * L.length := fun L => by
            induction L with
            | nil => rfl
            | cons x r ih => rw [List.flatMap_cons, List.length_append, ih, List.length_cons]; simp; omega
          rw [List.length_cons, e5, List.length_take, sizeLine_eq]
          have h2 : min j (shared a a.claims).length ≤ 5 := Nat.le_trans (Nat.min_le_right ..) few
          simp only [List.length_cons, List.length_nil]
          omega
        · intro b' o e
          rw [upd_ne (ne_of_none e hlt), upd_ne (ne_of_none (s3 _ _ e) hb)]
          exact s3 _ _ e
        · rw [upd_same, tk, List.flatMap_append]
          rfl
      · rintro σ H3 ⟨v, rfl, s3, hl3⟩
        rw [List.length_map, show ps.length = (shared a a.claims).length from hsh, List.take_length] at hl3
        refine ⟨_, rfl, ?_⟩
        have ed : Su69.does a .common = (a, Su69.num a.common.length (a.common.flatMap fun x => [x.1, x.2])) := by
          show (if a.claims = [] then _ else _) = _
          rw [if_neg ne]
        refine q.read rep (by rw [ed]) (s02.trans s3) (s02.free hlt) hl3 ?_
        rw [ed, common_shared rep.good ne]
        show _ = V.int _ :: (Su69Neutral.outs ((shared a a.claims).flatMap fun x => [x.1, x.2])).map V.int
        unfold Su69Neutral.outs
        rw [List.map_map, List.map_flatMap]
        rfl
theorem sc_count_with : FnScope ["house", "mark"] ["house", "mark"] (defScope s_count_with) := ⟨rfl, rfl, rfl, by decide +kernel, rfl, by decide +kernel, by decide +kernel⟩
theorem ok_count_with (T : Txt K mg CT CW fT fW) : Has P w K mg base 3 "count_with" ["house", "mark"] (spCountWith CT CW) := T.d_count_with.has fun f fd F => by
  refine F.ok sc_count_with (fun vs H Q E h => ?_) (fun cdv A outer s H vs Q E hr h => ?_)
  · obtain ⟨h, R, a, m, x, rfl, _⟩ := h
    rfl
  · obtain ⟨h, R, a, m, x, rfl, rep, hm, hk, q⟩ := h
    refine ⟨_, (pss_one (ps_ret (pe_callB call_len_seq (by rfl) T.b_len PySem.boot_len (pa_cons (pe_callH (ok_tyres_with T) hr (by rfl) (pa_cons (pv 0) (pa_cons (pe_ix ix_tup (pv 1) pe_int (fun _ _ => rfl)) (pa_cons (pe_ix ix_tup (pv 1) pe_int (fun _ _ => rfl)) pa_nil)))) pa_nil)))), ?_⟩
    refine ⟨_, rfl, _, rfl, m, _, _, _, rfl, rfl, SqT.of hm, rfl, _, rfl, m, _, _, _, rfl, rfl, SqT.of hm, rfl, h, R, a, x.1, x.2, rfl, rep, hk, fun H1 p s1 n1 hp => ⟨p, _, rfl, .inl (SqL.of hp), ?_⟩⟩
    rw [List.length_map]
    exact q H1 s1
theorem sc_narrowest_mark : FnScope ["house", "claimed", "shared", "best", "mark"] ["house"] (defScope s_narrowest_mark) := ⟨rfl, rfl, rfl, by decide +kernel, rfl, by decide +kernel, by decide +kernel⟩
theorem ok_narrowest_mark (T : Txt K mg CT CW fT fW) : Has P w K mg base 4 "narrowest_mark" ["house"] (spNarrow CT CW) := T.d_narrowest_mark.has fun f fd F => by
  refine F.ok sc_narrowest_mark (fun vs H Q E h => ?_) (fun cdv A outer s H vs Q E hr h => ?_)
  · obtain ⟨h, R, a, rfl, _⟩ := h
    rfl
  · obtain ⟨h, R, a, rfl, rep, q⟩ := h
    refine ⟨_, (pss_cons (ps_set (i := 1) sc_narrowest_mark.nd rfl (Or.inl rfl) (pe_callH (ok_claimed_tyres T) (hr.mono (by decide)) (by rfl) (pa_cons (pv 0) pa_nil))) (pss_cons (ps_if (pt_cmpR op_eq (pe_callB call_len_seq (by rfl) T.b_len PySem.boot_len (pa_cons (pv 1) pa_nil)) pe_int (nomark _)) (pss_one (ps_ret (pe_lst (pa_cons (pgi T.c_NONE_THERE (by rfl)) pa_nil)))) pss_nil) (pss_cons (ps_set (i := 2) sc_narrowest_mark.nd rfl (Or.inl rfl) (pe_callH (ok_shared_marks T) hr (by rfl) (pa_cons (pv 1) pa_nil))) (pss_cons (ps_if (pt_cmpR op_eq (pe_callB call_len_seq (by rfl) T.b_len PySem.boot_len (pa_cons (pv 2) pa_nil)) pe_int (nomark _)) (pss_one (ps_ret (pe_lst (pa_cons (pgi T.c_NONE_FITS (by rfl)) pa_nil)))) pss_nil) (pss_cons (ps_set (i := 3) sc_narrowest_mark.nd rfl (Or.inl rfl) (pe_ix ix_list (pv 2) pe_int (fun _ _ => rfl))) (pss_cons (ps_for PassesOwn.never rfl (pi_list (pv 2)) (pg_name (i := 4) sc_narrowest_mark.nd rfl (Or.inl rfl)) (pss_one (ps_if (pt_cmpR op_lt (pe_callH (ok_count_with T) hr (by rfl) (pa_cons (pv 0) (pa_cons (pv 4) pa_nil))) (pe_callH (ok_count_with T) hr (by rfl) (pa_cons (pv 0) (pa_cons (pv 3) pa_nil))) (nomark _)) (pss_one (ps_set (i := 3) sc_narrowest_mark.nd rfl (Or.inl rfl) (pv 4))) pss_nil))) (pss_one (ps_ret (pe_lst (pa_cons (pe_ix ix_tup (pv 3) pe_int (fun _ _ => rfl)) (pa_cons (pe_ix ix_tup (pv 3) pe_int (fun _ _ => rfl)) (pa_cons (pe_callH (ok_count_with T) hr (by rfl) (pa_cons (pv 0) (pa_cons (pv 3) pa_nil))) pa_nil)))))))))))), ?_⟩
    refine ⟨_, rfl, h, R, a, rfl, rep, fun H1 lc s1 n1 hlc => ?_⟩
    have rep1 := rep.same s1
    refine ⟨_, rfl, lc, _, rfl, .inl (SqL.of hlc), rfl, _, rfl, ?_⟩
    rw [List.length_map]
    refine ite2 (fun h0 => ⟨(by show 1 ≤ sizeLine; decide), fun l hl => ?_⟩) fun h0 => ?_
    · have e : a.claims = [] := List.length_eq_zero_iff.mp (int_nat0.mp h0)
      exact q.ref1 rep (by show (if a.claims = [] then _ else _) = _; rw [if_pos e]) s1 hl
    · have ne : a.claims ≠ [] := fun z => h0 (int_nat0.mpr (by rw [z]; rfl))
      refine ⟨_, rfl, h, R, a, lc, a.claims, rfl, rep1.tl hlc (claims_sub a), ne, fun H2 ls ps s2 n2 hls hms => ?_⟩
      have s02 := s1.trans s2
      have rep2 := rep.same s02
      have hsh := hms.length
      rw [List.length_map] at hsh
      have okS : ∀ x ∈ shared a a.claims, OkM x := fun x hx => by
        rw [← common_shared rep.good ne] at hx
        exact told_ok rep.good (List.mem_filter.mp hx).1
      have en : a.narrow = best (byF fun x => (a.with_ x).length) (shared a a.claims) := by
        unfold Su69.Abs.narrow
        rw [least_best, common_shared rep.good ne]
      have ed : Su69.does a .narrow = (match a.narrow with | none => (a, Su69.no (-33)) | some x => (a, Su69.num x.1 [x.2, (a.with_ x).length])) := by
        show (if a.claims = [] then _ else _) = _
        rw [if_neg ne]
        cases a.narrow <;> rfl
      refine ⟨_, rfl, ls, _, rfl, .inl (SqL.of hls), rfl, _, rfl, ?_⟩
      rw [List.length_map]
      refine ite2 (fun h1 => ⟨(by show 1 ≤ sizeLine; decide), fun l hl => ?_⟩) fun h1 => ?_
      · have e : shared a a.claims = [] := List.length_eq_zero_iff.mp (by rw [← hsh]; exact int_nat0.mp h1)
        exact q.ref1 rep (by rw [ed, en, e]; rfl) s02 hl
      · obtain ⟨b0, rs, ers⟩ : ∃ b0 rs, shared a a.claims = b0 :: rs := by
          cases e : shared a a.claims with
          | nil => exact absurd (int_nat0.mpr (by rw [hsh, e]; rfl)) h1
          | cons x r => exact ⟨x, r, rfl⟩
        obtain ⟨p0, hp0, hm0⟩ := mkm_at hms (i := 0) (m := b0) (by rw [ers]; rfl)
        refine ⟨_, rfl, ls, _, _, .ref p0, rfl, rfl, SqL.of hls, at_of (j := 0) rfl (by rw [List.getElem?_map, hp0]; rfl), ?_⟩
        refine ⟨_, rfl, ls, rfl, ⟨_, SqL.of hls⟩, for_list (K := K) (a := ls) (xs := ps.map V.ref) (fun j σ H' => ∃ (v : Option V) (pb : Addr) (b : Nat × Nat), σ = [some (.ref h), some (.ref lc), some (.ref ls), some (.ref pb), v] ∧ Same H2 H' ∧ MkAt H2 pb (km b) ∧ b ∈ shared a a.claims ∧ b = ((shared a a.claims).take j).foldl (fun b y => if byF (fun x => (a.with_ x).length) y b = true then y else b) b0)
          ⟨none, p0, b0, rfl, Same.refl _, hm0, by rw [ers]; exact List.mem_cons_self .., rfl⟩ (fun j σ H' _ ⟨_, _, _, _, s3, _⟩ => SqL.of (s3 _ _ hls)) ?_ ?_⟩
        · rintro j x σ H3 hj ⟨v, pb, b, rfl, s3, hb, hbS, eb⟩
          rw [List.getElem?_map] at hj
          obtain ⟨p, hp, rfl⟩ := Option.map_eq_some_iff.mp hj
          obtain ⟨m, em, hm⟩ := mkm_get hms hp
          have hmS := List.mem_of_getElem? em
          have tk : (shared a a.claims).take (j + 1) = (shared a a.claims).take j ++ [m] := by rw [List.take_succ, em]; rfl
          refine ⟨_, rfl, _, rfl, h, R, a, p, m, rfl, rep2.same s3, hm.same s3, (okS m hmS).1, fun H4 s4 => ⟨_, rfl, _, rfl, h, R, a, pb, b, rfl, (rep2.same s3).same s4, (hb.same s3).same s4, (okS b hbS).1, fun H5 s5 => ⟨_, _, rfl, rfl, _, rfl, ?_⟩⟩⟩
          rw [lt_nat]
          refine ite2 (fun hlt => ⟨_, rfl, some (.ref p), p, m, rfl, (s3.trans s4).trans s5, hm, hmS, ?_⟩) fun hlt => ⟨some (.ref p), pb, b, rfl, (s3.trans s4).trans s5, hb, hbS, ?_⟩
          · rw [tk, foldl_snoc, ← eb]
            exact (if_pos hlt).symm
          · rw [tk, foldl_snoc, ← eb]
            exact (if_neg hlt).symm
        · rintro σ H3 ⟨v, pb, b, rfl, s3, hb, hbS, eb⟩
          rw [List.length_map, show ps.length = (shared a a.claims).length from hsh, List.take_length] at eb
          have hb3 := hb.same s3
          have eb2 : best (byF fun x => (a.with_ x).length) (shared a a.claims) = some b := by
            rw [ers, best_loop ((byF_ord _).ir _ trivial), ← ers, ← eb]
          refine ⟨_, rfl, pb, _, _, _, rfl, rfl, SqT.of hb3, rfl, _, rfl, pb, _, _, _, rfl, rfl, SqT.of hb3, rfl, _, rfl, _, rfl, h, R, a, pb, b, rfl, rep2.same s3, hb3, (okS b hbS).1, fun H4 s4 => ⟨(by show 3 ≤ sizeLine; decide), fun l hl => ?_⟩⟩
          have s04 := (s02.trans s3).trans s4
          exact q.read rep (by rw [ed, en, eb2]) (s04.trans (Same.new hl)) (s04.free hl) upd_same (by rw [ed, en, eb2]; rfl)
theorem sc_second_marks : FnScope ["claimed", "first", "others", "tyre"] ["claimed", "first"] (defScope s_second_marks) := ⟨rfl, rfl, rfl, by decide +kernel, rfl, by decide +kernel, by decide +kernel⟩
theorem ok_second_marks (T : Txt K mg CT CW fT fW) : Has P w K mg base 4 "second_marks" ["claimed", "first"] (spSecond CT CW) := T.d_second_marks.has fun f fd F => by
  refine F.ok sc_second_marks (fun vs H Q E h => ?_) (fun cdv A outer s H vs Q E hr h => ?_)
  · obtain ⟨h, R, a, l, m, x, rfl, _⟩ := h
    rfl
  · obtain ⟨h, R, a, l, m, x, rfl, tl, hm, hk, q⟩ := h
    refine ⟨_, (pss_cons (ps_setLc (i := 2) (own := [("tyre", 3)]) rfl sc_second_marks.nd rfl rfl (sw_true rfl rfl rfl rfl) (pi_list (pv 0)) (blkOk_by (by show blkC ["claimed", "first", "others", "tyre"] (defScope s_second_marks) _ _ = true; decide +kernel)) (fun _ _ _ _ _ => pg_name (i := 3) sc_second_marks.nd rfl (Or.inl rfl)) (fun _ _ _ _ _ => pts_one (pt_not (pt_val (pe_callH (ok_has_mark T) (hr.mono (by decide)) (by rfl) (pa_cons (pv 3) (pa_cons (pe_ixT K (pv 1) pe_int) (pa_cons (pe_ixT K (pv 1) pe_int) pa_nil))))))) (fun _ _ _ _ _ => pv 3)) (pss_cons (ps_if (pt_cmpR op_eq (pe_callB call_len_seq (by rfl) T.b_len PySem.boot_len (pa_cons (pv 2) pa_nil)) pe_int (nomark _)) (pss_one (ps_ret (pe_lst (pa_cons (pv 1) pa_nil)))) pss_nil) (pss_one (ps_ret (pe_callH (ok_shared_marks T) hr (by rfl) (pa_cons (pv 2) pa_nil)))))), ?_⟩
    refine ⟨_, rfl, l, rfl, ⟨_, SqL.of tl.lst⟩, fun D hD => ?_⟩
    refine lc_filter a.claims (tr R) (fun i => !(a.has i x)) (tr R) hD (SqL.of tl.lst) (sixty tl.few) (fun i hi H1 s1 Qt hq => ?_) (fun i hi _ H1 s1 Qe hq => ⟨_, rfl, hq H1 (Same.refl _)⟩) (fun H1 s1 hD1 => ?_)
    · exact ⟨_, rfl, _, rfl, m, _, _, _, rfl, rfl, SqT.of (hm.same s1), rfl, _, rfl, m, _, _, _, rfl, rfl, SqT.of (hm.same s1), rfl, h, R, a, i, x.1, x.2, rfl, tl.rep.same s1, tl.lt i hi, hk, fun H2 s2 => ⟨_, rfl, hq H2 s2⟩⟩
    · have hD1 : H1 D = some (.lst ((others a x).map (tr R))) := hD1
      refine ⟨_, rfl, D, _, rfl, .inl (SqL.of hD1), rfl, _, rfl, ?_⟩
      rw [List.length_map]
      refine ite2 (fun h0 => ?_) fun h0 => ?_
      · have e : others a x = [] := List.length_eq_zero_iff.mp (int_nat0.mp h0)
        refine ⟨_, rfl, (by show 1 ≤ sizeLine; decide), fun p hp => ?_⟩
        have es : seconds a x = [x] := by unfold seconds; rw [if_pos e]
        refine q _ p [m] (s1.trans (Same.new hp)) (s1.free hp) upd_same ?_
        rw [es]
        exact .cons (hm.same (s1.trans (Same.new hp))) .nil
      · have ne : others a x ≠ [] := fun z => h0 (int_nat0.mpr (by rw [z]; rfl))
        have es : seconds a x = shared a (others a x) := by unfold seconds; rw [if_neg ne]
        have sub : (others a x).Sublist a.all := List.Sublist.trans List.filter_sublist (claims_sub a)
        refine ⟨_, rfl, h, R, a, D, others a x, rfl, (tl.rep.same s1).tl hD1 sub, ne, ?_⟩
        rw [← es]
        exact fun H' p ps s2 n2 hp hm2 => q H' p ps (s1.trans s2) (s1.free n2) hp hm2
theorem sc_explaining_pairs : FnScope ["claimed", "pairs", "first", "second"] ["claimed"] (defScope s_explaining_pairs) := ⟨rfl, rfl, rfl, by decide +kernel, rfl, by decide +kernel, by decide +kernel⟩
theorem ok_explaining_pairs (T : Txt K mg CT CW fT fW) : Has P w K mg base 5 "explaining_pairs" ["claimed"] (spPairs CT CW) := T.d_explaining_pairs.has fun f fd F => by
  refine F.ok sc_explaining_pairs (fun vs H Q E h => ?_) (fun cdv A outer s H vs Q E hr h => ?_)
  · obtain ⟨h, R, a, l, rfl, _⟩ := h
    rfl
  · obtain ⟨h, R, a, l, rfl, tl, q⟩ := h
    have good := tl.rep.good
    refine ⟨_, (pss_cons (ps_set (i := 1) sc_explaining_pairs.nd rfl (Or.inl rfl) (pe_lst pa_nil)) (pss_cons (ps_for PassesOwn.never rfl (pi_list (pe_callH (ok_marks_of T) (hr.mono (by decide)) (by rfl) (pa_cons (pv 0) pa_nil))) (pg_name (i := 2) sc_explaining_pairs.nd rfl (Or.inr rfl)) (pss_one (ps_expr (pe_bm PySem.F.plainAttrs_list PySem.F.slot_list_extend PySem.F.type_list_extend mt_extend (pv 1) (pa_cons (pe_lc (own := [("second", 3)]) rfl sc_explaining_pairs.nd (pi_list (pe_callH (ok_second_marks T) hr (by rfl) (pa_cons (pv 0) (pa_cons (pv 2) pa_nil)))) (blkOk_by (by show blkC ["claimed", "pairs", "first", "second"] (defScope s_explaining_pairs) _ _ = true; decide +kernel)) (fun _ _ _ _ _ => pg_name (i := 3) sc_explaining_pairs.nd rfl (Or.inl rfl)) (fun _ _ _ _ _ => pts_nil) (fun _ _ _ _ _ => (pe_tup (pa_cons (pv 2) (pa_cons (pv 3) pa_nil))))) pa_nil))))) (pss_one (ps_ret (pv 1))))), ?_⟩
    refine ⟨(by show 0 ≤ sizeLine; decide), fun lp hlp => ?_⟩
    have sA := Same.new (o := HO.lst []) hlp
    refine ⟨_, rfl, h, R, a, l, a.claims, rfl, tl.same sA, fun ms h300 srt hmem => fun H1 lm ps s1 n1 hlm hms => ?_⟩
    have s01 := sA.trans s1
    have okm : ∀ x ∈ ms, OkM x := fun x hx => by
      obtain ⟨i, hi, hh⟩ := (hmem x).mp hx
      exact has_ok good (mem_claims hi) hh
    have hlp1 : H1 lp = some (.lst []) := s1 _ _ upd_same
    have nlm : lm ≠ lp := (ne_of_none (o := HO.lst []) upd_same n1).symm
    refine ⟨lm, rfl, ⟨_, SqL.of hlm⟩, for_list (K := K) (a := lm) (xs := ps.map V.ref) (fun j σ H' => ∃ (v : Option V) (qs : List Addr), σ = [some (.ref l), some (.ref lp), v, none] ∧ Same H H' ∧ (∀ b o, H1 b = some o → b ≠ lp → H' b = some o) ∧ H' lp = some (.lst (qs.map V.ref)) ∧ Prs H' qs (ppairs a (ms.take j)))
      ⟨none, [], rfl, s01, fun b o e _ => e, hlp1, .nil⟩ (fun j σ H' _ ⟨_, _, _, _, k1, _⟩ => SqL.of (k1 _ _ hlm nlm)) ?_ ?_⟩
    · rintro j x σ H2 hj ⟨v, qs, rfl, s2, k2, hl2, hq2⟩
      rw [List.getElem?_map] at hj
      obtain ⟨p, hp, rfl⟩ := Option.map_eq_some_iff.mp hj
      obtain ⟨m, em, hm⟩ := mkm_get hms hp
      have hmM := List.mem_of_getElem? em
      have hjl := (List.getElem?_eq_some_iff.mp em).1
      have hp2 : MkAt H2 p (km m) := k2 _ _ hm (ne_of hm hlp1 (by intro z; cases z))
      have tk : ms.take (j + 1) = ms.take j ++ [m] := by rw [List.take_succ, em]; rfl
      refine ⟨_, rfl, .inl ⟨rfl, _, SqL.of hl2⟩, _, rfl, _, rfl, h, R, a, l, p, m, rfl, tl.same s2, hp2, (okm m hmM).1, fun H3 l3 ps3 s3 n3 hl3 hm3 => ⟨l3, rfl, ⟨_, SqL.of hl3⟩, fun D hD => ?_⟩⟩
      obtain ⟨z1, z2, z3, z4⟩ := Mks.zip hm3
      rw [← z2] at hl3
      refine lc_tups (ps3.zip (seconds a m)) (fun x => V.ref x.1) (fun x => [.ref p, .ref x.1]) hD (SqL.of hl3) (by rw [z4]; exact Nat.lt_of_le_of_lt (seconds_len a m) (by decide)) (fun x hx H4 s4 Qt hq => hq H4 (Same.refl _)) (fun x hx H4 s4 Qe hq => ?_) (fun H4 qs4 s4 hD4 hq4 => ?_)
      · exact ⟨_, rfl, _, rfl, (by show 2 ≤ sizeLine; decide), fun t nt => hq t _ (Same.new nt) nt upd_same⟩
      · have s24 := s3.trans s4
        have hl4 := s24 _ _ hl2
        have pr4 : Prs H4 qs4 ((seconds a m).map fun y => (m, y)) := by
          have := prs_of (hp2.same s24) (fun x hx => (z1 x hx).same s4) hq4
          rw [show (ps3.zip (seconds a m)).map (fun x => (m, x.2)) = ((ps3.zip (seconds a m)).map (·.2)).map (fun y => (m, y)) by rw [List.map_map]; rfl, z3] at this
          exact this
        refine ⟨lp, D, _, _, rfl, rfl, hl4, hD4, ?_, some (.ref p), qs ++ qs4, rfl, ?_, ?_, ?_, ?_⟩
        · have e1 := Paired.length hq2
          have e2 := Paired.length pr4
          have e3 := ppairs_len a (ms.take j)
          have e4 := seconds_len a m
          rw [List.length_take] at e3
          rw [List.length_map] at e2
          rw [List.length_map, List.length_map, sizeLine_eq]
          omega
        · intro b o e
          rw [upd_ne (ne_of_none e hlp)]
          exact s24 _ _ (s2 _ _ e)
        · intro b o e hb
          rw [upd_ne hb]
          exact s24 _ _ (k2 _ _ e hb)
        · rw [upd_same, List.map_append]
        · have e5 : ppairs a (ms.take (j + 1)) = ppairs a (ms.take j) ++ (seconds a m).map (fun y => (m, y)) := by
            unfold ppairs
            rw [tk, List.flatMap_append]
            simp
          rw [e5]
          exact paired_append (Paired.mapP hq2 fun _ _ e => (e.same s24).upd hl4) (Paired.mapP pr4 fun _ _ e => e.upd hl4)
    · rintro σ H2 ⟨v, qs, rfl, s2, k2, hl2, hq2⟩
      rw [List.length_map, show ps.length = ms.length by have := hms.length; rw [List.length_map] at this; exact this, List.take_length] at hq2
      exact ⟨_, rfl, q ms H2 lp qs srt hmem s2 hlp hl2 hq2⟩
theorem sc_count_with_either : FnScope ["house", "pair", "tyre"] ["house", "pair"] (defScope s_count_with_either) := ⟨rfl, rfl, rfl, by decide +kernel, rfl, by decide +kernel, by decide +kernel⟩
theorem ok_count_with_either (T : Txt K mg CT CW fT fW) : Has P w K mg base 3 "count_with_either" ["house", "pair"] (spEither CT CW) := T.d_count_with_either.has fun f fd F => by
  refine F.ok sc_count_with_either (fun vs H Q E h => ?_) (fun cdv A outer s H vs Q E hr h => ?_)
  · obtain ⟨h, R, a, q, p, rfl, _⟩ := h
    rfl
  · obtain ⟨h, R, a, qa, p, rfl, rep, hp, ok1, ok2, q⟩ := h
    obtain ⟨dx, hh⟩ := rep.house
    obtain ⟨m1, m2, hq, hm1, hm2⟩ := hp
    refine ⟨_, (pss_one (ps_ret (pe_callB call_len_seq (by rfl) T.b_len PySem.boot_len (pa_cons (pe_lc (own := [("tyre", 2)]) rfl sc_count_with_either.nd (pi_list (pe_fld (pv 0) rfl)) (blkOk_by (by show blkC ["house", "pair", "tyre"] (defScope s_count_with_either) _ _ = true; decide +kernel)) (fun _ _ _ _ _ => pg_name (i := 2) sc_count_with_either.nd rfl (Or.inl rfl)) (fun _ _ _ _ _ => pts_one (pt_val (pe_callH (ok_has_any T) hr (by rfl) (pa_cons (pv 2) (pa_cons (pv 1) pa_nil))))) (fun _ _ _ _ _ => pv 2)) pa_nil)))), ?_⟩
    refine ⟨_, rfl, h, CW, dx, _, _, rfl, hh, T.clW, T.nW_tyres, rfl, R.lt, rfl, ⟨_, SqL.of rep.tyres⟩, fun D hD => ?_⟩
    refine lc_filter a.all (tr R) (fun i => a.has i p.1 || a.has i p.2) (tr R) hD (SqL.of rep.tyres) rep.all_small (fun i hi H1 s1 Qt hq' => ?_) (fun i hi _ H1 s1 Qe hq' => ⟨_, rfl, hq' H1 (Same.refl _)⟩) (fun H' s1 hD' => ⟨D, _, rfl, .inl (SqL.of hD'), ?_⟩)
    · refine ⟨_, rfl, _, rfl, h, R, a, i, qa, [m1, m2], [p.1, p.2], rfl, rep.same s1, mem_all.mp hi, .inr (SqT.of (s1 _ _ hq)), .cons (hm1.same s1) (.cons (hm2.same s1) .nil), (by show 2 ≤ 10; decide), fun m hm => ?_, fun H2 s2 => ⟨_, rfl, ?_⟩⟩
      · rcases List.mem_cons.mp hm with e | hm
        · rw [e]; exact ok1
        · rw [List.mem_singleton.mp hm]; exact ok2
      · have := hq' H2 s2
        rw [show [p.1, p.2].any (a.has i) = (a.has i p.1 || a.has i p.2) by simp]
        exact this
    · rw [List.length_map]
      exact q H' s1
theorem sc_explaining_marks : FnScope ["house", "claimed", "pairs", "best", "fewest", "pair", "count"] ["house"] (defScope s_explaining_marks) := ⟨rfl, rfl, rfl, by decide +kernel, rfl, by decide +kernel, by decide +kernel⟩
theorem ok_explaining_marks (T : Txt K mg CT CW fT fW) : Has P w K mg base 6 "explaining_marks" ["house"] (spTwo CT CW) := T.d_explaining_marks.has fun f fd F => by
  refine F.ok sc_explaining_marks (fun vs H Q E h => ?_) (fun cdv A outer s H vs Q E hr h => ?_)
  · obtain ⟨h, R, a, rfl, _⟩ := h
    rfl
  · obtain ⟨h, R, a, rfl, rep, q⟩ := h
    refine ⟨_, (pss_cons (ps_set (i := 1) sc_explaining_marks.nd rfl (Or.inl rfl) (pe_callH (ok_claimed_tyres T) (hr.mono (by decide)) (by rfl) (pa_cons (pv 0) pa_nil))) (pss_cons (ps_if (pt_cmpR op_eq (pe_callB call_len_seq (by rfl) T.b_len PySem.boot_len (pa_cons (pv 1) pa_nil)) pe_int (nomark _)) (pss_one (ps_ret (pe_lst (pa_cons (pgi T.c_NONE_THERE (by rfl)) pa_nil)))) pss_nil) (pss_cons (ps_set (i := 2) sc_explaining_marks.nd rfl (Or.inl rfl) (pe_callH (ok_explaining_pairs T) hr (by rfl) (pa_cons (pv 1) pa_nil))) (pss_cons (ps_if (pt_cmpR op_eq (pe_callB call_len_seq (by rfl) T.b_len PySem.boot_len (pa_cons (pv 2) pa_nil)) pe_int (nomark _)) (pss_one (ps_ret (pe_lst (pa_cons (pgi T.c_NONE_FITS (by rfl)) pa_nil)))) pss_nil) (pss_cons (ps_set (i := 3) sc_explaining_marks.nd rfl (Or.inl rfl) (pe_ix ix_list (pv 2) pe_int (fun _ _ => rfl))) (pss_cons (ps_set (i := 4) sc_explaining_marks.nd rfl (Or.inl rfl) (pe_callH (ok_count_with_either T) (hr.mono (by decide)) (by rfl) (pa_cons (pv 0) (pa_cons (pv 3) pa_nil)))) (pss_cons (ps_for PassesOwn.never rfl (pi_list (pv 2)) (pg_name (i := 5) sc_explaining_marks.nd rfl (Or.inl rfl)) (pss_cons (ps_set (i := 6) sc_explaining_marks.nd rfl (Or.inl rfl) (pe_callH (ok_count_with_either T) (hr.mono (by decide)) (by rfl) (pa_cons (pv 0) (pa_cons (pv 5) pa_nil)))) (pss_one (ps_if (pt_cmpR op_lt (pv 6) (pv 4) (nomark _)) (pss_cons (ps_set (i := 3) sc_explaining_marks.nd rfl (Or.inl rfl) (pv 5)) (pss_one (ps_set (i := 4) sc_explaining_marks.nd rfl (Or.inl rfl) (pv 6)))) pss_nil)))) (pss_one (ps_ret (pe_lst (pa_cons (pv 4) (pa_cons (pe_ix ix_tup (pe_ix ix_tup (pv 3) pe_int (fun _ _ => rfl)) pe_int (fun _ _ => rfl)) (pa_cons (pe_ix ix_tup (pe_ix ix_tup (pv 3) pe_int (fun _ _ => rfl)) pe_int (fun _ _ => rfl)) (pa_cons (pe_ix ix_tup (pe_ix ix_tup (pv 3) pe_int (fun _ _ => rfl)) pe_int (fun _ _ => rfl)) (pa_cons (pe_ix ix_tup (pe_ix ix_tup (pv 3) pe_int (fun _ _ => rfl)) pe_int (fun _ _ => rfl)) pa_nil))))))))))))))), ?_⟩
    refine ⟨_, rfl, h, R, a, rfl, rep, fun H1 lc s1 n1 hlc => ?_⟩
    have rep1 := rep.same s1
    refine ⟨_, rfl, lc, _, rfl, .inl (SqL.of hlc), rfl, _, rfl, ?_⟩
    rw [List.length_map]
    refine ite2 (fun h0 => ⟨(by show 1 ≤ sizeLine; decide), fun l hl => ?_⟩) fun h0 => ?_
    · have e : a.claims = [] := List.length_eq_zero_iff.mp (int_nat0.mp h0)
      exact q.ref1 rep (by show (if a.claims = [] then _ else _) = _; rw [if_pos e]) s1 hl
    · have ne : a.claims ≠ [] := fun z => h0 (int_nat0.mpr (by rw [z]; rfl))
      refine ⟨_, rfl, h, R, a, lc, rfl, rep1.tl hlc (claims_sub a), fun ms H2 lp qs srt hmem s2 n2 hlp hqs => ?_⟩
      have s02 := s1.trans s2
      have rep2 := rep.same s02
      have hlen := Paired.length hqs
      have okm : ∀ x ∈ ms, OkM x := fun x hx => by
        obtain ⟨i, hi, hh⟩ := (hmem x).mp hx
        exact has_ok rep.good (mem_claims hi) hh
      have okp : ∀ p ∈ ppairs a ms, p.1.1 < 5 ∧ p.2.1 < 5 := fun p hp => by
        obtain ⟨x, hx, hxy⟩ := List.mem_flatMap.mp hp
        obtain ⟨y, hy, rfl⟩ := List.mem_map.mp hxy
        refine ⟨(okm x hx).1, ?_⟩
        rcases (mem_seconds rep.good).mp hy with ⟨_, e⟩ | ⟨no, hall⟩
        · rw [e]; exact (okm x hx).1
        · cases eo : others a x with
          | nil => exact absurd eo no
          | cons i r => exact (has_ok rep.good (others_lt i (by rw [eo]; exact List.mem_cons_self ..)) (hall i (by rw [eo]; exact List.mem_cons_self ..))).1
      have en : a.two = best (byF fun p => (a.either p.1 p.2).length) (ppairs a ms) := two_is rep.good ms srt fun x => by rw [mem_told rep.good]; exact hmem x
      have ed : Su69.does a .two = (match a.two with | none => (a, Su69.no (-33)) | some p => (a, Su69.num (a.either p.1 p.2).length [p.1.1, p.1.2, p.2.1, p.2.2])) := by
        show (if a.claims = [] then _ else _) = _
        rw [if_neg ne]
        cases a.two <;> rfl
      refine ⟨_, rfl, lp, _, rfl, .inl (SqL.of hlp), rfl, _, rfl, ?_⟩
      rw [List.length_map]
      refine ite2 (fun h1 => ⟨(by show 1 ≤ sizeLine; decide), fun l hl => ?_⟩) fun h1 => ?_
      · have e : ppairs a ms = [] := List.length_eq_zero_iff.mp (by rw [← hlen]; exact int_nat0.mp h1)
        exact q.ref1 rep (by rw [ed, en, e]; rfl) s02 hl
      · obtain ⟨b0, rs, ers⟩ : ∃ b0 rs, ppairs a ms = b0 :: rs := by
          cases e : ppairs a ms with
          | nil => exact absurd (int_nat0.mpr (by rw [hlen, e]; rfl)) h1
          | cons x r => exact ⟨x, r, rfl⟩
        obtain ⟨q0, hq0⟩ : ∃ q0, qs[0]? = some q0 := by
          have : 0 < qs.length := by rw [hlen, ers]; exact Nat.succ_pos _
          exact ⟨qs[0], List.getElem?_eq_getElem this⟩
        obtain ⟨b0', eb0, hp0⟩ := paired_get hqs hq0
        rw [ers] at eb0
        cases eb0
        have hb0S : b0 ∈ ppairs a ms := by rw [ers]; exact List.mem_cons_self ..
        refine ⟨_, rfl, lp, _, _, .ref q0, rfl, rfl, SqL.of hlp, at_of (j := 0) rfl (by rw [List.getElem?_map, hq0]; rfl), _, rfl, _, rfl, h, R, a, q0, b0, rfl, rep2, hp0, (okp b0 hb0S).1, (okp b0 hb0S).2, fun H3 s3 => ?_⟩
        refine ⟨_, rfl, lp, rfl, ⟨_, SqL.of (s3 _ _ hlp)⟩, for_list (K := K) (a := lp) (xs := qs.map V.ref) (fun j σ H' => ∃ (v c : Option V) (qb : Addr) (b : (Nat × Nat) × (Nat × Nat)), σ = [some (.ref h), some (.ref lc), some (.ref lp), some (.ref qb), some (iv (a.either b.1 b.2).length), v, c] ∧ Same H2 H' ∧ PairAt H2 qb b ∧ b ∈ ppairs a ms ∧ b = ((ppairs a ms).take j).foldl (fun b y => if byF (fun p => (a.either p.1 p.2).length) y b = true then y else b) b0)
          ⟨none, none, q0, b0, rfl, s3, hp0, hb0S, rfl⟩ (fun j σ H' _ ⟨_, _, _, _, _, s4, _⟩ => SqL.of (s4 _ _ hlp)) ?_ ?_⟩
        · rintro j x σ H4 hj ⟨v, c, qb, b, rfl, s4, hb, hbS, eb⟩
          rw [List.getElem?_map] at hj
          obtain ⟨p, hp, rfl⟩ := Option.map_eq_some_iff.mp hj
          obtain ⟨m, em, hm⟩ := paired_get hqs hp
          have hmS := List.mem_of_getElem? em
          have tk : (ppairs a ms).take (j + 1) = (ppairs a ms).take j ++ [m] := by rw [List.take_succ, em]; rfl
          refine ⟨_, rfl, _, rfl, h, R, a, p, m, rfl, rep2.same s4, hm.same s4, (okp m hmS).1, (okp m hmS).2, fun H5 s5 => ⟨_, rfl, _, rfl, _, _, rfl, rfl, _, rfl, ?_⟩⟩
          rw [lt_nat]
          refine ite2 (fun hlt => ⟨_, rfl, _, rfl, some (.ref p), some (iv (a.either m.1 m.2).length), p, m, rfl, s4.trans s5, hm, hmS, ?_⟩) fun hlt => ⟨some (.ref p), some (iv (a.either m.1 m.2).length), qb, b, rfl, s4.trans s5, hb, hbS, ?_⟩
          · rw [tk, foldl_snoc, ← eb]
            exact (if_pos hlt).symm
          · rw [tk, foldl_snoc, ← eb]
            exact (if_neg hlt).symm
        · rintro σ H4 ⟨v, c, qb, b, rfl, s4, hb, hbS, eb⟩
          rw [List.length_map, show qs.length = (ppairs a ms).length from hlen, List.take_length] at eb
          obtain ⟨m1, m2, hq4, hm1, hm2⟩ := hb.same s4
          have eb2 : best (byF fun p => (a.either p.1 p.2).length) (ppairs a ms) = some b := by
            rw [ers, best_loop ((byF_ord _).ir _ trivial), ← ers, ← eb]
          refine ⟨_, rfl, _, rfl, qb, _, _, _, rfl, rfl, SqT.of hq4, rfl, m1, _, _, _, rfl, rfl, SqT.of hm1, rfl, _, rfl, qb, _, _, _, rfl, rfl, SqT.of hq4, rfl, m1, _, _, _, rfl, rfl, SqT.of hm1, rfl,
            _, rfl, qb, _, _, _, rfl, rfl, SqT.of hq4, rfl, m2, _, _, _, rfl, rfl, SqT.of hm2, rfl, _, rfl, qb, _, _, _, rfl, rfl, SqT.of hq4, rfl, m2, _, _, _, rfl, rfl, SqT.of hm2, rfl, (by show 5 ≤ sizeLine; decide), fun l hl => ?_⟩
          have s04 := s02.trans s4
          exact q.read rep (by rw [ed, en, eb2]) (s04.trans (Same.new hl)) (s04.free hl) upd_same (by rw [ed, en, eb2]; rfl)
end
end Rt
end

section
set_option Elab.async false
set_option linter.all false
set_option maxRecDepth 100000
set_option maxHeartbeats 2000000
namespace Rt
open PySem PySem.Spec PyProof.Rows L2
open Su69 (Abs)

theorem hfs_tfs {CT CW dx dx' : Addr} {d : Nat} {ls lt lr : Addr} {i : Nat} {m : Addr} {t : Su69.Tyre} : HO.ins CW dx (hfs d ls lt lr) ≠ HO.ins CT dx' (tfs i m t) := by
  intro e
  injection e with _ _ e
  have := congrArg List.length e
  exact absurd this (by show ¬ (4 = 6); decide)
theorem Rep.ne_h {CT CW : Addr} {H : Hp} {h : Addr} {R : RD} {a : Abs} (r : Rep CT CW H h R a) {i : Nat} (hi : i < a.tyres.length) : h ≠ R.ta i := by
  obtain ⟨dx, e⟩ := r.house
  obtain ⟨dt, e2⟩ := r.tyre i hi
  exact ne_of e e2 hfs_tfs
theorem Rep.ne_l {CT CW : Addr} {H : Hp} {h : Addr} {R : RD} {a : Abs} (r : Rep CT CW H h R a) {i : Nat} (hi : i < a.tyres.length) {l : Addr} {xs : List V} (hl : H l = some (.lst xs)) : l ≠ R.ta i := by
  obtain ⟨dt, e2⟩ := r.tyre i hi
  exact ne_of hl e2 (by intro z; cases z)
theorem Rep.ne_t {CT CW : Addr} {H : Hp} {h : Addr} {R : RD} {a : Abs} (r : Rep CT CW H h R a) {i : Nat} (hi : i < a.tyres.length) {l : Addr} {xs : List V} (hl : H l = some (.tup xs)) : l ≠ R.ta i := by
  obtain ⟨dt, e2⟩ := r.tyre i hi
  exact ne_of hl e2 (by intro z; cases z)
/-- one tyre changed, its marks as they were -/
theorem Rep.setT {CT CW : Addr} {H H' : Hp} {h : Addr} {R : RD} {a : Abs} (r : Rep CT CW H h R a) {i : Nat} (hi : i < a.tyres.length) {f : Su69.Tyre → Su69.Tyre} (hm : (f (a.tyre i)).marks = (a.tyre i).marks) (g : Good (a.set i f)) {dx : Addr}
    (ht : H' (R.ta i) = some (.ins CT dx (tfs i (R.ma i) (f (a.tyre i))))) (kp : ∀ b o, H b = some o → b ≠ R.ta i → H' b = some o) : Rep CT CW H' h R (a.set i f) where
  good := g
  house := let ⟨dh, e⟩ := r.house; ⟨dh, kp _ _ e (r.ne_h hi)⟩
  sizes := kp _ _ r.sizes (r.ne_l hi r.sizes)
  tyres := by
    have : (a.set i f).all = a.all := by unfold Su69.Abs.all; rw [set_len]
    rw [this]; exact kp _ _ r.tyres (r.ne_l hi r.tyres)
  recd := by
    obtain ⟨ps, e, m⟩ := r.recd
    exact ⟨ps, kp _ _ e (r.ne_l hi e), Paired.mapP m fun _ _ q => kp _ _ q (r.ne_t hi q)⟩
  tyre j hj := by
    rw [set_len] at hj
    rw [set_tyre hi]
    by_cases e : j = i
    · rw [if_pos e, e]; exact ⟨dx, ht⟩
    · rw [if_neg e]
      obtain ⟨dj, q⟩ := r.tyre j hj
      exact ⟨dj, kp _ _ q fun z => e (r.inj j i hj hi z)⟩
  marks j hj := by
    rw [set_len] at hj
    rw [set_tyre hi]
    by_cases e : j = i
    · rw [if_pos e, hm, ← e]; exact kp _ _ (r.marks j hj) (r.ne_l hi (r.marks j hj))
    · rw [if_neg e]; exact kp _ _ (r.marks j hj) (r.ne_l hi (r.marks j hj))
  inj j k hj hk := r.inj j k (by rw [set_len] at hj; exact hj) (by rw [set_len] at hk; exact hk)
  dist := r.dist
  mne j hj := r.mne j (by rw [set_len] at hj; exact hj)
theorem fresh_back {H H2 : Hp} {t l : Addr} (kp : ∀ b o, H b = some o → b ≠ t → H2 b = some o) (ht : ∃ o, H2 t = some o) (hl : H2 l = none) : H l = none := by
  cases q : H l with
  | none => rfl
  | some o =>
    by_cases e : l = t
    · subst e
      obtain ⟨o', z⟩ := ht
      rw [hl] at z; cases z
    · rw [kp l o q e] at hl; cases hl
/-- the answer behind a change of one tyre -/
theorem Fin.tyre1 {CT CW : Addr} {H H1 H2 : Hp} {h : Addr} {R : RD} {a : Abs} {x : Abs × Su69.Ans} {Q : VK} (f : Fin CT CW H h R a x Q) {i : Nat} (hi : i < a.tyres.length) (hi2 : i < x.1.tyres.length) (s1 : Same H H1) (rep2 : Rep CT CW H2 h R x.1) (kp : ∀ b o, H1 b = some o → b ≠ R.ta i → H2 b = some o)
    {l : Addr} (hl : H2 l = none) {vs : List V} (ev : vs = (ans x.2).map V.int) : Q (.ref l) (upd H2 l (.lst vs)) := by
  have ht : ∃ o, H2 (R.ta i) = some o := let ⟨dx, e⟩ := rep2.tyre i hi2; ⟨_, e⟩
  refine f _ R l rfl rfl lrR (rep2.same (Same.new hl)) (fun b o e h1 h2 h3 h4 h5 => Same.new hl _ _ (kp b o (s1 _ _ e) (h5 i hi))) (s1.free (fresh_back kp ht hl)) (by rw [upd_same, ev])
theorem iv_gt {n m : Nat} : decide ((m : Int) < (n : Int)) = true ↔ m < n := by rw [lt_nat]; simp
section
variable (K : PySem.W.Frag) (CT CW : Addr)
def spHandOver : Sp := fun vs H Q _ => ∃ h R a i c, vs = [.ref h, tr R i, iv c] ∧ Rep CT CW H h R a ∧ i < a.tyres.length ∧ c < 10 ∧ ∀ H', Rep CT CW H' h R (a.sent i c) → (∀ b o, H b = some o → b ≠ R.ta i → H' b = some o) → Q (iv (a.tyre i).place) H'
def spSend : Sp := fun vs H Q _ => ∃ h R a t c, vs = [.ref h, iv t, iv c] ∧ Rep CT CW H h R a ∧ Fin CT CW H h R a (Su69.does a (.send t c)) Q
def spSendable : Sp := fun vs H Q _ => ∃ h R a, vs = [.ref h] ∧ Rep CT CW H h R a ∧ RetL H Q ((a.stock.filter fun t => !(a.bad t)).map (tr R))
def spOldest : Sp := fun vs H Q _ => ∃ h R a l is, vs = [.ref l] ∧ TL CT CW H h R a l is ∧ is ≠ [] ∧ ∀ t, a.oldest is = some t → t ∈ is → Ret H Q (tr R t)
def spSendOldest : Sp := fun vs H Q _ => ∃ h R a k v c, vs = [.ref h, iv k, iv v, iv c] ∧ Rep CT CW H h R a ∧ Fin CT CW H h R a (Su69.does a (.oldest k v c)) Q
def spClaim : Sp := fun vs H Q _ => ∃ h R a t, vs = [.ref h, iv t] ∧ Rep CT CW H h R a ∧ Fin CT CW H h R a (Su69.does a (.claim t)) Q
def spBack : Sp := fun vs H Q _ => ∃ h R a t, vs = [.ref h, iv t] ∧ Rep CT CW H h R a ∧ Fin CT CW H h R a (Su69.does a (.back t)) Q
def spRecall : Sp := fun vs H Q _ => ∃ h R a k v, vs = [.ref h, iv k, iv v] ∧ Rep CT CW H h R a ∧ Fin CT CW H h R a (Su69.does a (.recall k v)) Q
def spLift : Sp := fun vs H Q _ => ∃ h R a k v, vs = [.ref h, iv k, iv v] ∧ Rep CT CW H h R a ∧ Fin CT CW H h R a (Su69.does a (.lift k v)) Q
end
theorem notT {a : Abs} {t : Nat} (h : decide (a.tyres.length ≤ t) = true) : a.isT t = false := by
  have := of_decide_eq_true h
  unfold Su69.Abs.isT
  exact decide_eq_false (by omega)
theorem yesT {a : Abs} {t : Nat} (h : ¬ decide (a.tyres.length ≤ t) = true) : a.isT t = true ∧ t < a.tyres.length := by
  have : ¬ a.tyres.length ≤ t := fun z => h (decide_eq_true z)
  exact ⟨isT_iff.mpr (by omega), by omega⟩
theorem Rep.tyreAt {CT CW : Addr} {H : Hp} {h : Addr} {R : RD} {a : Abs} (r : Rep CT CW H h R a) {t : Nat} (ht : t < a.tyres.length) : (a.all.map fun i => V.ref (R.ta i))[t]? = some (tr R t) := by
  rw [List.getElem?_map, show a.all[t]? = some t by unfold Su69.Abs.all; rw [List.getElem?_range ht]]; rfl
section
variable {P : Program} {w : World} {K : PySem.W.Frag} {mg : Str → Option Value} {base : Heap} {CT CW fT fW : Addr}
theorem sc_hand_over : FnScope ["house", "tyre", "customer", "left_rack"] ["house", "tyre", "customer"] (defScope s_hand_over) := ⟨rfl, rfl, rfl, by decide +kernel, rfl, by decide +kernel, by decide +kernel⟩
theorem ok_hand_over (T : Txt K mg CT CW fT fW) : Has P w K mg base 1 "hand_over" ["house", "tyre", "customer"] (spHandOver CT CW) := T.d_hand_over.has fun f fd F => by
  refine F.ok sc_hand_over (fun vs H Q E h => ?_) (fun cdv A outer s H vs Q E hr h => ?_)
  · obtain ⟨h, R, a, i, c, rfl, _⟩ := h
    rfl
  · obtain ⟨h, R, a, i, c, rfl, rep, hi, hc, q⟩ := h
    obtain ⟨dh, hh⟩ := rep.house
    obtain ⟨dx, ht⟩ := rep.tyre i hi
    have nh := rep.ne_h hi
    refine ⟨_, (pss_cons (ps_set (i := 3) sc_hand_over.nd rfl (Or.inl rfl) (pe_fld (pv 1) rfl)) (pss_cons (ps_fld (pv 1) (pgi T.c_SENT (by rfl)) rfl) (pss_cons (ps_fld (pv 1) (pv 2) rfl) (pss_cons (ps_fld (pv 1) (pe_fld (pv 0) rfl) rfl) (pss_one (ps_ret (pv 3))))))), ?_⟩
    refine ⟨_, rfl, R.ta i, CT, dx, _, _, rfl, ht, T.clT, T.nT_holder, rfl, _, rfl, R.ta i, CT, dx, _, rfl, ht, T.clT, T.nT_stage, (by show 6 < 1000; decide), ?_⟩
    refine ⟨_, rfl, _, rfl, R.ta i, CT, dx, _, rfl, upd_same, T.clT, T.nT_holder, (by show 6 < 1000; decide), ?_⟩
    refine ⟨_, rfl, h, CW, dh, _, _, rfl, by rw [upd_ne nh, upd_ne nh]; exact hh, T.clW, T.nW_day, rfl, _, rfl, R.ta i, CT, dx, _, rfl, upd_same, T.clT, T.nT_since, (by show 6 < 1000; decide), ?_⟩
    refine ⟨_, rfl, ?_⟩
    refine q _ (Rep.setT rep hi (f := fun x => { x with how := 1, place := c, day := a.today }) rfl (good_sent rep.good hi hc) (dx := dx) ?_ ?_) ?_
    · rw [upd_same]; rfl
    · intro b o e hb
      rw [upd_ne hb, upd_ne hb, upd_ne hb]; exact e
    · intro b o e hb
      rw [upd_ne hb, upd_ne hb, upd_ne hb]; exact e
theorem sc_send_tyre : FnScope ["house", "number", "customer", "tyre"] ["house", "number", "customer"] (defScope s_send_tyre) := ⟨rfl, rfl, rfl, by decide +kernel, rfl, by decide +kernel, by decide +kernel⟩
theorem ok_send_tyre (T : Txt K mg CT CW fT fW) : Has P w K mg base 4 "send_tyre" ["house", "number", "customer"] (spSend CT CW) := T.d_send_tyre.has fun f fd F => by
  refine F.ok sc_send_tyre (fun vs H Q E h => ?_) (fun cdv A outer s H vs Q E hr h => ?_)
  · obtain ⟨h, R, a, t, c, rfl, _⟩ := h
    rfl
  · obtain ⟨h, R, a, t, c, rfl, rep, q⟩ := h
    obtain ⟨dh, hh⟩ := rep.house
    refine ⟨_, (pss_cons (ps_if (pt_val (pe_callH (ok_lacks_tyre T) (hr.mono (by decide)) (by rfl) (pa_cons (pv 0) (pa_cons (pv 1) pa_nil)))) (pss_one (ps_ret (pe_lst (pa_cons (pgi T.c_NO_SUCH (by rfl)) pa_nil)))) pss_nil) (pss_cons (ps_if (pt_cmpR op_gt (pv 2) (pgi T.c_HIGHEST_CUSTOMER (by rfl)) (nomark _)) (pss_one (ps_ret (pe_lst (pa_cons (pgi T.c_OUT_OF_RANGE (by rfl)) pa_nil)))) pss_nil) (pss_cons (ps_set (i := 3) sc_send_tyre.nd rfl (Or.inl rfl) (pe_ix ix_list (pe_fld (pv 0) rfl) (pv 1) (fun _ _ => rfl))) (pss_cons (ps_if (pt_cmpR op_ne (pe_fld (pv 3) rfl) (pgi T.c_IN_RACK (by rfl)) (nomark _)) (pss_one (ps_ret (pe_lst (pa_cons (pgi T.c_NOT_SO (by rfl)) pa_nil)))) pss_nil) (pss_cons (ps_if (pt_val (pe_callH (ok_is_recalled T) hr (by rfl) (pa_cons (pv 0) (pa_cons (pv 3) pa_nil)))) (pss_one (ps_ret (pe_lst (pa_cons (pgi T.c_IS_RECALLED (by rfl)) pa_nil)))) pss_nil) (pss_one (ps_ret (pe_lst (pa_cons (pe_callH (ok_hand_over T) (hr.mono (by decide)) (by rfl) (pa_cons (pv 0) (pa_cons (pv 3) (pa_cons (pv 2) pa_nil)))) pa_nil))))))))), ?_⟩
    have ed : Su69.does a (.send t c) = if a.isT t = false then (a, Su69.no (-2)) else if Su69.CUSTOMERS ≤ c then (a, Su69.no (-22)) else if (a.tyre t).how ≠ 0 then (a, Su69.no (-16)) else if a.bad t then (a, Su69.no (-13)) else (a.sent t c, Su69.num (a.tyre t).place []) := rfl
    refine ⟨_, rfl, _, rfl, h, R, a, t, rfl, rep, fun H1 s1 => ⟨_, rfl, ite2 (fun h0 => ⟨(by show 1 ≤ sizeLine; decide), fun l hl => ?_⟩) fun h0 => ?_⟩⟩
    · exact q.ref1 rep (by rw [ed, if_pos (notT h0)]) s1 hl
    obtain ⟨y1, y2⟩ := yesT h0
    rw [if_neg (by rw [y1]; simp)] at ed
    have rep1 := rep.same s1
    obtain ⟨dx, ht⟩ := rep1.tyre t y2
    refine ⟨_, rfl, _, _, rfl, rfl, _, rfl, ite2 (fun h1 => ⟨(by show 1 ≤ sizeLine; decide), fun l hl => ?_⟩) fun h1 => ?_⟩
    · have h1 : (9 : Int) < (c : Int) := of_decide_eq_true h1
      exact q.ref1 rep (by rw [ed, if_pos (by unfold Su69.CUSTOMERS; omega)]) s1 hl
    have h1 : c < 10 := by
      have : ¬ (9 : Int) < (c : Int) := fun z => h1 (decide_eq_true z)
      omega
    rw [if_neg (by unfold Su69.CUSTOMERS; omega)] at ed
    refine ⟨_, rfl, h, CW, dh, _, _, rfl, s1 _ _ hh, T.clW, T.nW_tyres, rfl, _, rfl, R.lt, _, _, tr R t, rfl, rfl, SqL.of rep1.tyres, atI_nat (rep.tyreAt y2), ?_⟩
    refine ⟨_, rfl, R.ta t, CT, dx, _, _, rfl, ht, T.clT, T.nT_stage, rfl, rfl, _, rfl, ?_⟩
    rw [show V.int 0 = iv 0 from rfl, eq_nat]
    refine ite2 (fun h2 => ⟨(by show 1 ≤ sizeLine; decide), fun l hl => ?_⟩) fun h2 => ?_
    · exact q.ref1 rep (by rw [ed, if_pos (by simpa using h2)]) s1 hl
    have h2 : (a.tyre t).how = 0 := by simpa using h2
    rw [if_neg (by simp [h2])] at ed
    refine ⟨_, rfl, _, rfl, h, R, a, t, rfl, rep1, y2, fun H2 s2 => ⟨_, rfl, ite2 (fun h3 => ⟨(by show 1 ≤ sizeLine; decide), fun l hl => ?_⟩) fun h3 => ?_⟩⟩
    · exact q.ref1 rep (by rw [ed, if_pos h3]) (s1.trans s2) hl
    rw [if_neg h3] at ed
    refine ⟨_, rfl, _, rfl, _, rfl, h, R, a, t, c, rfl, rep1.same s2, y2, h1, fun H3 rep3 kp3 => ⟨(by show 1 ≤ sizeLine; decide), fun l hl => ?_⟩⟩
    exact q.tyre1 (i := t) y2 (by rw [ed]; show t < (a.set t _).tyres.length; rw [set_len]; exact y2) (s1.trans s2) (by rw [ed]; exact rep3) kp3 hl (by rw [ed]; rfl)
theorem sc_sendable_tyres : FnScope ["house", "tyre"] ["house"] (defScope s_sendable_tyres) := ⟨rfl, rfl, rfl, by decide +kernel, rfl, by decide +kernel, by decide +kernel⟩
theorem ok_sendable_tyres (T : Txt K mg CT CW fT fW) : Has P w K mg base 4 "sendable_tyres" ["house"] (spSendable CT CW) := T.d_sendable_tyres.has fun f fd F => by
  refine F.ok sc_sendable_tyres (fun vs H Q E h => ?_) (fun cdv A outer s H vs Q E hr h => ?_)
  · obtain ⟨h, R, a, rfl, _⟩ := h
    rfl
  · obtain ⟨h, R, a, rfl, rep, q⟩ := h
    obtain ⟨dx, hh⟩ := rep.house
    refine ⟨_, (pss_one (ps_ret (pe_lc (own := [("tyre", 1)]) rfl sc_sendable_tyres.nd (pi_list (pe_fld (pv 0) rfl)) (blkOk_by (by show blkC ["house", "tyre"] (defScope s_sendable_tyres) _ _ = true; decide +kernel)) (fun _ _ _ _ _ => pg_name (i := 1) sc_sendable_tyres.nd rfl (Or.inl rfl)) (fun _ _ _ _ _ => pts_one (pw_and (pt_cmpR op_eq (pe_fldK K (pv 1)) (pgi T.c_IN_RACK (by rfl)) (nomark _)) (pw_and1 (pt_not (pt_val (pe_callH (ok_is_recalled T) hr (by rfl) (pa_cons (pv 0) (pa_cons (pv 1) pa_nil))))))).pt) (fun _ _ _ _ _ => pv 1)))), ?_⟩
    refine ⟨_, rfl, h, CW, dx, _, _, rfl, hh, T.clW, T.nW_tyres, rfl, R.lt, rfl, ⟨_, SqL.of rep.tyres⟩, fun D hD => ?_⟩
    refine lc_filter a.all (tr R) (fun i => (a.tyre i).how == 0 && !(a.bad i)) (tr R) hD (SqL.of rep.tyres) rep.all_small (fun i hi H1 s1 Qt hq => ?_) (fun i hi _ H1 s1 Qe hq => ⟨_, rfl, hq H1 (Same.refl _)⟩) (fun H' s1 hD' => q H' D s1 hD ?_)
    · obtain ⟨dt, ht⟩ := rep.tyre i (mem_all.mp hi)
      refine ⟨_, rfl, R.ta i, CT, dt, _, _, rfl, s1 _ _ ht, T.clT, T.nT_stage, rfl, rfl, _, rfl, ?_⟩
      rw [show V.int 0 = iv 0 from rfl, eq_nat]
      refine ite2 (fun h1 => ⟨_, rfl, _, rfl, h, R, a, i, rfl, rep.same s1, mem_all.mp hi, fun H2 s2 => ⟨_, rfl, ?_⟩⟩) fun h1 => ?_
      · have e : ((a.tyre i).how == 0) = true := h1
        have hq1 := hq H2 s2
        rw [e, Bool.true_and] at hq1
        exact hq1
      · have e : ((a.tyre i).how == 0) = false := Bool.eq_false_iff.mpr h1
        have hq1 := hq H1 (Same.refl _)
        rw [e, Bool.false_and] at hq1
        exact hq1
    · rw [hD']
      unfold Su69.Abs.stock
      rw [List.filter_filter]
      congr 4
      funext t
      exact Bool.and_comm ..
theorem sc_oldest_tyre : FnScope ["tyres", "best", "tyre"] ["tyres"] (defScope s_oldest_tyre) := ⟨rfl, rfl, rfl, by decide +kernel, rfl, by decide +kernel, by decide +kernel⟩
theorem ok_oldest_tyre (T : Txt K mg CT CW fT fW) : Has P w K mg base 1 "oldest_tyre" ["tyres"] (spOldest CT CW) := T.d_oldest_tyre.has fun f fd F => by
  refine F.ok sc_oldest_tyre (fun vs H Q E h => ?_) (fun cdv A outer s H vs Q E hr h => ?_)
  · obtain ⟨h, R, a, l, is, rfl, _⟩ := h
    rfl
  · obtain ⟨h, R, a, l, is, rfl, tl, ne, q⟩ := h
    have good := tl.rep.good
    obtain ⟨i0, rs, ers⟩ : ∃ i0 rs, is = i0 :: rs := by
      cases is with
      | nil => exact absurd rfl ne
      | cons x r => exact ⟨x, r, rfl⟩
    have m0 : i0 ∈ is := by rw [ers]; exact List.mem_cons_self ..
    refine ⟨_, (pss_cons (ps_set (i := 1) sc_oldest_tyre.nd rfl (Or.inl rfl) (pe_ix ix_list (pv 0) pe_int (fun _ _ => rfl))) (pss_cons (ps_for PassesOwn.never rfl (pi_list (pv 0)) (pg_name (i := 2) sc_oldest_tyre.nd rfl (Or.inl rfl)) (pss_one (ps_if (pt_cmpR op_lt (pe_ix ix_list (pe_fld (pv 2) rfl) (pgi T.c_WEEK_PLACE (by rfl)) (fun _ _ => rfl)) (pe_ix ix_list (pe_fld (pv 1) rfl) (pgi T.c_WEEK_PLACE (by rfl)) (fun _ _ => rfl)) (nomark _)) (pss_one (ps_set (i := 1) sc_oldest_tyre.nd rfl (Or.inl rfl) (pv 2))) pss_nil))) (pss_one (ps_ret (pv 1))))), ?_⟩
    refine ⟨_, rfl, l, _, _, tr R i0, rfl, rfl, SqL.of tl.lst, at_of (j := 0) rfl (by rw [ers]; rfl), ?_⟩
    refine ⟨_, rfl, l, rfl, ⟨_, SqL.of tl.lst⟩, for_list (K := K) (a := l) (xs := is.map (tr R)) (fun j σ H' => ∃ (v : Option V) (b : Nat), σ = [some (.ref l), some (tr R b), v] ∧ H' = H ∧ b ∈ is ∧ b = (is.take j).foldl (fun b y => if byF a.week y b = true then y else b) i0)
      ⟨none, i0, rfl, rfl, m0, rfl⟩ (fun j σ H' _ ⟨_, _, _, e, _⟩ => by rw [e]; exact SqL.of tl.lst) ?_ ?_⟩
    · rintro j x σ H' hj ⟨v, b, rfl, rfl, hb, eb⟩
      rw [List.getElem?_map] at hj
      obtain ⟨i, hi, rfl⟩ := Option.map_eq_some_iff.mp hj
      have him := List.mem_of_getElem? hi
      have tk : is.take (j + 1) = is.take j ++ [i] := by rw [List.take_succ, hi]; rfl
      obtain ⟨dx, ht⟩ := tl.rep.tyre i (tl.lt i him)
      obtain ⟨db, hbt⟩ := tl.rep.tyre b (tl.lt b hb)
      have wk : ∀ i ∈ is, atI ((a.tyre i).marks.map iv) 4 = some (iv (a.week i)) := fun i hi => at_of (j := 4) rfl (by rw [List.getElem?_map, mk_get good (tl.lt i hi) (by decide)]; rfl)
      refine ⟨_, rfl, R.ta i, CT, dx, _, _, rfl, ht, T.clT, T.nT_marks, rfl, R.ma i, _, _, iv (a.week i), rfl, rfl, SqL.of (tl.rep.marks i (tl.lt i him)), wk i him,
        _, rfl, R.ta b, CT, db, _, _, rfl, hbt, T.clT, T.nT_marks, rfl, R.ma b, _, _, iv (a.week b), rfl, rfl, SqL.of (tl.rep.marks b (tl.lt b hb)), wk b hb, _, _, rfl, rfl, _, rfl, ?_⟩
      rw [lt_nat]
      refine ite2 (fun hlt => ⟨_, rfl, some (tr R i), i, rfl, rfl, him, ?_⟩) fun hlt => ⟨some (tr R i), b, rfl, rfl, hb, ?_⟩
      · rw [tk, foldl_snoc, ← eb]
        exact (if_pos hlt).symm
      · rw [tk, foldl_snoc, ← eb]
        exact (if_neg hlt).symm
    · rintro σ H' ⟨v, b, rfl, rfl, hb, eb⟩
      rw [List.length_map, List.take_length] at eb
      refine ⟨_, rfl, q b ?_ hb H' (Same.refl _)⟩
      rw [oldest_best, ers, best_loop ((byF_ord _).ir _ trivial), ← ers, ← eb]
end
end Rt
end

section
set_option Elab.async false
set_option linter.all false
set_option maxRecDepth 100000
set_option maxHeartbeats 2000000
namespace Rt
open PySem PySem.Spec PyProof.Rows L2
open Su69 (Abs)

theorem claims_more {a : Abs} {t : Nat} (ht : t < a.tyres.length) (hc : (a.tyre t).claimed = false) : (a.set t fun x => { x with claimed := true }).claims.length = a.claims.length + 1 := by
  have go : ∀ l : List Nat, l.Nodup → t ∈ l → (l.filter fun u => ((a.set t fun x => { x with claimed := true }).tyre u).claimed).length = (l.filter fun u => (a.tyre u).claimed).length + 1 := fun l => by
    induction l with
    | nil => intro _ h; cases h
    | cons u r ih =>
      intro nd hm
      obtain ⟨n1, n2⟩ := List.nodup_cons.mp nd
      rw [List.filter_cons, List.filter_cons, set_tyre ht]
      by_cases e : u = t
      · subst e
        have e2 : (r.filter fun v => ((a.set u fun x => { x with claimed := true }).tyre v).claimed) = r.filter fun v => (a.tyre v).claimed := List.filter_congr fun v hv => by
          rw [set_tyre ht, if_neg (fun z => n1 (by rw [← z]; exact hv))]
        rw [if_pos rfl, e2, hc]
        simp
      · rw [if_neg e]
        have ih := ih n2 ((List.mem_cons.mp hm).resolve_left fun z => e z.symm)
        cases (a.tyre u).claimed with
        | true => simp only [if_true, List.length_cons, ih]
        | false => simp only [Bool.false_eq_true, if_false]; exact ih
  have e : (a.set t fun x => { x with claimed := true }).all = a.all := by unfold Su69.Abs.all; rw [set_len]
  unfold Su69.Abs.claims
  rw [e]
  exact go a.all (by unfold Su69.Abs.all; exact List.nodup_range) (mem_all.mpr ht)
/-- the recalled marks changed -/
theorem Rep.recs {CT CW : Addr} {H H' : Hp} {h : Addr} {R : RD} {a : Abs} (r : Rep CT CW H h R a) {rs : List (Nat × Nat)} (g : Good { a with recalled := rs }) {ps : List Addr} (hl : H' R.lr = some (.lst (ps.map V.ref))) (hm : Mks H' ps (rs.map km)) (kp : ∀ b o, H b = some o → b ≠ R.lr → H' b = some o) :
    Rep CT CW H' h R { a with recalled := rs } where
  good := g
  house := by
    obtain ⟨dh, e⟩ := r.house
    obtain ⟨ps0, e0, _⟩ := r.recd
    exact ⟨dh, kp _ _ e (ne_of e e0 (by intro z; cases z))⟩
  sizes := kp _ _ r.sizes r.dist.2.1
  tyres := kp _ _ r.tyres r.dist.2.2
  recd := ⟨ps, hl, hm⟩
  tyre i hi := by
    obtain ⟨dx, e⟩ := r.tyre i hi
    obtain ⟨ps0, e0, _⟩ := r.recd
    exact ⟨dx, kp _ _ e (ne_of e e0 (by intro z; cases z))⟩
  marks i hi := kp _ _ (r.marks i hi) (r.mne i hi).2.2
  inj := r.inj
  dist := r.dist
  mne := r.mne
/-- the answer behind a change of the recalled marks -/
theorem Fin.recs1 {CT CW : Addr} {H H1 H2 : Hp} {h : Addr} {R : RD} {a : Abs} {x : Abs × Su69.Ans} {Q : VK} (f : Fin CT CW H h R a x Q) (s1 : Same H H1) (rep2 : Rep CT CW H2 h R x.1) (kp : ∀ b o, H1 b = some o → b ≠ R.lr → H2 b = some o)
    {l : Addr} (hl : H2 l = none) {vs : List V} (ev : vs = (ans x.2).map V.int) : Q (.ref l) (upd H2 l (.lst vs)) := by
  have ht : ∃ o, H2 R.lr = some o := let ⟨ps, e, _⟩ := rep2.recd; ⟨_, e⟩
  exact f _ R l rfl rfl lrR (rep2.same (Same.new hl)) (fun b o e h1 h2 h3 h4 h5 => Same.new hl _ _ (kp b o (s1 _ _ e) h4)) (s1.free (fresh_back kp ht hl)) (by rw [upd_same, ev])
theorem kms_contains (l : List (Nat × Nat)) (x : Nat × Nat) : (l.map km).contains (km x) = l.contains x := by
  induction l with
  | nil => rfl
  | cons y l ih =>
    rw [List.map_cons, List.contains_cons, List.contains_cons, ih]
    congr 1
    by_cases e : x = y
    · subst e; simp
    · have : ¬ km x = km y := fun z => e (km_inj z)
      rw [beq_eq_false_iff_ne.mpr e, beq_eq_false_iff_ne.mpr this]
theorem first_at {x : Nat × Nat} : ∀ {l : List (Nat × Nat)}, x ∈ l → ∃ j : Nat, l[j]? = some x ∧ (∀ m, m < j → l[m]? ≠ some x) ∧ l.eraseIdx j = l.erase x
  | [], h => by cases h
  | y :: l, h => by
    by_cases e : y = x
    · subst e
      exact ⟨0, rfl, fun m hm => absurd hm (Nat.not_lt_zero _), by rw [List.erase_cons_head]; rfl⟩
    · obtain ⟨j, h1, h2, h3⟩ := first_at ((List.mem_cons.mp h).resolve_left fun z => e z.symm)
      refine ⟨j + 1, by simpa using h1, fun m hm => ?_, ?_⟩
      · cases m with
        | zero => simpa using e
        | succ m => simpa using h2 m (by omega)
      · rw [List.erase_cons_tail (by simpa using e), ← h3]; rfl
theorem noM {k v : Nat} (h : (!Su69.okMark k v) = true) : Su69.okMark k v = false := by simpa using h
theorem yesM {k v : Nat} (h : ¬ (!Su69.okMark k v) = true) : Su69.okMark k v = true ∧ OkM (k, v) := by
  have : Su69.okMark k v = true := by simpa using h
  exact ⟨this, okMark_iff.mp this⟩
section
variable {P : Program} {w : World} {K : PySem.W.Frag} {mg : Str → Option Value} {base : Heap} {CT CW fT fW : Addr}
theorem sc_send_oldest : FnScope ["house", "place", "value", "customer", "fitting", "tyre"] ["house", "place", "value", "customer"] (defScope s_send_oldest) := ⟨rfl, rfl, rfl, by decide +kernel, rfl, by decide +kernel, by decide +kernel⟩
theorem ok_send_oldest (T : Txt K mg CT CW fT fW) : Has P w K mg base 5 "send_oldest" ["house", "place", "value", "customer"] (spSendOldest CT CW) := T.d_send_oldest.has fun f fd F => by
  refine F.ok sc_send_oldest (fun vs H Q E h => ?_) (fun cdv A outer s H vs Q E hr h => ?_)
  · obtain ⟨h, R, a, k, v, c, rfl, _⟩ := h
    rfl
  · obtain ⟨h, R, a, k, v, c, rfl, rep, q⟩ := h
    refine ⟨_, (pss_cons (ps_if (pw_or (pt_val (pe_callH (ok_is_no_mark T) (hr.mono (by decide)) (by rfl) (pa_cons (pv 1) (pa_cons (pv 2) pa_nil)))) (pw_or1 (pt_cmpR op_gt (pv 3) (pgi T.c_HIGHEST_CUSTOMER (by rfl)) (nomark _)))).pt (pss_one (ps_ret (pe_lst (pa_cons (pgi T.c_OUT_OF_RANGE (by rfl)) pa_nil)))) pss_nil) (pss_cons (ps_setLc (i := 4) (own := [("tyre", 5)]) rfl sc_send_oldest.nd rfl rfl (sw_true rfl rfl rfl rfl) (pi_list (pe_callH (ok_sendable_tyres T) hr (by rfl) (pa_cons (pv 0) pa_nil))) (blkOk_by (by show blkC ["house", "place", "value", "customer", "fitting", "tyre"] (defScope s_send_oldest) _ _ = true; decide +kernel)) (fun _ _ _ _ _ => pg_name (i := 5) sc_send_oldest.nd rfl (Or.inl rfl)) (fun _ _ _ _ _ => pts_one (pt_val (pe_callH (ok_has_mark T) (hr.mono (by decide)) (by rfl) (pa_cons (pv 5) (pa_cons (pv 1) (pa_cons (pv 2) pa_nil)))))) (fun _ _ _ _ _ => pv 5)) (pss_cons (ps_if (pt_cmpR op_eq (pe_callB call_len_seq (by rfl) T.b_len PySem.boot_len (pa_cons (pv 4) pa_nil)) pe_int (nomark _)) (pss_one (ps_ret (pe_lst (pa_cons (pgi T.c_NONE_THERE (by rfl)) pa_nil)))) pss_nil) (pss_cons (ps_set (i := 5) sc_send_oldest.nd rfl (Or.inl rfl) (pe_callH (ok_oldest_tyre T) (hr.mono (by decide)) (by rfl) (pa_cons (pv 4) pa_nil))) (pss_one (ps_ret (pe_lst (pa_cons (pe_fld (pv 5) rfl) (pa_cons (pe_callH (ok_hand_over T) (hr.mono (by decide)) (by rfl) (pa_cons (pv 0) (pa_cons (pv 5) (pa_cons (pv 3) pa_nil)))) pa_nil))))))))), ?_⟩
    have ed : Su69.does a (.oldest k v c) = if Su69.okMark k v = false ∨ Su69.CUSTOMERS ≤ c then (a, Su69.no (-22)) else (match a.oldest (a.stock.filter fun t => a.has t (k, v) && !(a.bad t)) with | none => (a, Su69.no (-6)) | some t => (a.sent t c, Su69.num t [(a.tyre t).place])) := rfl
    refine ⟨_, rfl, _, rfl, k, v, rfl, fun H1 s1 => ⟨_, rfl, ite2 (fun h0 => ?_) fun h0 => ⟨_, rfl, _, _, rfl, rfl, _, rfl, ?_⟩⟩⟩
    · refine iteT ?_
      exact ⟨(by show 1 ≤ sizeLine; decide), fun l hl => q.ref1 rep (by rw [ed, if_pos (.inl (noM h0))]) s1 hl⟩
    obtain ⟨y1, y2⟩ := yesM h0
    refine ite2 (fun h1 => ⟨(by show 1 ≤ sizeLine; decide), fun l hl => ?_⟩) fun h1 => ?_
    · have h1 : (9 : Int) < (c : Int) := of_decide_eq_true h1
      exact q.ref1 rep (by rw [ed, if_pos (.inr (by unfold Su69.CUSTOMERS; omega))]) s1 hl
    have h1 : c < 10 := by
      have : ¬ (9 : Int) < (c : Int) := fun z => h1 (decide_eq_true z)
      omega
    rw [if_neg (by rw [y1]; unfold Su69.CUSTOMERS; simp; omega)] at ed
    have rep1 := rep.same s1
    refine ⟨_, rfl, h, R, a, rfl, rep1, fun H2 ls s2 n2 hls => ⟨ls, rfl, ⟨_, SqL.of hls⟩, fun D hD => ?_⟩⟩
    have rep2 := rep1.same s2
    have subS : (a.stock.filter fun t => !(a.bad t)).Sublist a.all := List.Sublist.trans List.filter_sublist List.filter_sublist
    have tlS := rep2.tl hls subS
    refine lc_filter (a.stock.filter fun t => !(a.bad t)) (tr R) (fun i => a.has i (k, v)) (tr R) hD (SqL.of hls) (sixty tlS.few) (fun i hi H3 s3 Qt hq => ?_) (fun i hi _ H3 s3 Qe hq => ⟨_, rfl, hq H3 (Same.refl _)⟩) (fun H3 s3 hD3 => ?_)
    · exact ⟨_, rfl, _, rfl, _, rfl, h, R, a, i, k, v, rfl, rep2.same s3, tlS.lt i hi, y2.1, fun H4 s4 => ⟨_, rfl, hq H4 s4⟩⟩
    have rep3 := rep2.same s3
    have s03 := (s1.trans s2).trans s3
    have ef : (a.stock.filter fun t => !(a.bad t)).filter (fun i => a.has i (k, v)) = a.stock.filter fun t => a.has t (k, v) && !(a.bad t) := by rw [List.filter_filter]
    rw [ef] at hD3
    generalize hF : (a.stock.filter fun t => a.has t (k, v) && !(a.bad t)) = F0 at hD3 ed
    have subF : F0.Sublist a.all := by rw [← hF]; exact List.Sublist.trans List.filter_sublist List.filter_sublist
    have tlF := rep3.tl hD3 subF
    refine ⟨_, rfl, D, _, rfl, .inl (SqL.of hD3), rfl, _, rfl, ?_⟩
    rw [List.length_map]
    refine ite2 (fun h2 => ⟨(by show 1 ≤ sizeLine; decide), fun l hl => ?_⟩) fun h2 => ?_
    · have e : F0 = [] := List.length_eq_zero_iff.mp (int_nat0.mp h2)
      exact q.ref1 rep (by rw [ed, e]; rfl) s03 hl
    have ne : F0 ≠ [] := fun z => h2 (int_nat0.mpr (by rw [z]; rfl))
    refine ⟨_, rfl, h, R, a, D, F0, rfl, tlF, ne, fun t eo ht => fun H4 s4 => ?_⟩
    rw [eo] at ed
    have rep4 := rep3.same s4
    have hti := tlF.lt t ht
    obtain ⟨dt, htt⟩ := rep4.tyre t hti
    refine ⟨_, rfl, R.ta t, CT, dt, _, _, rfl, htt, T.clT, T.nT_number, rfl, _, rfl, _, rfl, _, rfl, h, R, a, t, c, rfl, rep4, hti, h1, fun H5 rep5 kp5 => ⟨(by show 2 ≤ sizeLine; decide), fun l hl => ?_⟩⟩
    exact q.tyre1 (i := t) hti (by rw [ed]; show t < (a.set t _).tyres.length; rw [set_len]; exact hti) (s03.trans s4) (by rw [ed]; exact rep5) kp5 hl (by rw [ed]; rfl)
theorem sc_claim_tyre : FnScope ["house", "number", "tyre"] ["house", "number"] (defScope s_claim_tyre) := ⟨rfl, rfl, rfl, by decide +kernel, rfl, by decide +kernel, by decide +kernel⟩
theorem ok_claim_tyre (T : Txt K mg CT CW fT fW) : Has P w K mg base 2 "claim_tyre" ["house", "number"] (spClaim CT CW) := T.d_claim_tyre.has fun f fd F => by
  refine F.ok sc_claim_tyre (fun vs H Q E h => ?_) (fun cdv A outer s H vs Q E hr h => ?_)
  · obtain ⟨h, R, a, t, rfl, _⟩ := h
    rfl
  · obtain ⟨h, R, a, t, rfl, rep, q⟩ := h
    obtain ⟨dh, hh⟩ := rep.house
    refine ⟨_, (pss_cons (ps_if (pt_val (pe_callH (ok_lacks_tyre T) (hr.mono (by decide)) (by rfl) (pa_cons (pv 0) (pa_cons (pv 1) pa_nil)))) (pss_one (ps_ret (pe_lst (pa_cons (pgi T.c_NO_SUCH (by rfl)) pa_nil)))) pss_nil) (pss_cons (ps_set (i := 2) sc_claim_tyre.nd rfl (Or.inl rfl) (pe_ix ix_list (pe_fld (pv 0) rfl) (pv 1) (fun _ _ => rfl))) (pss_cons (ps_if (pt_cmpR op_eq (pe_fld (pv 2) rfl) (pgi T.c_IN_RACK (by rfl)) (nomark _)) (pss_one (ps_ret (pe_lst (pa_cons (pgi T.c_NOT_SO (by rfl)) pa_nil)))) pss_nil) (pss_cons (ps_if (pt_val (pe_fld (pv 2) rfl)) (pss_one (ps_ret (pe_lst (pa_cons (pgi T.c_SO_ALREADY (by rfl)) pa_nil)))) pss_nil) (pss_cons (ps_if (pt_cmpR op_ge (pe_callB call_len_seq (by rfl) T.b_len PySem.boot_len (pa_cons (pe_callH (ok_claimed_tyres T) (hr.mono (by decide)) (by rfl) (pa_cons (pv 0) pa_nil)) pa_nil)) (pgi T.c_MOST_CLAIMS (by rfl)) (nomark _)) (pss_one (ps_ret (pe_lst (pa_cons (pgi T.c_TOO_MANY (by rfl)) pa_nil)))) pss_nil) (pss_cons (ps_fld (pv 2) pe_bl rfl) (pss_one (ps_ret (pe_lst (pa_cons (pe_callB call_len_seq (by rfl) T.b_len PySem.boot_len (pa_cons (pe_callH (ok_claimed_tyres T) (hr.mono (by decide)) (by rfl) (pa_cons (pv 0) pa_nil)) pa_nil)) pa_nil)))))))))), ?_⟩
    have ed : Su69.does a (.claim t) = if a.isT t = false then (a, Su69.no (-2)) else if (a.tyre t).how = 0 then (a, Su69.no (-16)) else if (a.tyre t).claimed then (a, Su69.no (-17)) else if Su69.CLAIMS ≤ a.claims.length then (a, Su69.no (-28)) else (a.set t fun x => { x with claimed := true }, Su69.num (a.claims.length + 1) []) := rfl
    refine ⟨_, rfl, _, rfl, h, R, a, t, rfl, rep, fun H1 s1 => ⟨_, rfl, ite2 (fun h0 => ⟨(by show 1 ≤ sizeLine; decide), fun l hl => ?_⟩) fun h0 => ?_⟩⟩
    · exact q.ref1 rep (by rw [ed, if_pos (notT h0)]) s1 hl
    obtain ⟨y1, y2⟩ := yesT h0
    rw [if_neg (by rw [y1]; simp)] at ed
    have rep1 := rep.same s1
    obtain ⟨dx, ht⟩ := rep1.tyre t y2
    refine ⟨_, rfl, h, CW, dh, _, _, rfl, s1 _ _ hh, T.clW, T.nW_tyres, rfl, _, rfl, R.lt, _, _, tr R t, rfl, rfl, SqL.of rep1.tyres, atI_nat (rep.tyreAt y2), ?_⟩
    refine ⟨_, rfl, R.ta t, CT, dx, _, _, rfl, ht, T.clT, T.nT_stage, rfl, rfl, _, rfl, ?_⟩
    rw [show V.int 0 = iv 0 from rfl, eq_nat]
    refine ite2 (fun h2 => ⟨(by show 1 ≤ sizeLine; decide), fun l hl => ?_⟩) fun h2 => ?_
    · exact q.ref1 rep (by rw [ed, if_pos (by simpa using h2)]) s1 hl
    rw [if_neg (by simpa using h2)] at ed
    refine ⟨_, rfl, R.ta t, CT, dx, _, _, rfl, ht, T.clT, T.nT_claimed, rfl, _, rfl, ite2 (fun h3 => ⟨(by show 1 ≤ sizeLine; decide), fun l hl => ?_⟩) fun h3 => ?_⟩
    · exact q.ref1 rep (by rw [ed, if_pos h3]) s1 hl
    rw [if_neg h3] at ed
    refine ⟨_, rfl, h, R, a, rfl, rep1, fun H2 lc s2 n2 hlc => ⟨lc, _, rfl, .inl (SqL.of hlc), _, _, rfl, rfl, _, rfl, ?_⟩⟩
    have s02 := s1.trans s2
    rw [List.length_map, show (20 : Int) = ((20 : Nat) : Int) from rfl, le_nat]
    refine ite2 (fun h4 => ⟨(by show 1 ≤ sizeLine; decide), fun l hl => ?_⟩) fun h4 => ?_
    · exact q.ref1 rep (by rw [ed, if_pos (show Su69.CLAIMS ≤ _ from of_decide_eq_true h4)]) s02 hl
    rw [if_neg (show ¬ Su69.CLAIMS ≤ a.claims.length from fun z => h4 (decide_eq_true z))] at ed
    have rep2 := rep1.same s2
    obtain ⟨dx2, ht2⟩ := rep2.tyre t y2
    refine ⟨_, rfl, R.ta t, CT, dx2, _, rfl, ht2, T.clT, T.nT_claimed, (by show 6 < 1000; decide), ?_⟩
    have kp3 : ∀ b o, H2 b = some o → b ≠ R.ta t → (upd H2 (R.ta t) (.ins CT dx2 (putF "claimed" (.bl true) (tfs t (R.ma t) (a.tyre t))))) b = some o := fun b o e hb => by rw [upd_ne hb]; exact e
    have rep3 : Rep CT CW (upd H2 (R.ta t) (.ins CT dx2 (putF "claimed" (.bl true) (tfs t (R.ma t) (a.tyre t))))) h R (a.set t fun x => { x with claimed := true }) :=
      Rep.setT rep2 y2 (f := fun x => { x with claimed := true }) rfl (good_claim rep.good y2) (dx := dx2) (by rw [upd_same]; rfl) kp3
    refine ⟨_, rfl, h, R, _, rfl, rep3, fun H4 lc4 s4 n4 hlc4 => ⟨lc4, _, rfl, .inl (SqL.of hlc4), (by show 1 ≤ sizeLine; decide), fun l hl => ?_⟩⟩
    refine q.tyre1 (i := t) y2 (by rw [ed]; show t < (a.set t _).tyres.length; rw [set_len]; exact y2) s02 (by rw [ed]; exact rep3.same s4) (fun b o e hb => s4 _ _ (kp3 b o e hb)) hl ?_
    rw [ed, List.length_map, claims_more y2 (by simpa using h3)]
    rfl
theorem sc_take_back : FnScope ["house", "number", "tyre"] ["house", "number"] (defScope s_take_back) := ⟨rfl, rfl, rfl, by decide +kernel, rfl, by decide +kernel, by decide +kernel⟩
theorem ok_take_back (T : Txt K mg CT CW fT fW) : Has P w K mg base 2 "take_back" ["house", "number"] (spBack CT CW) := T.d_take_back.has fun f fd F => by
  refine F.ok sc_take_back (fun vs H Q E h => ?_) (fun cdv A outer s H vs Q E hr h => ?_)
  · obtain ⟨h, R, a, t, rfl, _⟩ := h
    rfl
  · obtain ⟨h, R, a, t, rfl, rep, q⟩ := h
    obtain ⟨dh, hh⟩ := rep.house
    refine ⟨_, (pss_cons (ps_if (pt_val (pe_callH (ok_lacks_tyre T) (hr.mono (by decide)) (by rfl) (pa_cons (pv 0) (pa_cons (pv 1) pa_nil)))) (pss_one (ps_ret (pe_lst (pa_cons (pgi T.c_NO_SUCH (by rfl)) pa_nil)))) pss_nil) (pss_cons (ps_set (i := 2) sc_take_back.nd rfl (Or.inl rfl) (pe_ix ix_list (pe_fld (pv 0) rfl) (pv 1) (fun _ _ => rfl))) (pss_cons (ps_if (pt_cmpR op_ne (pe_fld (pv 2) rfl) (pgi T.c_SENT (by rfl)) (nomark _)) (pss_one (ps_ret (pe_lst (pa_cons (pgi T.c_NOT_SO (by rfl)) pa_nil)))) pss_nil) (pss_cons (ps_fld (pv 2) (pgi T.c_COME_BACK (by rfl)) rfl) (pss_one (ps_ret (pe_lst (pa_cons (pe_fld (pv 2) rfl) (pa_cons (pe_op op_sub (pe_fld (pv 0) rfl) (pe_fld (pv 2) rfl)) pa_nil))))))))), ?_⟩
    have ed : Su69.does a (.back t) = if a.isT t = false then (a, Su69.no (-2)) else if (a.tyre t).how ≠ 1 then (a, Su69.no (-16)) else (a.set t fun x => { x with how := 2 }, Su69.num (a.tyre t).place [a.today - (a.tyre t).day]) := rfl
    refine ⟨_, rfl, _, rfl, h, R, a, t, rfl, rep, fun H1 s1 => ⟨_, rfl, ite2 (fun h0 => ⟨(by show 1 ≤ sizeLine; decide), fun l hl => ?_⟩) fun h0 => ?_⟩⟩
    · exact q.ref1 rep (by rw [ed, if_pos (notT h0)]) s1 hl
    obtain ⟨y1, y2⟩ := yesT h0
    rw [if_neg (by rw [y1]; simp)] at ed
    have rep1 := rep.same s1
    obtain ⟨dx, ht⟩ := rep1.tyre t y2
    refine ⟨_, rfl, h, CW, dh, _, _, rfl, s1 _ _ hh, T.clW, T.nW_tyres, rfl, _, rfl, R.lt, _, _, tr R t, rfl, rfl, SqL.of rep1.tyres, atI_nat (rep.tyreAt y2), ?_⟩
    refine ⟨_, rfl, R.ta t, CT, dx, _, _, rfl, ht, T.clT, T.nT_stage, rfl, rfl, _, rfl, ?_⟩
    rw [show V.int 1 = iv 1 from rfl, eq_nat]
    refine ite2 (fun h2 => ⟨(by show 1 ≤ sizeLine; decide), fun l hl => ?_⟩) fun h2 => ?_
    · exact q.ref1 rep (by rw [ed, if_pos (by simpa using h2)]) s1 hl
    have h2 : (a.tyre t).how = 1 := by simpa using h2
    rw [if_neg (by simp [h2])] at ed
    refine ⟨_, rfl, R.ta t, CT, dx, _, rfl, ht, T.clT, T.nT_stage, (by show 6 < 1000; decide), ?_⟩
    have kp3 : ∀ b o, H1 b = some o → b ≠ R.ta t → (upd H1 (R.ta t) (.ins CT dx (putF "stage" (.int 2) (tfs t (R.ma t) (a.tyre t))))) b = some o := fun b o e hb => by rw [upd_ne hb]; exact e
    have ht3 : (upd H1 (R.ta t) (.ins CT dx (putF "stage" (.int 2) (tfs t (R.ma t) (a.tyre t))))) (R.ta t) = some (.ins CT dx (tfs t (R.ma t) { a.tyre t with how := 2 })) := by rw [upd_same]; rfl
    have rep3 : Rep CT CW (upd H1 (R.ta t) (.ins CT dx (putF "stage" (.int 2) (tfs t (R.ma t) (a.tyre t))))) h R (a.set t fun x => { x with how := 2 }) :=
      Rep.setT rep1 y2 (f := fun x => { x with how := 2 }) rfl (good_back rep.good y2 h2) (dx := dx) ht3 kp3
    obtain ⟨dh3, hh3⟩ := rep3.house
    refine ⟨_, rfl, R.ta t, CT, dx, _, _, rfl, ht3, T.clT, T.nT_holder, rfl, _, rfl, h, CW, dh3, _, _, rfl, hh3, T.clW, T.nW_day, rfl, _, rfl, R.ta t, CT, dx, _, _, rfl, ht3, T.clT, T.nT_since, rfl, _, _, rfl, rfl, (by show 2 ≤ sizeLine; decide), fun l hl => ?_⟩
    refine q.tyre1 (i := t) y2 (by rw [ed]; show t < (a.set t _).tyres.length; rw [set_len]; exact y2) s1 (by rw [ed]; exact rep3) kp3 hl ?_
    rw [ed]
    have hd := rep.good.day _ (tyre_mem y2)
    have e1 : ((a.today : Nat) : Int) - (((a.tyre t).day : Nat) : Int) = ((a.today - (a.tyre t).day : Nat) : Int) := by omega
    show [iv (a.tyre t).place, V.int (((a.today : Nat) : Int) - (((a.tyre t).day : Nat) : Int))] = _
    rw [e1]
    rfl
theorem sc_recall_mark : FnScope ["house", "place", "value", "affected"] ["house", "place", "value"] (defScope s_recall_mark) := ⟨rfl, rfl, rfl, by decide +kernel, rfl, by decide +kernel, by decide +kernel⟩
theorem ok_recall_mark (T : Txt K mg CT CW fT fW) : Has P w K mg base 3 "recall_mark" ["house", "place", "value"] (spRecall CT CW) := T.d_recall_mark.has fun f fd F => by
  refine F.ok sc_recall_mark (fun vs H Q E h => ?_) (fun cdv A outer s H vs Q E hr h => ?_)
  · obtain ⟨h, R, a, k, v, rfl, _⟩ := h
    rfl
  · obtain ⟨h, R, a, k, v, rfl, rep, q⟩ := h
    obtain ⟨dh, hh⟩ := rep.house
    obtain ⟨ps, hps, hms⟩ := rep.recd
    refine ⟨_, (pss_cons (ps_if (pt_val (pe_callH (ok_is_no_mark T) (hr.mono (by decide)) (by rfl) (pa_cons (pv 1) (pa_cons (pv 2) pa_nil)))) (pss_one (ps_ret (pe_lst (pa_cons (pgi T.c_OUT_OF_RANGE (by rfl)) pa_nil)))) pss_nil) (pss_cons (ps_if (pt_cmpR (op_inM (hu_of hr)) (pe_tup (pa_cons (pv 1) (pa_cons (pv 2) pa_nil))) (pe_fld (pv 0) rfl) (by with_unfolding_all rfl)) (pss_one (ps_ret (pe_lst (pa_cons (pgi T.c_SO_ALREADY (by rfl)) pa_nil)))) pss_nil) (pss_cons (ps_if (pt_cmpR op_ge (pe_callB call_len_seq (by rfl) T.b_len PySem.boot_len (pa_cons (pe_fld (pv 0) rfl) pa_nil)) (pgi T.c_MOST_RECALLS (by rfl)) (nomark _)) (pss_one (ps_ret (pe_lst (pa_cons (pgi T.c_TOO_MANY (by rfl)) pa_nil)))) pss_nil) (pss_cons (ps_expr (pe_bm PySem.F.plainAttrs_list PySem.F.slot_list_append PySem.F.type_list_append mt_append (pe_fld (pv 0) rfl) (pa_cons (pe_tup (pa_cons (pv 1) (pa_cons (pv 2) pa_nil))) pa_nil))) (pss_cons (ps_set (i := 3) sc_recall_mark.nd rfl (Or.inl rfl) (pe_callH (ok_tyres_with T) (hr.mono (by decide)) (by rfl) (pa_cons (pv 0) (pa_cons (pv 1) (pa_cons (pv 2) pa_nil))))) (pss_one (ps_ret (pe_lst (pa_cons (pe_callH (ok_count_at_stage T) (hr.mono (by decide)) (by rfl) (pa_cons (pv 3) (pa_cons (pgi T.c_SENT (by rfl)) pa_nil))) (pa_cons (pe_callH (ok_count_at_stage T) (hr.mono (by decide)) (by rfl) (pa_cons (pv 3) (pa_cons (pgi T.c_IN_RACK (by rfl)) pa_nil))) pa_nil)))))))))), ?_⟩
    have ed : Su69.does a (.recall k v) = if Su69.okMark k v = false then (a, Su69.no (-22)) else if a.recalled.contains (k, v) then (a, Su69.no (-17)) else if Su69.RECALLS ≤ a.recalled.length then (a, Su69.no (-28)) else ({ a with recalled := a.recalled ++ [(k, v)] }, Su69.num (a.out (k, v)).length [((a.with_ (k, v)).filter fun t => (a.tyre t).how == 0).length]) := rfl
    refine ⟨_, rfl, _, rfl, k, v, rfl, fun H1 s1 => ⟨_, rfl, ite2 (fun h0 => ⟨(by show 1 ≤ sizeLine; decide), fun l hl => ?_⟩) fun h0 => ?_⟩⟩
    · exact q.ref1 rep (by rw [ed, if_pos (noM h0)]) s1 hl
    obtain ⟨y1, y2⟩ := yesM h0
    rw [if_neg (by rw [y1]; simp)] at ed
    refine ⟨_, rfl, _, rfl, (by show 2 ≤ sizeLine; decide), fun tp htp => ?_⟩
    have s2 := s1.trans (Same.new (o := HO.tup [iv k, iv v]) htp)
    refine ⟨_, rfl, h, CW, dh, _, _, rfl, s2 _ _ hh, T.clW, T.nW_recalled, rfl, tp, R.lr, km (k, v), ps, a.recalled.map km, rfl, rfl, upd_same, SqL.of (s2 _ _ hps), hms.same s2, _, rfl, ?_⟩
    rw [if_neg Bool.false_ne_true, kms_contains]
    refine ite2 (fun h1 => ⟨(by show 1 ≤ sizeLine; decide), fun l hl => ?_⟩) fun h1 => ?_
    · exact q.ref1 rep (by rw [ed, if_pos h1]) s2 hl
    rw [if_neg h1] at ed
    refine ⟨_, rfl, h, CW, dh, _, _, rfl, s2 _ _ hh, T.clW, T.nW_recalled, rfl, R.lr, _, rfl, .inl (SqL.of (s2 _ _ hps)), _, _, rfl, rfl, _, rfl, ?_⟩
    have hlen : ps.length = a.recalled.length := by have := hms.length; rw [List.length_map] at this; exact this
    rw [List.length_map, hlen, show (10 : Int) = ((10 : Nat) : Int) from rfl, le_nat]
    refine ite2 (fun h2 => ⟨(by show 1 ≤ sizeLine; decide), fun l hl => ?_⟩) fun h2 => ?_
    · exact q.ref1 rep (by rw [ed, if_pos (show Su69.RECALLS ≤ _ from of_decide_eq_true h2)]) s2 hl
    have h2' : a.recalled.length < 10 := Nat.lt_of_not_le fun z => h2 (decide_eq_true z)
    rw [if_neg (show ¬ Su69.RECALLS ≤ a.recalled.length from fun z => h2 (decide_eq_true z))] at ed
    refine ⟨_, rfl, h, CW, dh, _, _, rfl, s2 _ _ hh, T.clW, T.nW_recalled, rfl, .inl ⟨rfl, _, SqL.of (s2 _ _ hps)⟩, _, rfl, _, rfl, (by show 2 ≤ sizeLine; decide), fun tq htq => ?_⟩
    have s3 := s2.trans (Same.new (o := HO.tup [iv k, iv v]) htq)
    refine ⟨R.lr, _, _, rfl, rfl, s3 _ _ hps, by rw [List.length_map, hlen, sizeLine_eq]; omega, ?_⟩
    generalize hH3 : (upd (upd H1 tp (HO.tup [iv k, iv v])) tq (HO.tup [iv k, iv v])) = H3 at s3
    have tq3 : MkAt H3 tq (km (k, v)) := by rw [← hH3]; exact upd_same
    have kp4 : ∀ b o, H3 b = some o → b ≠ R.lr → (upd H3 R.lr (.lst (ps.map V.ref ++ [.ref tq]))) b = some o := fun b o e hb => by rw [upd_ne hb]; exact e
    have upT : ∀ {b : Addr} {m : List Int}, MkAt H3 b m → MkAt (upd H3 R.lr (.lst (ps.map V.ref ++ [.ref tq]))) b m := fun {b m} e => kp4 _ _ e (ne_of e (s3 _ _ hps) (by intro z; cases z))
    have rep4 : Rep CT CW (upd H3 R.lr (.lst (ps.map V.ref ++ [.ref tq]))) h R { a with recalled := a.recalled ++ [(k, v)] } := by
      refine Rep.recs (rep.same s3) (good_recall rep.good y2 (fun z => h1 (List.contains_iff_mem.mpr z)) h2') (ps := ps ++ [tq]) (by rw [upd_same, List.map_append]; rfl) ?_ kp4
      rw [List.map_append]
      exact Mks.append (Paired.mapP (hms.same s3) fun _ _ e => upT e) (.cons (upT tq3) .nil)
    refine ⟨_, rfl, _, rfl, _, rfl, h, R, _, k, v, rfl, rep4, y2.1, fun H5 la s5 n5 hla => ?_⟩
    have rep5 := rep4.same s5
    have hla : H5 la = some (.lst ((a.with_ (k, v)).map (tr R))) := hla
    have tl5 := rep5.tl hla (show (a.with_ (k, v)).Sublist a.all from List.filter_sublist)
    refine ⟨_, rfl, h, R, _, la, a.with_ (k, v), 1, rfl, rep5, hla, tl5.lt, tl5.few, fun H6 s6 => ⟨_, rfl, h, R, _, la, a.with_ (k, v), 0, rfl, rep5.same s6, s6 _ _ hla, tl5.lt, tl5.few, fun H7 s7 => ⟨(by show 2 ≤ sizeLine; decide), fun l hl => ?_⟩⟩⟩
    exact q.recs1 s3 (by rw [ed]; exact (rep5.same s6).same s7) (fun b o e hb => s7 _ _ (s6 _ _ (s5 _ _ (kp4 b o e hb)))) hl (by rw [ed]; rfl)
theorem sc_lift_mark : FnScope ["house", "place", "value"] ["house", "place", "value"] (defScope s_lift_mark) := ⟨rfl, rfl, rfl, by decide +kernel, rfl, by decide +kernel, by decide +kernel⟩
theorem ok_lift_mark (T : Txt K mg CT CW fT fW) : Has P w K mg base 2 "lift_mark" ["house", "place", "value"] (spLift CT CW) := T.d_lift_mark.has fun f fd F => by
  refine F.ok sc_lift_mark (fun vs H Q E h => ?_) (fun cdv A outer s H vs Q E hr h => ?_)
  · obtain ⟨h, R, a, k, v, rfl, _⟩ := h
    rfl
  · obtain ⟨h, R, a, k, v, rfl, rep, q⟩ := h
    obtain ⟨dh, hh⟩ := rep.house
    obtain ⟨ps, hps, hms⟩ := rep.recd
    refine ⟨_, (pss_cons (ps_if (pt_val (pe_callH (ok_is_no_mark T) (hr.mono (by decide)) (by rfl) (pa_cons (pv 1) (pa_cons (pv 2) pa_nil)))) (pss_one (ps_ret (pe_lst (pa_cons (pgi T.c_OUT_OF_RANGE (by rfl)) pa_nil)))) pss_nil) (pss_cons (ps_if (pt_cmpR (op_notInM (hu_of hr)) (pe_tup (pa_cons (pv 1) (pa_cons (pv 2) pa_nil))) (pe_fld (pv 0) rfl) (by with_unfolding_all rfl)) (pss_one (ps_ret (pe_lst (pa_cons (pgi T.c_NO_SUCH (by rfl)) pa_nil)))) pss_nil) (pss_cons (ps_expr (pe_bm PySem.F.plainAttrs_list PySem.F.slot_list_remove PySem.F.type_list_remove (mt_removeM (hu_of hr)) (pe_fld (pv 0) rfl) (pa_cons (pe_tup (pa_cons (pv 1) (pa_cons (pv 2) pa_nil))) pa_nil))) (pss_one (ps_ret (pe_lst (pa_cons (pe_callB call_len_seq (by rfl) T.b_len PySem.boot_len (pa_cons (pe_fld (pv 0) rfl) pa_nil)) pa_nil))))))), ?_⟩
    have ed : Su69.does a (.lift k v) = if Su69.okMark k v = false then (a, Su69.no (-22)) else if a.recalled.contains (k, v) = false then (a, Su69.no (-2)) else ({ a with recalled := a.recalled.filter fun x => x != (k, v) }, Su69.num (a.recalled.length - 1) []) := rfl
    refine ⟨_, rfl, _, rfl, k, v, rfl, fun H1 s1 => ⟨_, rfl, ite2 (fun h0 => ⟨(by show 1 ≤ sizeLine; decide), fun l hl => ?_⟩) fun h0 => ?_⟩⟩
    · exact q.ref1 rep (by rw [ed, if_pos (noM h0)]) s1 hl
    obtain ⟨y1, y2⟩ := yesM h0
    rw [if_neg (by rw [y1]; simp)] at ed
    refine ⟨_, rfl, _, rfl, (by show 2 ≤ sizeLine; decide), fun tp htp => ?_⟩
    have s2 := s1.trans (Same.new (o := HO.tup [iv k, iv v]) htp)
    refine ⟨_, rfl, h, CW, dh, _, _, rfl, s2 _ _ hh, T.clW, T.nW_recalled, rfl, tp, R.lr, km (k, v), ps, a.recalled.map km, rfl, rfl, upd_same, SqL.of (s2 _ _ hps), hms.same s2, _, rfl, ?_⟩
    rw [if_pos rfl, kms_contains]
    refine ite2 (fun h1 => ⟨(by show 1 ≤ sizeLine; decide), fun l hl => ?_⟩) fun h1 => ?_
    · exact q.ref1 rep (by rw [ed, if_pos (by simpa using h1)]) s2 hl
    have h1 : a.recalled.contains (k, v) = true := by simpa using h1
    have hin : (k, v) ∈ a.recalled := List.contains_iff_mem.mp h1
    rw [if_neg (by rw [h1]; simp)] at ed
    have hlen : ps.length = a.recalled.length := by have := hms.length; rw [List.length_map] at this; exact this
    obtain ⟨j, hj, hno, her⟩ : ∃ j, a.recalled[j]? = some (k, v) ∧ (∀ m, m < j → a.recalled[m]? ≠ some (k, v)) ∧ a.recalled.eraseIdx j = a.recalled.filter fun x => x != (k, v) := by
      obtain ⟨j, a1, a2, a3⟩ := first_at hin
      exact ⟨j, a1, a2, by rw [a3, erase_is rep.good.rnd]⟩
    refine ⟨_, rfl, h, CW, dh, _, _, rfl, s2 _ _ hh, T.clW, T.nW_recalled, rfl, .inl ⟨rfl, _, SqL.of (s2 _ _ hps)⟩, _, rfl, _, rfl, (by show 2 ≤ sizeLine; decide), fun tq htq => ?_⟩
    have s3 := s2.trans (Same.new (o := HO.tup [iv k, iv v]) htq)
    refine ⟨R.lr, tq, km (k, v), ps, a.recalled.map km, j, rfl, rfl, s3 _ _ hps, upd_same, hms.same s3, by rw [List.getElem?_map, hj]; rfl, fun m hm e => ?_, ?_⟩
    · rw [List.getElem?_map] at e
      obtain ⟨x, e1, e2⟩ := Option.map_eq_some_iff.mp e
      exact hno m hm (by rw [e1, km_inj e2])
    generalize hH3 : (upd (upd H1 tp (HO.tup [iv k, iv v])) tq (HO.tup [iv k, iv v])) = H3 at s3
    have kp4 : ∀ b o, H3 b = some o → b ≠ R.lr → (upd H3 R.lr (.lst ((ps.eraseIdx j).map V.ref))) b = some o := fun b o e hb => by rw [upd_ne hb]; exact e
    have upT : ∀ {b : Addr} {m : List Int}, MkAt H3 b m → MkAt (upd H3 R.lr (.lst ((ps.eraseIdx j).map V.ref))) b m := fun {b m} e => kp4 _ _ e (ne_of e (s3 _ _ hps) (by intro z; cases z))
    have era : ∀ {ps : List Addr} {ms : List (Nat × Nat)} (j : Nat), Mks H3 ps (ms.map km) → Mks (upd H3 R.lr (.lst ((ps.eraseIdx j).map V.ref))) (ps.eraseIdx j) ((ms.eraseIdx j).map km) ∨ True := fun _ _ => .inr trivial
    have hm4 : Mks (upd H3 R.lr (.lst ((ps.eraseIdx j).map V.ref))) (ps.eraseIdx j) ((a.recalled.eraseIdx j).map km) := by
      have go : ∀ (ps : List Addr) (ms : List (Nat × Nat)) (j : Nat), Mks H3 ps (ms.map km) → Mks H3 (ps.eraseIdx j) ((ms.eraseIdx j).map km) := fun ps => by
        induction ps with
        | nil =>
          intro ms j hm
          cases ms with
          | nil => exact .nil
          | cons x r => rw [List.map_cons] at hm; cases hm
        | cons p ps ih =>
          intro ms j hm
          cases ms with
          | nil => cases hm
          | cons x r =>
            rw [List.map_cons] at hm
            cases hm with
            | cons a1 r1 =>
              cases j with
              | zero => exact r1
              | succ j => exact .cons a1 (ih r j r1)
      exact Paired.mapP (go ps a.recalled j (hms.same s3)) fun _ _ e => upT e
    have rep4 : Rep CT CW (upd H3 R.lr (.lst ((ps.eraseIdx j).map V.ref))) h R { a with recalled := a.recalled.filter fun x => x != (k, v) } := by
      rw [her] at hm4
      exact Rep.recs (rep.same s3) (good_lift rep.good (k, v)) upd_same hm4 kp4
    obtain ⟨dh4, hh4⟩ := rep4.house
    refine ⟨_, rfl, h, CW, dh4, _, _, rfl, hh4, T.clW, T.nW_recalled, rfl, R.lr, _, rfl, .inl (SqL.of upd_same), (by show 1 ≤ sizeLine; decide), fun l hl => ?_⟩
    refine q.recs1 s3 (by rw [ed]; exact rep4) kp4 hl ?_
    have e5 : (ps.eraseIdx j).length = a.recalled.length - 1 := by
      have := hm4.length
      rw [List.length_map, her, lift_len rep.good.rnd hin] at this
      exact this
    rw [ed, List.length_map, e5]
    rfl
end
end Rt
end

section
set_option Elab.async false
set_option linter.all false
set_option maxRecDepth 100000
set_option maxHeartbeats 2000000
namespace Rt
open PySem PySem.Spec PyProof.Rows L2
open Su69 (Abs)

theorem nat_ans (n : Nat) (l : List Nat) : (ans (Su69.num n l)).map V.int = iv n :: l.map iv := by
  show V.int _ :: (Su69Neutral.outs l).map V.int = _
  unfold Su69Neutral.outs
  rw [List.map_map]; rfl
/-- who has some: the customers, rising -/
theorem clients_is {a : Abs} (g : Good a) {l : List Nat} (hl : ∀ i ∈ l, i < a.tyres.length ∧ (a.tyre i).how = 1) {ns : List Int} (nd : ns.Nodup) (pw : ns.Pairwise (· ≤ ·)) (hm : ∀ k, k ∈ ns ↔ k ∈ l.map fun i => ((a.tyre i).place : Int)) : ns = (a.clients l).map fun (n : Nat) => (n : Int) := by
  have strict : ns.Pairwise (· < ·) := by
    refine List.Pairwise.imp₂ (fun x y h1 h2 => ?_) pw nd
    have : x ≠ y := h2
    omega
  have strict2 : ((a.clients l).map fun (n : Nat) => (n : Int)).Pairwise (· < ·) := by
    rw [List.pairwise_map]
    unfold Su69.Abs.clients
    refine List.Pairwise.imp (fun {x y} h => ?_) (List.Pairwise.filter _ List.pairwise_lt_range)
    omega
  have mem : ∀ k, k ∈ ns ↔ k ∈ (a.clients l).map fun (n : Nat) => (n : Int) := fun k => by
    rw [hm, List.mem_map, List.mem_map]
    unfold Su69.Abs.clients
    constructor
    · rintro ⟨i, hi, rfl⟩
      refine ⟨(a.tyre i).place, List.mem_filter.mpr ⟨List.mem_range.mpr ?_, List.any_eq_true.mpr ⟨i, hi, beq_self_eq_true _⟩⟩, rfl⟩
      have := (g.at_ (hl i hi).1).cust (by rw [(hl i hi).2]; decide)
      exact this
    · rintro ⟨c, hc, rfl⟩
      obtain ⟨i, hi, e⟩ := List.any_eq_true.mp (List.mem_filter.mp hc).2
      exact ⟨i, hi, by rw [eq_of_beq e]⟩
  have go : ∀ (l m : List Int), l.Pairwise (· < ·) → m.Pairwise (· < ·) → (∀ x, x ∈ l ↔ x ∈ m) → l = m := fun l => by
    induction l with
    | nil =>
      intro m _ _ h
      cases m with
      | nil => rfl
      | cons y m => exact absurd ((h y).mpr (List.mem_cons_self ..)) (by simp)
    | cons x l ih =>
      intro m hl hm h
      cases m with
      | nil => exact absurd ((h x).mp (List.mem_cons_self ..)) (by simp)
      | cons y m =>
        obtain ⟨l1, l2⟩ := List.pairwise_cons.mp hl
        obtain ⟨m1, m2⟩ := List.pairwise_cons.mp hm
        have e : x = y := by
          rcases List.mem_cons.mp ((h x).mp (List.mem_cons_self ..)) with e | q
          · exact e
          · rcases List.mem_cons.mp ((h y).mpr (List.mem_cons_self ..)) with e | p
            · exact e.symm
            · have a := m1 x q; have b := l1 y p; omega
        subst e
        rw [ih m l2 m2 fun z => ?_]
        constructor
        · intro hz
          rcases List.mem_cons.mp ((h z).mp (List.mem_cons_of_mem _ hz)) with e | q
          · subst e; exact absurd (l1 z hz) (Int.lt_irrefl _)
          · exact q
        · intro hz
          rcases List.mem_cons.mp ((h z).mpr (List.mem_cons_of_mem _ hz)) with e | q
          · subst e; exact absurd (m1 z hz) (Int.lt_irrefl _)
          · exact q
  exact go _ _ strict strict2 mem
section
variable (K : PySem.W.Frag) (CT CW : Addr)
def spNumbers : Sp := fun vs H Q _ => ∃ h R a l is, vs = [.ref l] ∧ TL CT CW H h R a l is ∧ RetL H Q (is.map iv)
def spCounted : Sp := fun vs H Q _ => ∃ (l : Addr) (ns : List Nat), vs = [.ref l] ∧ H l = some (.lst (ns.map iv)) ∧ ns.length ≤ 60 ∧ RetL H Q (iv ns.length :: ns.map iv)
def spWho : Sp := fun vs H Q _ => ∃ h R a k v, vs = [.ref h, iv k, iv v] ∧ Rep CT CW H h R a ∧ Fin CT CW H h R a (Su69.does a (.who k v)) Q
def spListRec : Sp := fun vs H Q _ => ∃ h R a st, vs = [.ref h, iv st] ∧ Rep CT CW H h R a ∧ RetL H Q (iv (a.all.filter fun t => (a.tyre t).how == st && a.bad t).length :: (a.all.filter fun t => (a.tyre t).how == st && a.bad t).map iv)
def spStock : Sp := fun vs H Q _ => ∃ h R a r, vs = [.ref h, iv r] ∧ Rep CT CW H h R a ∧ Fin CT CW H h R a (Su69.does a (.stock r)) Q
def spWith : Sp := fun vs H Q _ => ∃ h R a k v, vs = [.ref h, iv k, iv v] ∧ Rep CT CW H h R a ∧ Fin CT CW H h R a (Su69.does a (.with_ k v)) Q
def spSentTo : Sp := fun vs H Q _ => ∃ h R a c, vs = [.ref h, iv c] ∧ Rep CT CW H h R a ∧ Fin CT CW H h R a (Su69.does a (.sentTo c)) Q
def spNext : Sp := fun vs H Q _ => ∃ h R a, vs = [.ref h] ∧ Rep CT CW H h R a ∧ Fin CT CW H h R a (Su69.does a .next) Q
def spLook : Sp := fun vs H Q _ => ∃ h R a t, vs = [.ref h, iv t] ∧ Rep CT CW H h R a ∧ Fin CT CW H h R a (Su69.does a (.look t)) Q
def spSums : Sp := fun vs H Q _ => ∃ h R a, vs = [.ref h] ∧ Rep CT CW H h R a ∧ Fin CT CW H h R a (Su69.does a .sums) Q
def spState : Sp := fun vs H Q _ => ∃ h R a, vs = [.ref h] ∧ Rep CT CW H h R a ∧ Fin CT CW H h R a (Su69.does a .state) Q
end
theorem notR {a : Abs} {t : Nat} (h : decide (a.racks.length ≤ t) = true) : a.isR t = false := by
  have := of_decide_eq_true h
  unfold Su69.Abs.isR
  exact decide_eq_false (by omega)
theorem yesR {a : Abs} {t : Nat} (h : ¬ decide (a.racks.length ≤ t) = true) : a.isR t = true ∧ t < a.racks.length := by
  have : ¬ a.racks.length ≤ t := fun z => h (decide_eq_true z)
  exact ⟨isR_iff.mpr (by omega), by omega⟩
/-- the answer is a list of tyres with how many they are -/
theorem Fin.lst {CT CW : Addr} {H : Hp} {h : Addr} {R : RD} {a : Abs} {x : Abs × Su69.Ans} {Q : VK} (f : Fin CT CW H h R a x Q) (r : Rep CT CW H h R a) {l : List Nat} (e : x = (a, Su69.list l)) : RetL H Q (iv l.length :: l.map iv) := fun H' p s n q =>
  f.read r (by rw [e]) s n q (by rw [e]; exact (nat_ans l.length l).symm)
section
variable {P : Program} {w : World} {K : PySem.W.Frag} {mg : Str → Option Value} {base : Heap} {CT CW fT fW : Addr}
theorem sc_numbers_of : FnScope ["tyres", "tyre"] ["tyres"] (defScope s_numbers_of) := ⟨rfl, rfl, rfl, by decide +kernel, rfl, by decide +kernel, by decide +kernel⟩
theorem ok_numbers_of (T : Txt K mg CT CW fT fW) : Has P w K mg base 1 "numbers_of" ["tyres"] (spNumbers CT CW) := T.d_numbers_of.has fun f fd F => by
  refine F.ok sc_numbers_of (fun vs H Q E h => ?_) (fun cdv A outer s H vs Q E hr h => ?_)
  · obtain ⟨h, R, a, l, is, rfl, _⟩ := h
    rfl
  · obtain ⟨h, R, a, l, is, rfl, tl, q⟩ := h
    refine ⟨_, (pss_one (ps_ret (pe_lc (own := [("tyre", 1)]) rfl sc_numbers_of.nd (pi_list (pv 0)) (blkOk_by (by show blkC ["tyres", "tyre"] (defScope s_numbers_of) _ _ = true; decide +kernel)) (fun _ _ _ _ _ => pg_name (i := 1) sc_numbers_of.nd rfl (Or.inl rfl)) (fun _ _ _ _ _ => pts_nil) (fun _ _ _ _ _ => pe_fldK K (pv 1))))), ?_⟩
    refine ⟨_, rfl, l, rfl, ⟨_, SqL.of tl.lst⟩, fun D hD => ?_⟩
    refine lc_filter is (tr R) (fun _ => true) iv hD (SqL.of tl.lst) (sixty tl.few) (fun i hi H1 s1 Qt hq => hq H1 (Same.refl _)) (fun i hi _ H1 s1 Qe hq => ?_) (fun H' s1 hD' => q H' D s1 hD ?_)
    · obtain ⟨dx, ht⟩ := tl.rep.tyre i (tl.lt i hi)
      exact ⟨_, rfl, R.ta i, CT, dx, _, _, rfl, s1 _ _ ht, T.clT, T.nT_number, rfl, hq H1 (Same.refl _)⟩
    · rw [hD', List.filter_eq_self.mpr (fun _ _ => rfl)]
theorem sc_counted : FnScope ["numbers"] ["numbers"] (defScope s_counted) := ⟨rfl, rfl, rfl, by decide +kernel, rfl, by decide +kernel, by decide +kernel⟩
theorem ok_counted (T : Txt K mg CT CW fT fW) : Has P w K mg base 1 "counted" ["numbers"] (spCounted) := T.d_counted.has fun f fd F => by
  refine F.ok sc_counted (fun vs H Q E h => ?_) (fun cdv A outer s H vs Q E hr h => ?_)
  · obtain ⟨l, ns, rfl, _⟩ := h
    rfl
  · obtain ⟨l, ns, rfl, hl, h60, q⟩ := h
    refine ⟨_, (pss_one (ps_ret (pe_op op_cat (pe_lst (pa_cons (pe_callB call_len_seq (by rfl) T.b_len PySem.boot_len (pa_cons (pv 0) pa_nil)) pa_nil)) (pv 0)))), ?_⟩
    refine ⟨_, rfl, l, _, rfl, .inl (SqL.of hl), (by show 1 ≤ sizeLine; decide), fun p hp => ⟨_, rfl, p, l, _, _, rfl, rfl, upd_same, Same.new hp _ _ hl, ?_, fun p2 hp2 => ?_⟩⟩
    · show 1 + (ns.map iv).length ≤ sizeLine
      rw [List.length_map, sizeLine_eq]; omega
    · refine q _ p2 ((Same.new hp).trans (Same.new hp2)) ((Same.new hp).free hp2) ?_
      rw [upd_same, List.length_map]; rfl
theorem sc_list_customers : FnScope ["house", "place", "value", "customers", "tyre"] ["house", "place", "value"] (defScope s_list_customers) := ⟨rfl, rfl, rfl, by decide +kernel, rfl, by decide +kernel, by decide +kernel⟩
theorem ok_list_customers (T : Txt K mg CT CW fT fW) : Has P w K mg base 3 "list_customers" ["house", "place", "value"] (spWho CT CW) := T.d_list_customers.has fun f fd F => by
  refine F.ok sc_list_customers (fun vs H Q E h => ?_) (fun cdv A outer s H vs Q E hr h => ?_)
  · obtain ⟨h, R, a, k, v, rfl, _⟩ := h
    rfl
  · obtain ⟨h, R, a, k, v, rfl, rep, q⟩ := h
    refine ⟨_, (pss_cons (ps_if (pt_val (pe_callH (ok_is_no_mark T) (hr.mono (by decide)) (by rfl) (pa_cons (pv 1) (pa_cons (pv 2) pa_nil)))) (pss_one (ps_ret (pe_lst (pa_cons (pgi T.c_OUT_OF_RANGE (by rfl)) pa_nil)))) pss_nil) (pss_cons (ps_setLc (i := 3) (own := [("tyre", 4)]) rfl sc_list_customers.nd rfl rfl (sw_true rfl rfl rfl rfl) (pi_list (pe_callH (ok_tyres_with T) hr (by rfl) (pa_cons (pv 0) (pa_cons (pv 1) (pa_cons (pv 2) pa_nil))))) (blkOk_by (by show blkC ["house", "place", "value", "customers", "tyre"] (defScope s_list_customers) _ _ = true; decide +kernel)) (fun _ _ _ _ _ => pg_name (i := 4) sc_list_customers.nd rfl (Or.inl rfl)) (fun _ _ _ _ _ => pts_one (pt_cmpR op_eq (pe_fldK K (pv 4)) (pgi T.c_SENT (by rfl)) (nomark _))) (fun _ _ _ _ _ => pe_fldK K (pv 4))) (pss_one (ps_ret (pe_callH (ok_counted T) (hr.mono (by decide)) (by rfl) (pa_cons (pe_callB (cr_sortI rfl) (by rfl) T.b_sorted (by rfl) (pa_cons (pe_callTy (cr_setI rfl) (by rfl) T.b_set (by rfl) (pa_cons (pv 3) pa_nil)) pa_nil)) pa_nil)))))), ?_⟩
    have ed : Su69.does a (.who k v) = if Su69.okMark k v = false then (a, Su69.no (-22)) else (a, Su69.list (a.clients (a.out (k, v)))) := rfl
    refine ⟨_, rfl, _, rfl, k, v, rfl, fun H1 s1 => ⟨_, rfl, ite2 (fun h0 => ⟨(by show 1 ≤ sizeLine; decide), fun l hl => ?_⟩) fun h0 => ?_⟩⟩
    · exact q.ref1 rep (by rw [ed, if_pos (noM h0)]) s1 hl
    obtain ⟨y1, y2⟩ := yesM h0
    rw [if_neg (by rw [y1]; simp)] at ed
    have rep1 := rep.same s1
    refine ⟨_, rfl, _, rfl, _, rfl, h, R, a, k, v, rfl, rep1, y2.1, fun H2 lw s2 n2 hlw => ⟨lw, rfl, ⟨_, SqL.of hlw⟩, fun D hD => ?_⟩⟩
    have rep2 := rep1.same s2
    have tlw := rep2.tl hlw (show (a.with_ (k, v)).Sublist a.all from List.filter_sublist)
    refine lc_filter (a.with_ (k, v)) (tr R) (fun i => (a.tyre i).how == 1) (fun i => iv (a.tyre i).place) hD (SqL.of hlw) (sixty tlw.few) (fun i hi H3 s3 Qt hq => ?_) (fun i hi _ H3 s3 Qe hq => ?_) (fun H3 s3 hD3 => ?_)
    · obtain ⟨dx, ht⟩ := rep2.tyre i (tlw.lt i hi)
      refine ⟨_, rfl, R.ta i, CT, dx, _, _, rfl, s3 _ _ ht, T.clT, T.nT_stage, rfl, rfl, _, rfl, ?_⟩
      rw [show V.int 1 = iv 1 from rfl, eq_nat]
      exact hq H3 (Same.refl _)
    · obtain ⟨dx, ht⟩ := rep2.tyre i (tlw.lt i hi)
      exact ⟨_, rfl, R.ta i, CT, dx, _, _, rfl, s3 _ _ ht, T.clT, T.nT_holder, rfl, hq H3 (Same.refl _)⟩
    have hD3 : H3 D = some (.lst ((a.out (k, v)).map fun i => iv (a.tyre i).place)) := hD3
    have elst : ((a.out (k, v)).map fun i => iv (a.tyre i).place) = ((a.out (k, v)).map fun i => ((a.tyre i).place : Int)).map V.int := by rw [List.map_map]; rfl
    rw [elst] at hD3
    have hlen : ((a.out (k, v)).map fun i => ((a.tyre i).place : Int)).length ≤ 60 := by
      rw [List.length_map]
      exact Nat.le_trans (List.length_filter_le ..) tlw.few
    refine ⟨_, rfl, D, _, rfl, SqL.of hD3, hlen, fun S hS => ⟨S, _, rfl, upd_same, hlen, fun l2 ns' hl2 nd pw hm => ?_⟩⟩
    have ens := clients_is rep.good (l := a.out (k, v)) (fun i hi => ⟨tlw.lt i (List.mem_filter.mp hi).1, by simpa using (List.mem_filter.mp hi).2⟩) nd pw hm
    have s03 := (s1.trans s2).trans s3
    have s05 := (s03.trans (Same.new (o := IntSetO _ _ S _) hS)).trans (Same.new (o := HO.lst (ns'.map V.int)) hl2)
    refine ⟨l2, a.clients (a.out (k, v)), rfl, ?_, ?_, fun H6 p6 s6 n6 hp6 => ?_⟩
    · rw [upd_same, ens, List.map_map]; rfl
    · unfold Su69.Abs.clients
      exact Nat.le_trans (List.length_filter_le ..) (by rw [List.length_range]; decide)
    · exact q.lst rep ed H6 p6 (s05.trans s6) (s05.free n6) hp6
theorem sc_list_recalled : FnScope ["house", "stage", "tyre"] ["house", "stage"] (defScope s_list_recalled) := ⟨rfl, rfl, rfl, by decide +kernel, rfl, by decide +kernel, by decide +kernel⟩
theorem ok_list_recalled (T : Txt K mg CT CW fT fW) : Has P w K mg base 4 "list_recalled" ["house", "stage"] (spListRec CT CW) := T.d_list_recalled.has fun f fd F => by
  refine F.ok sc_list_recalled (fun vs H Q E h => ?_) (fun cdv A outer s H vs Q E hr h => ?_)
  · obtain ⟨h, R, a, st, rfl, _⟩ := h
    rfl
  · obtain ⟨h, R, a, st, rfl, rep, q⟩ := h
    obtain ⟨dh, hh⟩ := rep.house
    refine ⟨_, (pss_one (ps_ret (pe_callH (ok_counted T) (hr.mono (by decide)) (by rfl) (pa_cons (pe_callH (ok_numbers_of T) (hr.mono (by decide)) (by rfl) (pa_cons (pe_lc (own := [("tyre", 2)]) rfl sc_list_recalled.nd (pi_list (pe_fld (pv 0) rfl)) (blkOk_by (by show blkC ["house", "stage", "tyre"] (defScope s_list_recalled) _ _ = true; decide +kernel)) (fun _ _ _ _ _ => pg_name (i := 2) sc_list_recalled.nd rfl (Or.inl rfl)) (fun _ _ _ _ _ => pts_one (pw_and (pt_cmpR op_eq (pe_fldK K (pv 2)) (pv 1) (nomark _)) (pw_and1 (pt_val (pe_callH (ok_is_recalled T) hr (by rfl) (pa_cons (pv 0) (pa_cons (pv 2) pa_nil)))))).pt) (fun _ _ _ _ _ => pv 2)) pa_nil)) pa_nil)))), ?_⟩
    refine ⟨_, rfl, h, CW, dh, _, _, rfl, hh, T.clW, T.nW_tyres, rfl, R.lt, rfl, ⟨_, SqL.of rep.tyres⟩, fun D hD => ?_⟩
    refine lc_filter a.all (tr R) (fun i => (a.tyre i).how == st && a.bad i) (tr R) hD (SqL.of rep.tyres) rep.all_small (fun i hi H1 s1 Qt hq => ?_) (fun i hi _ H1 s1 Qe hq => ⟨_, rfl, hq H1 (Same.refl _)⟩) (fun H1 s1 hD1 => ?_)
    · obtain ⟨dt, ht⟩ := rep.tyre i (mem_all.mp hi)
      refine ⟨_, rfl, R.ta i, CT, dt, _, _, rfl, s1 _ _ ht, T.clT, T.nT_stage, rfl, _, rfl, rfl, _, rfl, ?_⟩
      rw [eq_nat]
      refine ite2 (fun h1 => ⟨_, rfl, _, rfl, h, R, a, i, rfl, rep.same s1, mem_all.mp hi, fun H2 s2 => ⟨_, rfl, ?_⟩⟩) fun h1 => ?_
      · have e : ((a.tyre i).how == st) = true := h1
        have hq1 := hq H2 s2
        rw [e, Bool.true_and] at hq1
        exact hq1
      · have e : ((a.tyre i).how == st) = false := Bool.eq_false_iff.mpr h1
        have hq1 := hq H1 (Same.refl _)
        rw [e, Bool.false_and] at hq1
        exact hq1
    have tl1 := (rep.same s1).tl hD1 (show (a.all.filter fun t => (a.tyre t).how == st && a.bad t).Sublist a.all from List.filter_sublist)
    refine ⟨h, R, a, D, _, rfl, tl1, fun H2 p2 s2 n2 hp2 => ⟨p2, _, rfl, hp2, tl1.few, fun H3 p3 s3 n3 hp3 => ?_⟩⟩
    exact q H3 p3 ((s1.trans s2).trans s3) ((s1.trans s2).free n3) hp3
theorem sc_list_rack : FnScope ["house", "rack_number"] ["house", "rack_number"] (defScope s_list_rack) := ⟨rfl, rfl, rfl, by decide +kernel, rfl, by decide +kernel, by decide +kernel⟩
theorem ok_list_rack (T : Txt K mg CT CW fT fW) : Has P w K mg base 3 "list_rack" ["house", "rack_number"] (spStock CT CW) := T.d_list_rack.has fun f fd F => by
  refine F.ok sc_list_rack (fun vs H Q E h => ?_) (fun cdv A outer s H vs Q E hr h => ?_)
  · obtain ⟨h, R, a, r, rfl, _⟩ := h
    rfl
  · obtain ⟨h, R, a, r, rfl, rep, q⟩ := h
    refine ⟨_, (pss_cons (ps_if (pt_val (pe_callH (ok_lacks_rack T) (hr.mono (by decide)) (by rfl) (pa_cons (pv 0) (pa_cons (pv 1) pa_nil)))) (pss_one (ps_ret (pe_lst (pa_cons (pgi T.c_NO_SUCH (by rfl)) pa_nil)))) pss_nil) (pss_one (ps_ret (pe_op op_cat (pe_lst (pa_cons (pe_callH (ok_room_left T) hr (by rfl) (pa_cons (pv 0) (pa_cons (pv 1) pa_nil))) pa_nil)) (pe_callH (ok_numbers_of T) (hr.mono (by decide)) (by rfl) (pa_cons (pe_callH (ok_tyres_held T) (hr.mono (by decide)) (by rfl) (pa_cons (pv 0) (pa_cons (pgi T.c_IN_RACK (by rfl)) (pa_cons (pv 1) pa_nil)))) pa_nil)))))), ?_⟩
    have ed : Su69.does a (.stock r) = if a.isR r = false then (a, Su69.no (-2)) else (a, Su69.num (a.racks.getD r 0 - (a.inRack r).length) (a.inRack r)) := rfl
    refine ⟨_, rfl, _, rfl, h, R, a, r, rfl, rep, fun H1 s1 => ⟨_, rfl, ite2 (fun h0 => ⟨(by show 1 ≤ sizeLine; decide), fun l hl => ?_⟩) fun h0 => ?_⟩⟩
    · exact q.ref1 rep (by rw [ed, if_pos (notR h0)]) s1 hl
    obtain ⟨y1, y2⟩ := yesR h0
    rw [if_neg (by rw [y1]; simp)] at ed
    have rep1 := rep.same s1
    refine ⟨_, rfl, _, rfl, h, R, a, r, rfl, rep1, y2, fun H2 s2 => ⟨(by show 1 ≤ sizeLine; decide), fun p hp => ?_⟩⟩
    rw [room_int rep.good y2]
    have s03 := (s1.trans s2).trans (Same.new (o := HO.lst [iv (a.racks.getD r 0 - (a.inRack r).length)]) hp)
    have rep3 := rep.same s03
    refine ⟨_, rfl, _, rfl, h, R, a, 0, r, rfl, rep3, fun H4 lh s4 n4 hlh => ?_⟩
    have hlh : H4 lh = some (.lst ((a.inRack r).map (tr R))) := hlh
    have tl4 := (rep3.same s4).tl hlh (show (a.inRack r).Sublist a.all from List.filter_sublist)
    refine ⟨h, R, a, lh, a.inRack r, rfl, tl4, fun H5 p5 s5 n5 hp5 => ?_⟩
    refine ⟨p, p5, _, _, rfl, rfl, s5 _ _ (s4 _ _ upd_same), hp5, ?_, fun p6 hp6 => ?_⟩
    · show 1 + ((a.inRack r).map iv).length ≤ sizeLine
      have := tl4.few
      rw [List.length_map, sizeLine_eq]; omega
    · have s05 := (s03.trans s4).trans s5
      exact q.read rep (by rw [ed]) (s05.trans (Same.new hp6)) (s05.free hp6) upd_same (by rw [ed]; exact (nat_ans _ _).symm)
theorem sc_list_with : FnScope ["house", "place", "value"] ["house", "place", "value"] (defScope s_list_with) := ⟨rfl, rfl, rfl, by decide +kernel, rfl, by decide +kernel, by decide +kernel⟩
theorem ok_list_with (T : Txt K mg CT CW fT fW) : Has P w K mg base 3 "list_with" ["house", "place", "value"] (spWith CT CW) := T.d_list_with.has fun f fd F => by
  refine F.ok sc_list_with (fun vs H Q E h => ?_) (fun cdv A outer s H vs Q E hr h => ?_)
  · obtain ⟨h, R, a, k, v, rfl, _⟩ := h
    rfl
  · obtain ⟨h, R, a, k, v, rfl, rep, q⟩ := h
    refine ⟨_, (pss_cons (ps_if (pt_val (pe_callH (ok_is_no_mark T) (hr.mono (by decide)) (by rfl) (pa_cons (pv 1) (pa_cons (pv 2) pa_nil)))) (pss_one (ps_ret (pe_lst (pa_cons (pgi T.c_OUT_OF_RANGE (by rfl)) pa_nil)))) pss_nil) (pss_one (ps_ret (pe_callH (ok_counted T) (hr.mono (by decide)) (by rfl) (pa_cons (pe_callH (ok_numbers_of T) (hr.mono (by decide)) (by rfl) (pa_cons (pe_callH (ok_tyres_with T) hr (by rfl) (pa_cons (pv 0) (pa_cons (pv 1) (pa_cons (pv 2) pa_nil)))) pa_nil)) pa_nil))))), ?_⟩
    have ed : Su69.does a (.with_ k v) = if Su69.okMark k v = false then (a, Su69.no (-22)) else (a, Su69.list (a.with_ (k, v))) := rfl
    refine ⟨_, rfl, _, rfl, k, v, rfl, fun H1 s1 => ⟨_, rfl, ite2 (fun h0 => ⟨(by show 1 ≤ sizeLine; decide), fun l hl => ?_⟩) fun h0 => ?_⟩⟩
    · exact q.ref1 rep (by rw [ed, if_pos (noM h0)]) s1 hl
    obtain ⟨y1, y2⟩ := yesM h0
    rw [if_neg (by rw [y1]; simp)] at ed
    have rep1 := rep.same s1
    refine ⟨_, rfl, _, rfl, _, rfl, h, R, a, k, v, rfl, rep1, y2.1, fun H2 lw s2 n2 hlw => ?_⟩
    have tl2 := (rep1.same s2).tl hlw (show (a.with_ (k, v)).Sublist a.all from List.filter_sublist)
    refine ⟨h, R, a, lw, _, rfl, tl2, fun H3 p3 s3 n3 hp3 => ⟨p3, _, rfl, hp3, tl2.few, fun H4 p4 s4 n4 hp4 => ?_⟩⟩
    have s03 := (s1.trans s2).trans s3
    exact q.lst rep ed H4 p4 (s03.trans s4) (s03.free n4) hp4
theorem sc_list_sent_to : FnScope ["house", "customer"] ["house", "customer"] (defScope s_list_sent_to) := ⟨rfl, rfl, rfl, by decide +kernel, rfl, by decide +kernel, by decide +kernel⟩
theorem ok_list_sent_to (T : Txt K mg CT CW fT fW) : Has P w K mg base 2 "list_sent_to" ["house", "customer"] (spSentTo CT CW) := T.d_list_sent_to.has fun f fd F => by
  refine F.ok sc_list_sent_to (fun vs H Q E h => ?_) (fun cdv A outer s H vs Q E hr h => ?_)
  · obtain ⟨h, R, a, c, rfl, _⟩ := h
    rfl
  · obtain ⟨h, R, a, c, rfl, rep, q⟩ := h
    refine ⟨_, (pss_cons (ps_if (pt_cmpR op_gt (pv 1) (pgi T.c_HIGHEST_CUSTOMER (by rfl)) (nomark _)) (pss_one (ps_ret (pe_lst (pa_cons (pgi T.c_OUT_OF_RANGE (by rfl)) pa_nil)))) pss_nil) (pss_one (ps_ret (pe_callH (ok_counted T) (hr.mono (by decide)) (by rfl) (pa_cons (pe_callH (ok_numbers_of T) (hr.mono (by decide)) (by rfl) (pa_cons (pe_callH (ok_tyres_held T) (hr.mono (by decide)) (by rfl) (pa_cons (pv 0) (pa_cons (pgi T.c_SENT (by rfl)) (pa_cons (pv 1) pa_nil)))) pa_nil)) pa_nil))))), ?_⟩
    have ed : Su69.does a (.sentTo c) = if Su69.CUSTOMERS ≤ c then (a, Su69.no (-22)) else (a, Su69.list (a.all.filter fun t => (a.tyre t).how == 1 && (a.tyre t).place == c)) := rfl
    refine ⟨_, rfl, _, _, rfl, rfl, _, rfl, ite2 (fun h1 => ⟨(by show 1 ≤ sizeLine; decide), fun l hl => ?_⟩) fun h1 => ?_⟩
    · have h1 : (9 : Int) < (c : Int) := of_decide_eq_true h1
      exact q.ref1 rep (by rw [ed, if_pos (by unfold Su69.CUSTOMERS; omega)]) (Same.refl H) hl
    have h1 : c < 10 := by
      have : ¬ (9 : Int) < (c : Int) := fun z => h1 (decide_eq_true z)
      omega
    rw [if_neg (by unfold Su69.CUSTOMERS; omega)] at ed
    refine ⟨_, rfl, _, rfl, h, R, a, 1, c, rfl, rep, fun H2 lw s2 n2 hlw => ?_⟩
    have tl2 := (rep.same s2).tl hlw (show (a.all.filter fun t => (a.tyre t).how == 1 && (a.tyre t).place == c).Sublist a.all from List.filter_sublist)
    refine ⟨h, R, a, lw, _, rfl, tl2, fun H3 p3 s3 n3 hp3 => ⟨p3, _, rfl, hp3, tl2.few, fun H4 p4 s4 n4 hp4 => ?_⟩⟩
    have s03 := s2.trans s3
    exact q.lst rep ed H4 p4 (s03.trans s4) (s03.free n4) hp4
theorem sc_tell_next : FnScope ["house", "sendable", "tyre"] ["house"] (defScope s_tell_next) := ⟨rfl, rfl, rfl, by decide +kernel, rfl, by decide +kernel, by decide +kernel⟩
theorem ok_tell_next (T : Txt K mg CT CW fT fW) : Has P w K mg base 5 "tell_next" ["house"] (spNext CT CW) := T.d_tell_next.has fun f fd F => by
  refine F.ok sc_tell_next (fun vs H Q E h => ?_) (fun cdv A outer s H vs Q E hr h => ?_)
  · obtain ⟨h, R, a, rfl, _⟩ := h
    rfl
  · obtain ⟨h, R, a, rfl, rep, q⟩ := h
    refine ⟨_, (pss_cons (ps_set (i := 1) sc_tell_next.nd rfl (Or.inl rfl) (pe_callH (ok_sendable_tyres T) hr (by rfl) (pa_cons (pv 0) pa_nil))) (pss_cons (ps_if (pt_cmpR op_eq (pe_callB call_len_seq (by rfl) T.b_len PySem.boot_len (pa_cons (pv 1) pa_nil)) pe_int (nomark _)) (pss_one (ps_ret (pe_lst (pa_cons (pgi T.c_NONE_THERE (by rfl)) pa_nil)))) pss_nil) (pss_cons (ps_set (i := 2) sc_tell_next.nd rfl (Or.inl rfl) (pe_callH (ok_oldest_tyre T) (hr.mono (by decide)) (by rfl) (pa_cons (pv 1) pa_nil))) (pss_one (ps_ret (pe_lst (pa_cons (pe_fld (pv 2) rfl) (pa_cons (pe_fld (pv 2) rfl) (pa_cons (pe_ix ix_list (pe_fld (pv 2) rfl) (pgi T.c_WEEK_PLACE (by rfl)) (fun _ _ => rfl)) pa_nil))))))))), ?_⟩
    have ed : Su69.does a .next = (match a.oldest (a.stock.filter fun t => !(a.bad t)) with | none => (a, Su69.no (-6)) | some t => (a, Su69.num t [(a.tyre t).place, a.week t])) := rfl
    refine ⟨_, rfl, h, R, a, rfl, rep, fun H1 ls s1 n1 hls => ?_⟩
    have rep1 := rep.same s1
    generalize hF : (a.stock.filter fun t => !(a.bad t)) = F0 at hls ed
    have subF : F0.Sublist a.all := by rw [← hF]; exact List.Sublist.trans List.filter_sublist List.filter_sublist
    have tlF := rep1.tl hls subF
    refine ⟨_, rfl, ls, _, rfl, .inl (SqL.of hls), rfl, _, rfl, ?_⟩
    rw [List.length_map]
    refine ite2 (fun h2 => ⟨(by show 1 ≤ sizeLine; decide), fun l hl => ?_⟩) fun h2 => ?_
    · have e : F0 = [] := List.length_eq_zero_iff.mp (int_nat0.mp h2)
      exact q.ref1 rep (by rw [ed, e]; rfl) s1 hl
    have ne : F0 ≠ [] := fun z => h2 (int_nat0.mpr (by rw [z]; rfl))
    refine ⟨_, rfl, h, R, a, ls, F0, rfl, tlF, ne, fun t eo ht => fun H2 s2 => ?_⟩
    rw [eo] at ed
    have rep2 := rep1.same s2
    have hti := tlF.lt t ht
    obtain ⟨dt, htt⟩ := rep2.tyre t hti
    refine ⟨_, rfl, R.ta t, CT, dt, _, _, rfl, htt, T.clT, T.nT_number, rfl, _, rfl, R.ta t, CT, dt, _, _, rfl, htt, T.clT, T.nT_holder, rfl, _, rfl, R.ta t, CT, dt, _, _, rfl, htt, T.clT, T.nT_marks, rfl, R.ma t, _, _, iv (a.week t), rfl, rfl, SqL.of (rep2.marks t hti), at_of (j := 4) rfl (by rw [List.getElem?_map, mk_get rep.good hti (by decide)]; rfl), (by show 3 ≤ sizeLine; decide), fun l hl => ?_⟩
    have s02 := s1.trans s2
    exact q.read rep (by rw [ed]) (s02.trans (Same.new hl)) (s02.free hl) upd_same (by rw [ed]; rfl)
end
end Rt
end

section
set_option Elab.async false
set_option linter.all false
set_option maxRecDepth 100000
set_option maxHeartbeats 2000000
namespace Rt
open PySem PySem.Spec PyProof.Rows L2
open Su69 (Abs)

theorem if_bit {b : Bool} {σ : L2.St} {H : Hp} {Q : VK} (h : Q (iv (Su69.bit b)) H) : if b = true then tC (.int 1) σ H Q else tC (.int 0) σ H Q := by
  cases b with
  | true => exact iteT h
  | false => exact iteF h
theorem mul_nat {a b c d : Nat} : decide ((a : Int) * (b : Int) < (c : Int) * (d : Int)) = decide (a * b < c * d) := by
  have e1 : (a : Int) * (b : Int) = ((a * b : Nat) : Int) := by rw [Int.natCast_mul]
  have e2 : (c : Int) * (d : Int) = ((c * d : Nat) : Int) := by rw [Int.natCast_mul]
  rw [e1, e2, lt_nat]
def RowAt (a : Abs) (H : Hp) (q : Addr) (x : Nat × Nat) : Prop := H q = some (.lst [iv x.1, iv x.2, iv (a.claimed x), iv (a.went x).length])
section
variable (K : PySem.W.Frag) (CT CW : Addr)
def spCounts : Sp := fun vs H Q _ => ∃ h R a k v, vs = [.ref h, iv k, iv v] ∧ Rep CT CW H h R a ∧ k < 5 ∧ RetL H Q [iv (a.claimed (k, v)), iv (a.went (k, v)).length, iv (a.with_ (k, v)).length]
def spRate : Sp := fun vs H Q _ => ∃ h R a k v, vs = [.ref h, iv k, iv v] ∧ Rep CT CW H h R a ∧ Fin CT CW H h R a (Su69.does a (.rate k v)) Q
def spRated : Sp := fun vs H Q _ => ∃ h R a n, vs = [.ref h, iv n] ∧ Rep CT CW H h R a ∧ ∀ (ms : List (Nat × Nat)) (H' : Hp) (p : Addr) (qs : List Addr), ms.Pairwise (fun x y => mkey x ≤ mkey y) → (∀ x, x ∈ ms ↔ ∃ i ∈ a.all, a.has i x = true) → Same H H' → H p = none → H' p = some (.lst (qs.map V.ref)) →
  Paired (fun q x => H q = none ∧ RowAt a H' q x) qs (ms.filter fun x => decide (n ≤ (a.went x).length)) → Q (.ref p) H'
def spWorst : Sp := fun vs H Q _ => ∃ h R a n, vs = [.ref h, iv n] ∧ Rep CT CW H h R a ∧ Fin CT CW H h R a (Su69.does a (.worst n)) Q
end
section
variable {P : Program} {w : World} {K : PySem.W.Frag} {mg : Str → Option Value} {base : Heap} {CT CW fT fW : Addr}
theorem sc_look_at_tyre : FnScope ["house", "number", "tyre", "claimed", "recalled"] ["house", "number"] (defScope s_look_at_tyre) := ⟨rfl, rfl, rfl, by decide +kernel, rfl, by decide +kernel, by decide +kernel⟩
theorem ok_look_at_tyre (T : Txt K mg CT CW fT fW) : Has P w K mg base 4 "look_at_tyre" ["house", "number"] (spLook CT CW) := T.d_look_at_tyre.has fun f fd F => by
  refine F.ok sc_look_at_tyre (fun vs H Q E h => ?_) (fun cdv A outer s H vs Q E hr h => ?_)
  · obtain ⟨h, R, a, t, rfl, _⟩ := h
    rfl
  · obtain ⟨h, R, a, t, rfl, rep, q⟩ := h
    obtain ⟨dh, hh⟩ := rep.house
    refine ⟨_, (pss_cons (ps_if (pt_val (pe_callH (ok_lacks_tyre T) (hr.mono (by decide)) (by rfl) (pa_cons (pv 0) (pa_cons (pv 1) pa_nil)))) (pss_one (ps_ret (pe_lst (pa_cons (pgi T.c_NO_SUCH (by rfl)) pa_nil)))) pss_nil) (pss_cons (ps_set (i := 2) sc_look_at_tyre.nd rfl (Or.inl rfl) (pe_ix ix_list (pe_fld (pv 0) rfl) (pv 1) (fun _ _ => rfl))) (pss_cons (ps_set (i := 3) sc_look_at_tyre.nd rfl (Or.inl rfl) (pe_ifExp (pt_val (pe_fld (pv 2) rfl)) pe_int pe_int)) (pss_cons (ps_set (i := 4) sc_look_at_tyre.nd rfl (Or.inl rfl) (pe_ifExp (pt_val (pe_callH (ok_is_recalled T) hr (by rfl) (pa_cons (pv 0) (pa_cons (pv 2) pa_nil)))) pe_int pe_int)) (pss_one (ps_ret (pe_op op_cat (pe_lst (pa_cons (pe_fld (pv 2) rfl) (pa_cons (pe_fld (pv 2) rfl) (pa_cons (pe_fld (pv 2) rfl) (pa_cons (pv 3) (pa_cons (pv 4) pa_nil)))))) (pe_fld (pv 2) rfl)))))))), ?_⟩
    have ed : Su69.does a (.look t) = if a.isT t = false then (a, Su69.no (-2)) else (a, Su69.num (a.tyre t).how ([(a.tyre t).place, (a.tyre t).day, Su69.bit (a.tyre t).claimed, Su69.bit (a.bad t)] ++ (a.tyre t).marks)) := rfl
    refine ⟨_, rfl, _, rfl, h, R, a, t, rfl, rep, fun H1 s1 => ⟨_, rfl, ite2 (fun h0 => ⟨(by show 1 ≤ sizeLine; decide), fun l hl => ?_⟩) fun h0 => ?_⟩⟩
    · exact q.ref1 rep (by rw [ed, if_pos (notT h0)]) s1 hl
    obtain ⟨y1, y2⟩ := yesT h0
    rw [if_neg (by rw [y1]; simp)] at ed
    have rep1 := rep.same s1
    obtain ⟨dx, ht⟩ := rep1.tyre t y2
    refine ⟨_, rfl, h, CW, dh, _, _, rfl, s1 _ _ hh, T.clW, T.nW_tyres, rfl, _, rfl, R.lt, _, _, tr R t, rfl, rfl, SqL.of rep1.tyres, atI_nat (rep.tyreAt y2), ?_⟩
    refine ⟨_, rfl, R.ta t, CT, dx, _, _, rfl, ht, T.clT, T.nT_claimed, rfl, _, rfl, if_bit ?_⟩
    refine ⟨_, rfl, _, rfl, h, R, a, t, rfl, rep1, y2, fun H2 s2 => ⟨_, rfl, if_bit ?_⟩⟩
    have ht2 := s2 _ _ ht
    refine ⟨_, rfl, R.ta t, CT, dx, _, _, rfl, ht2, T.clT, T.nT_stage, rfl, _, rfl, R.ta t, CT, dx, _, _, rfl, ht2, T.clT, T.nT_holder, rfl, _, rfl, R.ta t, CT, dx, _, _, rfl, ht2, T.clT, T.nT_since, rfl, _, rfl, _, rfl, (by show 5 ≤ sizeLine; decide), fun p hp => ?_⟩
    have sp := Same.new (o := HO.lst [iv (a.tyre t).how, iv (a.tyre t).place, iv (a.tyre t).day, iv (Su69.bit (a.tyre t).claimed), iv (Su69.bit (a.bad t))]) hp
    refine ⟨_, rfl, R.ta t, CT, dx, _, _, rfl, sp _ _ ht2, T.clT, T.nT_marks, rfl, p, R.ma t, _, _, rfl, rfl, upd_same, sp _ _ (s2 _ _ (rep1.marks t y2)), ?_, fun p2 hp2 => ?_⟩
    · show 5 + ((a.tyre t).marks.map iv).length ≤ sizeLine
      rw [List.length_map, (rep.good.at_ y2).len, sizeLine_eq]; decide
    · have s03 := (s1.trans s2).trans sp
      refine q.read rep (by rw [ed]) (s03.trans (Same.new hp2)) (s03.free hp2) upd_same ?_
      rw [ed]
      refine Eq.trans ?_ (nat_ans _ _).symm
      rw [List.map_append]; rfl
theorem sc_tell_sums : FnScope ["house", "stages", "stage"] ["house"] (defScope s_tell_sums) := ⟨rfl, rfl, rfl, by decide +kernel, rfl, by decide +kernel, by decide +kernel⟩
theorem ok_tell_sums (T : Txt K mg CT CW fT fW) : Has P w K mg base 2 "tell_sums" ["house"] (spSums CT CW) := T.d_tell_sums.has fun f fd F => by
  refine F.ok sc_tell_sums (fun vs H Q E h => ?_) (fun cdv A outer s H vs Q E hr h => ?_)
  · obtain ⟨h, R, a, rfl, _⟩ := h
    rfl
  · obtain ⟨h, R, a, rfl, rep, q⟩ := h
    obtain ⟨dh, hh⟩ := rep.house
    refine ⟨_, (pss_cons (ps_setLc (i := 1) (own := [("stage", 2)]) rfl sc_tell_sums.nd rfl rfl (sw_true rfl rfl rfl rfl) (pi_tup (pe_tup (pa_cons (pgi T.c_IN_RACK (by rfl)) (pa_cons (pgi T.c_SENT (by rfl)) (pa_cons (pgi T.c_COME_BACK (by rfl)) pa_nil))))) (blkOk_by (by show blkC ["house", "stages", "stage"] (defScope s_tell_sums) _ _ = true; decide +kernel)) (fun _ _ _ _ _ => pg_name (i := 2) sc_tell_sums.nd rfl (Or.inl rfl)) (fun _ _ _ _ _ => pts_nil) (fun _ _ _ _ _ => (pe_callH (ok_count_at_stage T) hr (by rfl) (pa_cons (pe_fldK K (pv 0)) (pa_cons (pv 2) pa_nil))))) (pss_one (ps_ret (pe_op op_cat (pe_op op_cat (pe_lst (pa_cons pe_int pa_nil)) (pv 1)) (pe_lst (pa_cons (pe_callB call_len_seq (by rfl) T.b_len PySem.boot_len (pa_cons (pe_callH (ok_claimed_tyres T) hr (by rfl) (pa_cons (pv 0) pa_nil)) pa_nil)) pa_nil)))))), ?_⟩
    have ed : Su69.does a .sums = (a, Su69.num 0 [a.stock.length, (a.all.filter fun t => (a.tyre t).how == 1).length, (a.all.filter fun t => (a.tyre t).how == 2).length, a.claims.length]) := rfl
    refine ⟨(by show 3 ≤ sizeLine; decide), fun tp htp => ⟨tp, rfl, ⟨_, SqT.of upd_same⟩, fun D hD => ?_⟩⟩
    have st0 := Same.new (o := HO.tup [V.int 0, V.int 1, V.int 2]) htp
    refine lc_filterT [0, 1, 2] iv (fun _ => true) (fun st => iv (a.all.filter fun t => (a.tyre t).how == st).length) hD (SqT.of upd_same) (by decide) (fun st hst H1 s1 Qt hq => hq H1 (Same.refl _)) (fun st hst _ H1 s1 Qe hq => ?_) (fun H1 s1 hD1 => ?_)
    · have s01 := st0.trans s1
      have rep1 := rep.same s01
      exact ⟨_, rfl, h, CW, dh, _, _, rfl, s01 _ _ hh, T.clW, T.nW_tyres, rfl, _, rfl, h, R, a, R.lt, a.all, st, rfl, rep1, rep1.tyres, fun i hi => mem_all.mp hi, by rw [all_len]; exact rep.good.nT, hq⟩
    have s01 := st0.trans s1
    have rep1 := rep.same s01
    refine ⟨(by show 1 ≤ sizeLine; decide), fun p hp => ?_⟩
    have sp := Same.new (o := HO.lst [V.int 0]) hp
    refine ⟨_, rfl, p, D, _, _, rfl, rfl, upd_same, sp _ _ hD1, (by show 1 + 3 ≤ sizeLine; decide), fun p2 hp2 => ?_⟩
    generalize hx : (HO.lst ([V.int 0] ++ List.map (fun st => iv (a.all.filter fun t => (a.tyre t).how == st).length) (List.filter (fun _ => true) [0, 1, 2]))) = o2
    have sp2 := Same.new (o := o2) hp2
    have s03 := (s01.trans sp).trans sp2
    refine ⟨_, rfl, h, R, a, rfl, rep.same s03, fun H4 lc s4 n4 hlc => ⟨lc, _, rfl, .inl (SqL.of hlc), (by show 1 ≤ sizeLine; decide), fun p5 hp5 => ?_⟩⟩
    refine ⟨p2, p5, _, _, rfl, rfl, Same.new hp5 _ _ (s4 _ _ (by rw [upd_same, ← hx])), upd_same, (by show 4 + 1 ≤ sizeLine; decide), fun p6 hp6 => ?_⟩
    have s05 := (s03.trans s4).trans (Same.new (o := HO.lst [V.int ((List.map (tr R) a.claims).length : Nat)]) hp5)
    refine q.read rep (by rw [ed]) (s05.trans (Same.new hp6)) (s05.free hp6) upd_same ?_
    rw [ed, List.length_map]
    rfl
theorem sc_tell_state : FnScope ["house"] ["house"] (defScope s_tell_state) := ⟨rfl, rfl, rfl, by decide +kernel, rfl, by decide +kernel, by decide +kernel⟩
theorem ok_tell_state (T : Txt K mg CT CW fT fW) : Has P w K mg base 1 "tell_state" ["house"] (spState CT CW) := T.d_tell_state.has fun f fd F => by
  refine F.ok sc_tell_state (fun vs H Q E h => ?_) (fun cdv A outer s H vs Q E hr h => ?_)
  · obtain ⟨h, R, a, rfl, _⟩ := h
    rfl
  · obtain ⟨h, R, a, rfl, rep, q⟩ := h
    obtain ⟨dh, hh⟩ := rep.house
    obtain ⟨ps, hps, hms⟩ := rep.recd
    refine ⟨_, (pss_one (ps_ret (pe_lst (pa_cons (pe_fld (pv 0) rfl) (pa_cons (pe_callB call_len_seq (by rfl) T.b_len PySem.boot_len (pa_cons (pe_fld (pv 0) rfl) pa_nil)) (pa_cons (pe_callB call_len_seq (by rfl) T.b_len PySem.boot_len (pa_cons (pe_fld (pv 0) rfl) pa_nil)) (pa_cons (pe_callB call_len_seq (by rfl) T.b_len PySem.boot_len (pa_cons (pe_fld (pv 0) rfl) pa_nil)) pa_nil))))))), ?_⟩
    refine ⟨_, rfl, h, CW, dh, _, _, rfl, hh, T.clW, T.nW_day, rfl, _, rfl, h, CW, dh, _, _, rfl, hh, T.clW, T.nW_sizes, rfl, R.ls, _, rfl, .inl (SqL.of rep.sizes), _, rfl, h, CW, dh, _, _, rfl, hh, T.clW, T.nW_tyres, rfl, R.lt, _, rfl, .inl (SqL.of rep.tyres), _, rfl, h, CW, dh, _, _, rfl, hh, T.clW, T.nW_recalled, rfl, R.lr, _, rfl, .inl (SqL.of hps), (by show 4 ≤ sizeLine; decide), fun l hl => ?_⟩
    have ed : Su69.does a .state = (a, Su69.num a.today [a.racks.length, a.tyres.length, a.recalled.length]) := rfl
    refine q.read rep (by rw [ed]) (Same.new hl) hl upd_same ?_
    have hlen : ps.length = a.recalled.length := by have := hms.length; rw [List.length_map] at this; exact this
    rw [ed, List.length_map, List.length_map, List.length_map, all_len, hlen]
    rfl
theorem sc_mark_counts : FnScope ["house", "place", "value", "having", "claimed", "out", "tyre"] ["house", "place", "value"] (defScope s_mark_counts) := ⟨rfl, rfl, rfl, by decide +kernel, rfl, by decide +kernel, by decide +kernel⟩
theorem ok_mark_counts (T : Txt K mg CT CW fT fW) : Has P w K mg base 3 "mark_counts" ["house", "place", "value"] (spCounts CT CW) := T.d_mark_counts.has fun f fd F => by
  refine F.ok sc_mark_counts (fun vs H Q E h => ?_) (fun cdv A outer s H vs Q E hr h => ?_)
  · obtain ⟨h, R, a, k, v, rfl, _⟩ := h
    rfl
  · obtain ⟨h, R, a, k, v, rfl, rep, hk, q⟩ := h
    refine ⟨_, (pss_cons (ps_set (i := 3) sc_mark_counts.nd rfl (Or.inl rfl) (pe_callH (ok_tyres_with T) hr (by rfl) (pa_cons (pv 0) (pa_cons (pv 1) (pa_cons (pv 2) pa_nil))))) (pss_cons (ps_setLc (i := 4) (own := [("tyre", 6)]) rfl sc_mark_counts.nd rfl rfl (sw_true rfl rfl rfl rfl) (pi_list (pv 3)) (blkOk_by (by show blkC ["house", "place", "value", "having", "claimed", "out", "tyre"] (defScope s_mark_counts) _ _ = true; decide +kernel)) (fun _ _ _ _ _ => pg_name (i := 6) sc_mark_counts.nd rfl (Or.inl rfl)) (fun _ _ _ _ _ => pts_one (pt_val (pe_fldK K (pv 6)))) (fun _ _ _ _ _ => pv 6)) (pss_cons (ps_setLc (i := 5) (own := [("tyre", 6)]) rfl sc_mark_counts.nd rfl rfl (sw_true rfl rfl rfl rfl) (pi_list (pv 3)) (blkOk_by (by show blkC ["house", "place", "value", "having", "claimed", "out", "tyre"] (defScope s_mark_counts) _ _ = true; decide +kernel)) (fun _ _ _ _ _ => pg_name (i := 6) sc_mark_counts.nd rfl (Or.inl rfl)) (fun _ _ _ _ _ => pts_one (pt_val (pe_callH (ok_was_sent T) (hr.mono (by decide)) (by rfl) (pa_cons (pv 6) pa_nil)))) (fun _ _ _ _ _ => pv 6)) (pss_one (ps_ret (pe_lst (pa_cons (pe_callB call_len_seq (by rfl) T.b_len PySem.boot_len (pa_cons (pv 4) pa_nil)) (pa_cons (pe_callB call_len_seq (by rfl) T.b_len PySem.boot_len (pa_cons (pv 5) pa_nil)) (pa_cons (pe_callB call_len_seq (by rfl) T.b_len PySem.boot_len (pa_cons (pv 3) pa_nil)) pa_nil))))))))), ?_⟩
    refine ⟨_, rfl, _, rfl, _, rfl, h, R, a, k, v, rfl, rep, hk, fun H1 lw s1 n1 hlw => ?_⟩
    have rep1 := rep.same s1
    have tlw := rep1.tl hlw (show (a.with_ (k, v)).Sublist a.all from List.filter_sublist)
    refine ⟨_, rfl, lw, rfl, ⟨_, SqL.of hlw⟩, fun D hD => ?_⟩
    refine lc_filter (a.with_ (k, v)) (tr R) (fun i => (a.tyre i).claimed) (tr R) hD (SqL.of hlw) (sixty tlw.few) (fun i hi H2 s2 Qt hq => ?_) (fun i hi _ H2 s2 Qe hq => ⟨_, rfl, hq H2 (Same.refl _)⟩) (fun H2 s2 hD2 => ?_)
    · obtain ⟨dx, ht⟩ := rep1.tyre i (tlw.lt i hi)
      exact ⟨_, rfl, R.ta i, CT, dx, _, _, rfl, s2 _ _ ht, T.clT, T.nT_claimed, rfl, _, rfl, hq H2 (Same.refl _)⟩
    have tl2 := tlw.same s2
    refine ⟨_, rfl, lw, rfl, ⟨_, SqL.of tl2.lst⟩, fun D3 hD3 => ?_⟩
    refine lc_filter (a.with_ (k, v)) (tr R) (fun i => (a.tyre i).how != 0) (tr R) hD3 (SqL.of tl2.lst) (sixty tlw.few) (fun i hi H3 s3 Qt hq => ?_) (fun i hi _ H3 s3 Qe hq => ⟨_, rfl, hq H3 (Same.refl _)⟩) (fun H3 s3 hD3' => ?_)
    · exact ⟨_, rfl, h, R, a, i, rfl, tl2.rep.same s3, tl2.lt i hi, fun H4 s4 => ⟨_, rfl, hq H4 s4⟩⟩
    refine ⟨_, rfl, D, _, rfl, .inl (SqL.of (s3 _ _ hD2)), _, rfl, D3, _, rfl, .inl (SqL.of hD3'), _, rfl, lw, _, rfl, .inl (SqL.of (s3 _ _ tl2.lst)), (by show 3 ≤ sizeLine; decide), fun l hl => ?_⟩
    have s03 := (s1.trans s2).trans s3
    refine q _ l (s03.trans (Same.new hl)) (s03.free hl) ?_
    rw [upd_same, List.length_map, List.length_map, List.length_map]
    rfl
theorem sc_rate_of_mark : FnScope ["house", "place", "value"] ["house", "place", "value"] (defScope s_rate_of_mark) := ⟨rfl, rfl, rfl, by decide +kernel, rfl, by decide +kernel, by decide +kernel⟩
theorem ok_rate_of_mark (T : Txt K mg CT CW fT fW) : Has P w K mg base 4 "rate_of_mark" ["house", "place", "value"] (spRate CT CW) := T.d_rate_of_mark.has fun f fd F => by
  refine F.ok sc_rate_of_mark (fun vs H Q E h => ?_) (fun cdv A outer s H vs Q E hr h => ?_)
  · obtain ⟨h, R, a, k, v, rfl, _⟩ := h
    rfl
  · obtain ⟨h, R, a, k, v, rfl, rep, q⟩ := h
    refine ⟨_, (pss_cons (ps_if (pt_val (pe_callH (ok_is_no_mark T) (hr.mono (by decide)) (by rfl) (pa_cons (pv 1) (pa_cons (pv 2) pa_nil)))) (pss_one (ps_ret (pe_lst (pa_cons (pgi T.c_OUT_OF_RANGE (by rfl)) pa_nil)))) pss_nil) (pss_one (ps_ret (pe_callH (ok_mark_counts T) hr (by rfl) (pa_cons (pv 0) (pa_cons (pv 1) (pa_cons (pv 2) pa_nil))))))), ?_⟩
    have ed : Su69.does a (.rate k v) = if Su69.okMark k v = false then (a, Su69.no (-22)) else (a, Su69.num (a.claimed (k, v)) [(a.went (k, v)).length, (a.with_ (k, v)).length]) := rfl
    refine ⟨_, rfl, _, rfl, k, v, rfl, fun H1 s1 => ⟨_, rfl, ite2 (fun h0 => ⟨(by show 1 ≤ sizeLine; decide), fun l hl => ?_⟩) fun h0 => ?_⟩⟩
    · exact q.ref1 rep (by rw [ed, if_pos (noM h0)]) s1 hl
    obtain ⟨y1, y2⟩ := yesM h0
    rw [if_neg (by rw [y1]; simp)] at ed
    refine ⟨_, rfl, _, rfl, _, rfl, h, R, a, k, v, rfl, rep.same s1, y2.1, fun H2 p s2 n2 hp => ?_⟩
    exact q.read rep (by rw [ed]) (s1.trans s2) (s1.free n2) hp (by rw [ed]; rfl)
theorem sc_rated_marks : FnScope ["house", "least", "rated", "mark", "counts"] ["house", "least"] (defScope s_rated_marks) := ⟨rfl, rfl, rfl, by decide +kernel, rfl, by decide +kernel, by decide +kernel⟩
theorem ok_rated_marks (T : Txt K mg CT CW fT fW) : Has P w K mg base 4 "rated_marks" ["house", "least"] (spRated CT CW) := T.d_rated_marks.has fun f fd F => by
  refine F.ok sc_rated_marks (fun vs H Q E h => ?_) (fun cdv A outer s H vs Q E hr h => ?_)
  · obtain ⟨h, R, a, n, rfl, _⟩ := h
    rfl
  · obtain ⟨h, R, a, n, rfl, rep, q⟩ := h
    have good := rep.good
    obtain ⟨dh, hh⟩ := rep.house
    refine ⟨_, (pss_cons (ps_set (i := 2) sc_rated_marks.nd rfl (Or.inl rfl) (pe_lst pa_nil)) (pss_cons (ps_for PassesOwn.never rfl (pi_list (pe_callH (ok_marks_of T) (hr.mono (by decide)) (by rfl) (pa_cons (pe_fld (pv 0) rfl) pa_nil))) (pg_name (i := 3) sc_rated_marks.nd rfl (Or.inl rfl)) (pss_cons (ps_set (i := 4) sc_rated_marks.nd rfl (Or.inl rfl) (pe_callH (ok_mark_counts T) hr (by rfl) (pa_cons (pv 0) (pa_cons (pe_ix ix_tup (pv 3) pe_int (fun _ _ => rfl)) (pa_cons (pe_ix ix_tup (pv 3) pe_int (fun _ _ => rfl)) pa_nil))))) (pss_one (ps_if (pt_cmpR op_ge (pe_ix ix_list (pv 4) pe_int (fun _ _ => rfl)) (pv 1) (nomark _)) (pss_one (ps_expr (pe_bm PySem.F.plainAttrs_list PySem.F.slot_list_append PySem.F.type_list_append mt_append (pv 2) (pa_cons (pe_lst (pa_cons (pe_ix ix_tup (pv 3) pe_int (fun _ _ => rfl)) (pa_cons (pe_ix ix_tup (pv 3) pe_int (fun _ _ => rfl)) (pa_cons (pe_ix ix_list (pv 4) pe_int (fun _ _ => rfl)) (pa_cons (pe_ix ix_list (pv 4) pe_int (fun _ _ => rfl)) pa_nil))))) pa_nil)))) pss_nil)))) (pss_one (ps_ret (pv 2))))), ?_⟩
    refine ⟨(by show 0 ≤ sizeLine; decide), fun lr hlr => ?_⟩
    have sA := Same.new (o := HO.lst []) hlr
    have repA := rep.same sA
    refine ⟨_, rfl, h, CW, dh, _, _, rfl, sA _ _ hh, T.clW, T.nW_tyres, rfl, h, R, a, R.lt, a.all, rfl, repA.tl repA.tyres (List.Sublist.refl _), fun ms h300 srt hmem => fun H1 lm ps s1 n1 hlm hms => ?_⟩
    have s01 := sA.trans s1
    have okm : ∀ x ∈ ms, OkM x := fun x hx => by
      obtain ⟨i, hi, hh⟩ := (hmem x).mp hx
      exact has_ok good (mem_all.mp hi) hh
    have hlr1 : H1 lr = some (.lst []) := s1 _ _ upd_same
    have nlm : lm ≠ lr := (ne_of_none (o := HO.lst []) upd_same n1).symm
    refine ⟨lm, rfl, ⟨_, SqL.of hlm⟩, for_list (K := K) (a := lm) (xs := ps.map V.ref) (fun j σ H' => ∃ (v c : Option V) (qs : List Addr), σ = [some (.ref h), some (iv n), some (.ref lr), v, c] ∧ Same H H' ∧ (∀ b o, H1 b = some o → b ≠ lr → H' b = some o) ∧ H' lr = some (.lst (qs.map V.ref)) ∧ Paired (fun q x => q ≠ lr ∧ H q = none ∧ RowAt a H' q x) qs ((ms.take j).filter fun x => decide (n ≤ (a.went x).length)))
      ⟨none, none, [], rfl, s01, fun b o e _ => e, hlr1, .nil⟩ (fun j σ H' _ ⟨_, _, _, _, _, k1, _⟩ => SqL.of (k1 _ _ hlm nlm)) ?_ ?_⟩
    · rintro j x σ H2 hj ⟨v, c, qs, rfl, s2, k2, hl2, hq2⟩
      rw [List.getElem?_map] at hj
      obtain ⟨p, hp, rfl⟩ := Option.map_eq_some_iff.mp hj
      obtain ⟨m, em, hm⟩ := mkm_get hms hp
      have hmM := List.mem_of_getElem? em
      have hp2 : MkAt H2 p (km m) := k2 _ _ hm (ne_of hm hlr1 (by intro z; cases z))
      have tk : ms.take (j + 1) = ms.take j ++ [m] := by rw [List.take_succ, em]; rfl
      refine ⟨_, rfl, _, rfl, p, _, _, _, rfl, rfl, SqT.of hp2, rfl, _, rfl, p, _, _, _, rfl, rfl, SqT.of hp2, rfl, h, R, a, m.1, m.2, rfl, rep.same s2, (okm m hmM).1, fun H3 l3 s3 n3 hl3 => ?_⟩
      have hp3 := hp2.same s3
      refine ⟨_, rfl, l3, _, _, _, rfl, rfl, SqL.of hl3, rfl, _, rfl, _, _, rfl, rfl, _, rfl, ?_⟩
      rw [le_nat]
      refine ite2 (fun h1 => ?_) fun h1 => ?_
      · refine ⟨_, rfl, .inl ⟨rfl, _, SqL.of (s3 _ _ hl2)⟩, _, rfl, p, _, _, _, rfl, rfl, SqT.of hp3, rfl, _, rfl, p, _, _, _, rfl, rfl, SqT.of hp3, rfl, _, rfl, l3, _, _, _, rfl, rfl, SqL.of hl3, rfl, _, rfl, l3, _, _, _, rfl, rfl, SqL.of hl3, rfl, (by show 4 ≤ sizeLine; decide), fun q4 hq4 => ?_⟩
        have nq : lr ≠ q4 := ne_of_none (s3 _ _ hl2) hq4
        have s4 := Same.new (o := HO.lst [iv m.1, iv m.2, iv (a.claimed m), iv (a.went m).length]) hq4
        have s24 := s3.trans s4
        refine ⟨lr, _, _, rfl, rfl, s24 _ _ hl2, ?_, some (.ref p), some (.ref l3), qs ++ [q4], rfl, ?_, ?_, ?_, ?_⟩
        · have e1 := Paired.length hq2
          have e2 : ((ms.take j).filter fun x => decide (n ≤ (a.went x).length)).length ≤ 300 := Nat.le_trans (List.length_filter_le ..) (by rw [List.length_take]; omega)
          rw [List.length_map, sizeLine_eq]; omega
        · intro b o e
          rw [upd_ne (ne_of_none e hlr)]
          exact s24 _ _ (s2 _ _ e)
        · intro b o e hb
          rw [upd_ne hb]
          exact s24 _ _ (k2 _ _ e hb)
        · rw [upd_same, List.map_append]; rfl
        · rw [tk, List.filter_append, List.filter_cons, if_pos h1]
          refine paired_append (Paired.mapP hq2 fun _ _ e => ⟨e.1, e.2.1, ?_⟩) (.cons ⟨nq.symm, s2.free (s3.free hq4), ?_⟩ .nil)
          · unfold RowAt
            rw [upd_ne e.1]; exact s24 _ _ e.2.2
          · unfold RowAt
            rw [upd_ne nq.symm, upd_same]
      · refine ⟨some (.ref p), some (.ref l3), qs, rfl, s2.trans s3, fun b o e hb => s3 _ _ (k2 _ _ e hb), s3 _ _ hl2, ?_⟩
        rw [tk, List.filter_append, List.filter_cons, if_neg h1, List.filter_nil, List.append_nil]
        exact Paired.mapP hq2 fun _ _ e => ⟨e.1, e.2.1, s3 _ _ e.2.2⟩
    · rintro σ H2 ⟨v, c, qs, rfl, s2, k2, hl2, hq2⟩
      rw [List.length_map, show ps.length = ms.length by have := hms.length; rw [List.length_map] at this; exact this, List.take_length] at hq2
      exact ⟨_, rfl, q ms H2 lr qs srt hmem s2 hlr hl2 (Paired.mapP hq2 fun _ _ e => e.2)⟩
theorem sc_worst_mark : FnScope ["house", "least", "rated", "best", "row"] ["house", "least"] (defScope s_worst_mark) := ⟨rfl, rfl, rfl, by decide +kernel, rfl, by decide +kernel, by decide +kernel⟩
theorem ok_worst_mark (T : Txt K mg CT CW fT fW) : Has P w K mg base 5 "worst_mark" ["house", "least"] (spWorst CT CW) := T.d_worst_mark.has fun f fd F => by
  refine F.ok sc_worst_mark (fun vs H Q E h => ?_) (fun cdv A outer s H vs Q E hr h => ?_)
  · obtain ⟨h, R, a, n, rfl, _⟩ := h
    rfl
  · obtain ⟨h, R, a, n, rfl, rep, q⟩ := h
    refine ⟨_, (pss_cons (ps_if (pt_cmpR op_eq (pv 1) pe_int (nomark _)) (pss_one (ps_ret (pe_lst (pa_cons (pgi T.c_OUT_OF_RANGE (by rfl)) pa_nil)))) pss_nil) (pss_cons (ps_set (i := 2) sc_worst_mark.nd rfl (Or.inl rfl) (pe_callH (ok_rated_marks T) hr (by rfl) (pa_cons (pv 0) (pa_cons (pv 1) pa_nil)))) (pss_cons (ps_if (pt_cmpR op_eq (pe_callB call_len_seq (by rfl) T.b_len PySem.boot_len (pa_cons (pv 2) pa_nil)) pe_int (nomark _)) (pss_one (ps_ret (pe_lst (pa_cons (pgi T.c_NONE_THERE (by rfl)) pa_nil)))) pss_nil) (pss_cons (ps_set (i := 3) sc_worst_mark.nd rfl (Or.inl rfl) (pe_ix ix_list (pv 2) pe_int (fun _ _ => rfl))) (pss_cons (ps_for PassesOwn.never rfl (pi_list (pv 2)) (pg_name (i := 4) sc_worst_mark.nd rfl (Or.inl rfl)) (pss_one (ps_if (pt_cmpR op_gt (pe_op op_mul (pe_ix ix_list (pv 4) pe_int (fun _ _ => rfl)) (pe_ix ix_list (pv 3) pe_int (fun _ _ => rfl))) (pe_op op_mul (pe_ix ix_list (pv 3) pe_int (fun _ _ => rfl)) (pe_ix ix_list (pv 4) pe_int (fun _ _ => rfl))) (nomark _)) (pss_one (ps_set (i := 3) sc_worst_mark.nd rfl (Or.inl rfl) (pv 4))) pss_nil))) (pss_one (ps_ret (pv 3)))))))), ?_⟩
    have ed : Su69.does a (.worst n) = if n = 0 then (a, Su69.no (-22)) else (match a.worst n with | none => (a, Su69.no (-6)) | some x => (a, Su69.num x.1 [x.2, a.claimed x, (a.went x).length])) := rfl
    refine ⟨_, rfl, rfl, _, rfl, ?_⟩
    refine ite2 (fun h0 => ⟨(by show 1 ≤ sizeLine; decide), fun l hl => ?_⟩) fun h0 => ?_
    · exact q.ref1 rep (by rw [ed, if_pos (int_nat0.mp h0)]) (Same.refl H) hl
    have h0 : n ≠ 0 := fun z => h0 (int_nat0.mpr z)
    rw [if_neg h0] at ed
    refine ⟨_, rfl, _, rfl, h, R, a, n, rfl, rep, fun ms H2 lp qs srt hmem s2 n2 hlp hqs => ?_⟩
    have okm : ∀ x ∈ ms, OkM x := fun x hx => by
      obtain ⟨i, hi, hh⟩ := (hmem x).mp hx
      exact has_ok rep.good (mem_all.mp hi) hh
    have en : a.worst n = best (byRate a) (ms.filter fun x => decide (n ≤ (a.went x).length)) := worst_is n h0 ms srt okm fun i hi x _ hx => (hmem x).mpr ⟨i, mem_all.mpr hi, hx⟩
    generalize hL : (ms.filter fun x => decide (n ≤ (a.went x).length)) = L at hqs en
    have hpos : ∀ x ∈ L, 0 < (a.went x).length := fun x hx => by
      rw [← hL] at hx
      have := of_decide_eq_true (List.mem_filter.mp hx).2
      omega
    have hlen := Paired.length hqs
    have small : ∀ x : Nat × Nat, a.claimed x ≤ 60 ∧ (a.went x).length ≤ 60 := fun x => by
      have h1 : (a.with_ x).length ≤ 60 := Nat.le_trans (List.length_filter_le ..) (by rw [all_len]; exact rep.good.nT)
      exact ⟨Nat.le_trans (List.length_filter_le ..) h1, Nat.le_trans (List.length_filter_le ..) h1⟩
    refine ⟨_, rfl, lp, _, rfl, .inl (SqL.of hlp), rfl, _, rfl, ?_⟩
    rw [List.length_map]
    refine ite2 (fun h1 => ⟨(by show 1 ≤ sizeLine; decide), fun l hl => ?_⟩) fun h1 => ?_
    · have e : L = [] := List.length_eq_zero_iff.mp (by rw [← hlen]; exact int_nat0.mp h1)
      exact q.ref1 rep (by rw [ed, en, e]; rfl) s2 hl
    obtain ⟨b0, rs, ers⟩ : ∃ b0 rs, L = b0 :: rs := by
      cases e : L with
      | nil => exact absurd (int_nat0.mpr (by rw [hlen, e]; rfl)) h1
      | cons x r => exact ⟨x, r, rfl⟩
    obtain ⟨q0, hq0⟩ : ∃ q0, qs[0]? = some q0 := by
      have : 0 < qs.length := by rw [hlen, ers]; exact Nat.succ_pos _
      exact ⟨qs[0], List.getElem?_eq_getElem this⟩
    obtain ⟨b0', eb0, hr0⟩ := paired_get hqs hq0
    rw [ers] at eb0
    cases eb0
    have hb0S : b0 ∈ L := by rw [ers]; exact List.mem_cons_self ..
    refine ⟨_, rfl, lp, _, _, .ref q0, rfl, rfl, SqL.of hlp, at_of (j := 0) rfl (by rw [List.getElem?_map, hq0]; rfl), ?_⟩
    refine ⟨_, rfl, lp, rfl, ⟨_, SqL.of hlp⟩, for_list (K := K) (a := lp) (xs := qs.map V.ref) (fun j σ H' => ∃ (v : Option V) (qb : Addr) (b : Nat × Nat), σ = [some (.ref h), some (iv n), some (.ref lp), some (.ref qb), v] ∧ H' = H2 ∧ H qb = none ∧ RowAt a H2 qb b ∧ b ∈ L ∧ b = (L.take j).foldl (fun b y => if byRate a y b = true then y else b) b0)
      ⟨none, q0, b0, rfl, rfl, hr0.1, hr0.2, hb0S, rfl⟩ (fun j σ H' _ ⟨_, _, _, _, e, _⟩ => by rw [e]; exact SqL.of hlp) ?_ ?_⟩
    · rintro j x σ H' hj ⟨v, qb, b, rfl, rfl, hnb, hb, hbS, eb⟩
      rw [List.getElem?_map] at hj
      obtain ⟨p, hp, rfl⟩ := Option.map_eq_some_iff.mp hj
      obtain ⟨m, em, hm⟩ := paired_get hqs hp
      have hmS := List.mem_of_getElem? em
      have tk : L.take (j + 1) = L.take j ++ [m] := by rw [List.take_succ, em]; rfl
      have c1 := small m
      have c2 := small b
      refine ⟨_, rfl, p, _, _, _, rfl, rfl, SqL.of hm.2, rfl, _, rfl, qb, _, _, _, rfl, rfl, SqL.of hb, rfl, _, _, rfl, rfl, .inl ⟨by omega, by omega⟩, _, rfl, qb, _, _, _, rfl, rfl, SqL.of hb, rfl, _, rfl, p, _, _, _, rfl, rfl, SqL.of hm.2, rfl, _, _, rfl, rfl, .inl ⟨by omega, by omega⟩, _, _, rfl, rfl, _, rfl, ?_⟩
      rw [mul_nat]
      refine ite2 (fun hlt => ⟨_, rfl, some (.ref p), p, m, rfl, rfl, hm.1, hm.2, hmS, ?_⟩) fun hlt => ⟨some (.ref p), qb, b, rfl, rfl, hnb, hb, hbS, ?_⟩
      · rw [tk, foldl_snoc, ← eb]
        exact (if_pos hlt).symm
      · rw [tk, foldl_snoc, ← eb]
        exact (if_neg hlt).symm
    · rintro σ H' ⟨v, qb, b, rfl, rfl, hnb, hb, hbS, eb⟩
      rw [List.length_map, show qs.length = L.length from hlen, List.take_length] at eb
      have eb2 : best (byRate a) L = some b := by
        rw [ers, best_loop ((byRate_ord a).ir _ (hpos b0 hb0S)), ← ers, ← eb]
      exact ⟨_, rfl, q.read rep (by rw [ed, en, eb2]) s2 hnb hb (by rw [ed, en, eb2]; rfl)⟩
end
end Rt
end

section
set_option Elab.async false
set_option linter.all false
set_option maxRecDepth 100000
set_option maxHeartbeats 2000000
namespace Rt
open PySem PySem.Spec PyProof.Rows L2
open Su69 (Abs)

/-- the racks changed -/
theorem Rep.rks {CT CW : Addr} {H H' : Hp} {h : Addr} {R : RD} {a : Abs} (r : Rep CT CW H h R a) {rs : List Nat} (g : Good { a with racks := rs }) (hl : H' R.ls = some (.lst (rs.map iv))) (kp : ∀ b o, H b = some o → b ≠ R.ls → H' b = some o) :
    Rep CT CW H' h R { a with racks := rs } where
  good := g
  house := by
    obtain ⟨dh, e⟩ := r.house
    exact ⟨dh, kp _ _ e (ne_of e r.sizes (by intro z; cases z))⟩
  sizes := hl
  tyres := kp _ _ r.tyres (fun z => r.dist.1 z.symm)
  recd := by
    obtain ⟨ps, e, m⟩ := r.recd
    exact ⟨ps, kp _ _ e (fun z => r.dist.2.1 z.symm), Paired.mapP m fun _ _ q => kp _ _ q (ne_of q r.sizes (by intro z; cases z))⟩
  tyre i hi := by
    obtain ⟨dx, e⟩ := r.tyre i hi
    exact ⟨dx, kp _ _ e (ne_of e r.sizes (by intro z; cases z))⟩
  marks i hi := kp _ _ (r.marks i hi) (r.mne i hi).1
  inj := r.inj
  dist := r.dist
  mne := r.mne
theorem Fin.rks1 {CT CW : Addr} {H H1 H2 : Hp} {h : Addr} {R : RD} {a : Abs} {x : Abs × Su69.Ans} {Q : VK} (f : Fin CT CW H h R a x Q) (s1 : Same H H1) (rep2 : Rep CT CW H2 h R x.1) (kp : ∀ b o, H1 b = some o → b ≠ R.ls → H2 b = some o)
    {l : Addr} (hl : H2 l = none) {vs : List V} (ev : vs = (ans x.2).map V.int) : Q (.ref l) (upd H2 l (.lst vs)) :=
  f _ R l rfl rfl lrR (rep2.same (Same.new hl)) (fun b o e h1 h2 h3 h4 h5 => Same.new hl _ _ (kp b o (s1 _ _ e) h2)) (s1.free (fresh_back kp ⟨_, rep2.sizes⟩ hl)) (by rw [upd_same, ev])
/-- the day changed -/
theorem Rep.dy {CT CW : Addr} {H H' : Hp} {h : Addr} {R : RD} {a : Abs} (r : Rep CT CW H h R a) {d : Nat} (g : Good { a with today := d }) {dx : Addr} (hl : H' h = some (.ins CW dx (hfs d R.ls R.lt R.lr))) (kp : ∀ b o, H b = some o → b ≠ h → H' b = some o) :
    Rep CT CW H' h R { a with today := d } := by
  obtain ⟨dh, eh⟩ := r.house
  have nl : ∀ {l : Addr} {xs : List V}, H l = some (.lst xs) → l ≠ h := fun e => ne_of e eh (by intro z; cases z)
  refine ⟨g, ⟨dx, hl⟩, kp _ _ r.sizes (nl r.sizes), kp _ _ r.tyres (nl r.tyres), ?_, fun i hi => ?_, fun i hi => kp _ _ (r.marks i hi) (nl (r.marks i hi)), r.inj, r.dist, r.mne⟩
  · obtain ⟨ps, e, m⟩ := r.recd
    exact ⟨ps, kp _ _ e (nl e), Paired.mapP m fun _ _ q => kp _ _ q (ne_of q eh (by intro z; cases z))⟩
  · obtain ⟨dt, e⟩ := r.tyre i hi
    exact ⟨dt, kp _ _ e (fun z => r.ne_h hi z.symm)⟩
theorem Fin.dy1 {CT CW : Addr} {H H1 H2 : Hp} {h : Addr} {R : RD} {a : Abs} {x : Abs × Su69.Ans} {Q : VK} (f : Fin CT CW H h R a x Q) (s1 : Same H H1) (rep2 : Rep CT CW H2 h R x.1) (kp : ∀ b o, H1 b = some o → b ≠ h → H2 b = some o)
    {l : Addr} (hl : H2 l = none) {vs : List V} (ev : vs = (ans x.2).map V.int) : Q (.ref l) (upd H2 l (.lst vs)) :=
  f _ R l rfl rfl lrR (rep2.same (Same.new hl)) (fun b o e h1 h2 h3 h4 h5 => Same.new hl _ _ (kp b o (s1 _ _ e) h1)) (s1.free (fresh_back kp (let ⟨dx, e⟩ := rep2.house; ⟨_, e⟩) hl)) (by rw [upd_same, ev])
/-- one tyre more -/
def RD.more (R : RD) (n : Nat) (x m : Addr) : RD := { R with ta := fun i => if i = n then x else R.ta i, ma := fun i => if i = n then m else R.ma i }
theorem moreMa {H : Hp} {R : RD} {n : Nat} {x m : Addr} (h : H m = none) (i : Nat) : (R.more n x m).ma i = R.ma i ∨ H ((R.more n x m).ma i) = none := by
  unfold RD.more
  by_cases e : i = n
  · exact .inr (by show H (if i = n then m else R.ma i) = none; rw [if_pos e]; exact h)
  · exact .inl (if_neg e)
theorem Rep.put {CT CW : Addr} {H H' : Hp} {h : Addr} {R : RD} {a : Abs} (r : Rep CT CW H h R a) {t : Su69.Tyre} (g : Good { a with tyres := a.tyres ++ [t] }) {x dx m : Addr} (nx : H x = none) (nm : H m = none)
    (hx : H' x = some (.ins CT dx (tfs a.tyres.length m t))) (hm : H' m = some (.lst (t.marks.map iv))) (hl : H' R.lt = some (.lst ((a.all.map (tr R)) ++ [.ref x]))) (kp : ∀ b o, H b = some o → b ≠ R.lt → H' b = some o) :
    Rep CT CW H' h (R.more a.tyres.length x m) { a with tyres := a.tyres ++ [t] } := by
  have len : ({ a with tyres := a.tyres ++ [t] } : Abs).tyres.length = a.tyres.length + 1 := by show (a.tyres ++ [t]).length = _; rw [List.length_append, List.length_singleton]
  have old : ∀ i, i < a.tyres.length → (R.more a.tyres.length x m).ta i = R.ta i ∧ (R.more a.tyres.length x m).ma i = R.ma i := fun i hi => by
    unfold RD.more
    exact ⟨if_neg (by omega), if_neg (by omega)⟩
  have new : (R.more a.tyres.length x m).ta a.tyres.length = x ∧ (R.more a.tyres.length x m).ma a.tyres.length = m := by
    unfold RD.more
    exact ⟨if_pos rfl, if_pos rfl⟩
  have cases_ : ∀ i, i < ({ a with tyres := a.tyres ++ [t] } : Abs).tyres.length → i < a.tyres.length ∨ i = a.tyres.length := fun i hi => by rw [len] at hi; omega
  have tx : ∀ i, i < a.tyres.length → R.ta i ≠ x := fun i hi => by
    obtain ⟨dt, e⟩ := r.tyre i hi
    exact ne_of_none e nx
  refine ⟨g, ?_, kp _ _ r.sizes r.dist.1, ?_, ?_, fun i hi => ?_, fun i hi => ?_, fun i j hi hj e => ?_, r.dist, fun i hi => ?_⟩
  · obtain ⟨dh, e⟩ := r.house
    exact ⟨dh, kp _ _ e (ne_of e r.tyres (by intro z; cases z))⟩
  · show H' R.lt = _
    rw [hl]
    have e1 : ({ a with tyres := a.tyres ++ [t] } : Abs).all = a.all ++ [a.tyres.length] := by
      unfold Su69.Abs.all
      rw [len, List.range_succ]
    rw [e1, List.map_append]
    have e2 : a.all.map (fun i => V.ref ((R.more a.tyres.length x m).ta i)) = a.all.map (tr R) := List.map_congr_left fun i hi => by rw [(old i (mem_all.mp hi)).1]
    rw [e2]
    show _ = some (HO.lst (_ ++ [V.ref ((R.more a.tyres.length x m).ta a.tyres.length)]))
    rw [new.1]
  · obtain ⟨ps, e, mm⟩ := r.recd
    exact ⟨ps, kp _ _ e (fun z => r.dist.2.2 z.symm), Paired.mapP mm fun _ _ q => kp _ _ q (ne_of q r.tyres (by intro z; cases z))⟩
  · rcases cases_ i hi with hi | rfl
    · rw [(old i hi).1, (old i hi).2, app_tyre hi]
      obtain ⟨dt, e⟩ := r.tyre i hi
      exact ⟨dt, kp _ _ e (ne_of e r.tyres (by intro z; cases z))⟩
    · rw [new.1, new.2, app_new]
      exact ⟨dx, hx⟩
  · rcases cases_ i hi with hi | rfl
    · rw [(old i hi).2, app_tyre hi]
      exact kp _ _ (r.marks i hi) (r.mne i hi).2.1
    · rw [new.2, app_new]; exact hm
  · rcases cases_ i hi with hi | hi
    · rcases cases_ j hj with hj | hj
      · rw [(old i hi).1, (old j hj).1] at e
        exact r.inj i j hi hj e
      · subst hj
        rw [(old i hi).1, new.1] at e
        exact absurd e (tx i hi)
    · rcases cases_ j hj with hj | hj
      · subst hi
        rw [(old j hj).1, new.1] at e
        exact absurd e.symm (tx j hj)
      · rw [hi, hj]
  · rcases cases_ i hi with hi | rfl
    · rw [(old i hi).2]; exact r.mne i hi
    · rw [new.2]
      obtain ⟨ps, e, _⟩ := r.recd
      exact ⟨(ne_of_none r.sizes nm).symm, (ne_of_none r.tyres nm).symm, (ne_of_none e nm).symm⟩
section
variable (K : PySem.W.Frag) (CT CW : Addr)
def spTInit : Sp := fun vs H Q _ => ∃ (x dx m : Addr) (n r d : Nat), vs = [.ref x, iv n, .ref m, iv r, iv d] ∧ H x = some (.ins CT dx []) ∧ ∀ H' : Hp, (∀ l, H' x = some (.ins CT dx (tfs n m ⟨l, 0, r, d, false⟩))) → (∀ b o, H b = some o → b ≠ x → H' b = some o) → Q .non H'
def spWInit : Sp := fun vs H Q _ => ∃ (x dx : Addr), vs = [.ref x] ∧ H x = some (.ins CW dx []) ∧ ∀ (H' : Hp) (ls lt lr : Addr), H' x = some (.ins CW dx (hfs 0 ls lt lr)) → H' ls = some (.lst []) → H' lt = some (.lst []) → H' lr = some (.lst []) → H ls = none → H lt = none → H lr = none → ls ≠ lt → ls ≠ lr → lt ≠ lr → (∀ b o, H b = some o → b ≠ x → H' b = some o) → Q .non H'
def spRack : Sp := fun vs H Q _ => ∃ h R a n, vs = [.ref h, iv n] ∧ Rep CT CW H h R a ∧ Fin CT CW H h R a (Su69.does a (.rack n)) Q
def spFive : Sp := fun vs H Q _ => ∃ (l : Addr) (ns : List Nat), vs = [.ref l] ∧ H l = some (.lst (ns.map iv)) ∧ Ret H Q (.bl (decide (ns.length = 5 ∧ ∀ v ∈ ns, v < 100)))
def spPut : Sp := fun vs H Q _ => ∃ (h : Addr) (R : RD) (a : Abs) (r : Nat) (l : Addr) (ns : List Nat), vs = [.ref h, iv r, .ref l] ∧ Rep CT CW H h R a ∧ H l = some (.lst (ns.map iv)) ∧ l ≠ R.ls ∧ l ≠ R.lt ∧ l ≠ R.lr ∧ Fin CT CW H h R a (Su69.does a (.put r ns)) Q
def spMove : Sp := fun vs H Q _ => ∃ h R a t r, vs = [.ref h, iv t, iv r] ∧ Rep CT CW H h R a ∧ Fin CT CW H h R a (Su69.does a (.move t r)) Q
def spDays : Sp := fun vs H Q _ => ∃ h R a n, vs = [.ref h, iv n] ∧ Rep CT CW H h R a ∧ Fin CT CW H h R a (Su69.does a (.days n)) Q
end
section
variable {P : Program} {w : World} {K : PySem.W.Frag} {mg : Str → Option Value} {base : Heap} {CT CW fT fW : Addr}
theorem sc_tinit : FnScope ["self", "number", "marks", "rack_number", "day"] ["self", "number", "marks", "rack_number", "day"] (defScope s_tinit) := ⟨rfl, rfl, rfl, by decide +kernel, rfl, by decide +kernel, by decide +kernel⟩
theorem sc_winit : FnScope ["self"] ["self"] (defScope s_winit) := ⟨rfl, rfl, rfl, by decide +kernel, rfl, by decide +kernel, by decide +kernel⟩
theorem ok_tinit (T : Txt K mg CT CW fT fW) {fd : FuncData} (F : Fun K "__init__" "Tyre.__init__" s_tinit fT fd) : FnOk P w K mg base CX0 1 fT fd ["self", "number", "marks", "rack_number", "day"] (spTInit CT) := by
  refine F.ok sc_tinit (fun vs H Q E h => ?_) (fun cdv A outer s H vs Q E hr h => ?_)
  · obtain ⟨x, dx, m, n, r, d, rfl, _⟩ := h
    rfl
  · obtain ⟨x, dx, m, n, r, d, rfl, hx, q⟩ := h
    refine ⟨_, (pss_cons (ps_fld (pv 0) (pv 1) rfl) (pss_cons (ps_fld (pv 0) (pv 2) rfl) (pss_cons (ps_fld (pv 0) (pgi T.c_IN_RACK (by rfl)) rfl) (pss_cons (ps_fld (pv 0) (pv 3) rfl) (pss_cons (ps_fld (pv 0) (pv 4) rfl) (pss_one (ps_fld (pv 0) pe_bl rfl))))))), ?_⟩
    refine ⟨_, rfl, _, rfl, x, CT, dx, _, rfl, hx, T.clT, T.nT_number, (by show 0 < 1000; decide), ?_⟩
    refine ⟨_, rfl, _, rfl, x, CT, dx, _, rfl, upd_same, T.clT, T.nT_marks, (by show 1 < 1000; decide), ?_⟩
    refine ⟨_, rfl, x, CT, dx, _, rfl, upd_same, T.clT, T.nT_stage, (by show 2 < 1000; decide), ?_⟩
    refine ⟨_, rfl, _, rfl, x, CT, dx, _, rfl, upd_same, T.clT, T.nT_holder, (by show 3 < 1000; decide), ?_⟩
    refine ⟨_, rfl, _, rfl, x, CT, dx, _, rfl, upd_same, T.clT, T.nT_since, (by show 4 < 1000; decide), ?_⟩
    refine ⟨_, rfl, x, CT, dx, _, rfl, upd_same, T.clT, T.nT_claimed, (by show 5 < 1000; decide), ?_⟩
    refine q _ (fun l => ?_) fun b o e hb => ?_
    · rw [upd_same]; rfl
    · rw [upd_ne hb, upd_ne hb, upd_ne hb, upd_ne hb, upd_ne hb, upd_ne hb]; exact e
theorem ok_winit (T : Txt K mg CT CW fT fW) {fd : FuncData} (F : Fun K "__init__" "Warehouse.__init__" s_winit fW fd) : FnOk P w K mg base CX0 1 fW fd ["self"] (spWInit CW) := by
  refine F.ok sc_winit (fun vs H Q E h => ?_) (fun cdv A outer s H vs Q E hr h => ?_)
  · obtain ⟨x, dx, rfl, _⟩ := h
    rfl
  · obtain ⟨x, dx, rfl, hx, q⟩ := h
    refine ⟨_, (pss_cons (ps_fld (pv 0) pe_int rfl) (pss_cons (ps_fld (pv 0) (pe_lst pa_nil) rfl) (pss_cons (ps_fld (pv 0) (pe_lst pa_nil) rfl) (pss_one (ps_fld (pv 0) (pe_lst pa_nil) rfl))))), ?_⟩
    refine ⟨_, rfl, x, CW, dx, _, rfl, hx, T.clW, T.nW_day, (by show 0 < 1000; decide), ?_⟩
    refine ⟨(by show 0 ≤ sizeLine; decide), fun ls hls => ⟨_, rfl, x, CW, dx, _, rfl, by rw [upd_ne (ne_of_none upd_same hls)]; exact upd_same, T.clW, T.nW_sizes, (by show 1 < 1000; decide), ?_⟩⟩
    have x1 : x ≠ ls := ne_of_none upd_same hls
    refine ⟨(by show 0 ≤ sizeLine; decide), fun lt hlt => ⟨_, rfl, x, CW, dx, _, rfl, by rw [upd_ne (ne_of_none upd_same hlt)]; exact upd_same, T.clW, T.nW_tyres, (by show 2 < 1000; decide), ?_⟩⟩
    have x2 : x ≠ lt := ne_of_none upd_same hlt
    have l12 : ls ≠ lt := ne_of_none (by rw [upd_ne x1.symm]; exact upd_same) hlt
    refine ⟨(by show 0 ≤ sizeLine; decide), fun lr hlr => ⟨_, rfl, x, CW, dx, _, rfl, by rw [upd_ne (ne_of_none upd_same hlr)]; exact upd_same, T.clW, T.nW_recalled, (by show 3 < 1000; decide), ?_⟩⟩
    have x3 : x ≠ lr := ne_of_none upd_same hlr
    have l23 : lt ≠ lr := ne_of_none (by rw [upd_ne x2.symm]; exact upd_same) hlr
    have l13 : ls ≠ lr := ne_of_none (by rw [upd_ne x1.symm, upd_ne l12, upd_ne x1.symm]; exact upd_same) hlr
    have n1 : H ls = none := by rw [upd_ne x1.symm] at hls; exact hls
    have n2 : H lt = none := by rw [upd_ne x2.symm, upd_ne l12.symm, upd_ne x2.symm] at hlt; exact hlt
    have n3 : H lr = none := by rw [upd_ne x3.symm, upd_ne l23.symm, upd_ne x3.symm, upd_ne l13.symm, upd_ne x3.symm] at hlr; exact hlr
    refine q _ ls lt lr ?_ ?_ ?_ ?_ n1 n2 n3 l12 l13 l23 fun b o e hb => ?_
    · rw [upd_same]; rfl
    · rw [upd_ne x1.symm, upd_ne l13, upd_ne x1.symm, upd_ne l12, upd_ne x1.symm]; exact upd_same
    · rw [upd_ne x2.symm, upd_ne l23, upd_ne x2.symm]; exact upd_same
    · rw [upd_ne x3.symm]; exact upd_same
    · rw [upd_ne hb, upd_ne (ne_of_none e n3), upd_ne hb, upd_ne (ne_of_none e n2), upd_ne hb, upd_ne (ne_of_none e n1), upd_ne hb]; exact e
theorem sc_add_rack : FnScope ["house", "size"] ["house", "size"] (defScope s_add_rack) := ⟨rfl, rfl, rfl, by decide +kernel, rfl, by decide +kernel, by decide +kernel⟩
theorem ok_add_rack (T : Txt K mg CT CW fT fW) : Has P w K mg base 1 "add_rack" ["house", "size"] (spRack CT CW) := T.d_add_rack.has fun f fd F => by
  refine F.ok sc_add_rack (fun vs H Q E h => ?_) (fun cdv A outer s H vs Q E hr h => ?_)
  · obtain ⟨h, R, a, n, rfl, _⟩ := h
    rfl
  · obtain ⟨h, R, a, n, rfl, rep, q⟩ := h
    obtain ⟨dh, hh⟩ := rep.house
    refine ⟨_, (pss_cons (ps_if (pw_or (pt_cmpR op_lt (pv 1) pe_int (nomark _)) (pw_or1 (pt_cmpR op_gt (pv 1) (pgi T.c_LARGEST_RACK (by rfl)) (nomark _)))).pt (pss_one (ps_ret (pe_lst (pa_cons (pgi T.c_OUT_OF_RANGE (by rfl)) pa_nil)))) pss_nil) (pss_cons (ps_if (pt_cmpR op_ge (pe_callB call_len_seq (by rfl) T.b_len PySem.boot_len (pa_cons (pe_fld (pv 0) rfl) pa_nil)) (pgi T.c_MOST_RACKS (by rfl)) (nomark _)) (pss_one (ps_ret (pe_lst (pa_cons (pgi T.c_TOO_MANY (by rfl)) pa_nil)))) pss_nil) (pss_cons (ps_expr (pe_bm PySem.F.plainAttrs_list PySem.F.slot_list_append PySem.F.type_list_append mt_append (pe_fld (pv 0) rfl) (pa_cons (pv 1) pa_nil))) (pss_one (ps_ret (pe_lst (pa_cons (pe_op op_sub (pe_callB call_len_seq (by rfl) T.b_len PySem.boot_len (pa_cons (pe_fld (pv 0) rfl) pa_nil)) pe_int) pa_nil))))))), ?_⟩
    have ed : Su69.does a (.rack n) = if n = 0 ∨ 60 < n then (a, Su69.no (-22)) else if Su69.RACKS ≤ a.racks.length then (a, Su69.no (-28)) else ({ a with racks := a.racks ++ [n] }, Su69.num a.racks.length []) := rfl
    refine ⟨_, rfl, _, _, rfl, rfl, _, rfl, ite2 (fun h0 => ?_) fun h0 => ⟨_, rfl, _, _, rfl, rfl, _, rfl, ?_⟩⟩
    · have h0 : (n : Int) < 1 := of_decide_eq_true h0
      refine iteT ⟨(by show 1 ≤ sizeLine; decide), fun l hl => q.ref1 rep (by rw [ed, if_pos (.inl (by omega))]) (Same.refl H) hl⟩
    have h0 : ¬ (n : Int) < 1 := fun z => h0 (decide_eq_true z)
    refine ite2 (fun h1 => ⟨(by show 1 ≤ sizeLine; decide), fun l hl => ?_⟩) fun h1 => ?_
    · have h1 : (60 : Int) < (n : Int) := of_decide_eq_true h1
      exact q.ref1 rep (by rw [ed, if_pos (.inr (by omega))]) (Same.refl H) hl
    have h1 : ¬ (60 : Int) < (n : Int) := fun z => h1 (decide_eq_true z)
    rw [if_neg (by omega)] at ed
    refine ⟨_, rfl, h, CW, dh, _, _, rfl, hh, T.clW, T.nW_sizes, rfl, R.ls, _, rfl, .inl (SqL.of rep.sizes), _, _, rfl, rfl, _, rfl, ?_⟩
    rw [List.length_map, show (8 : Int) = ((8 : Nat) : Int) from rfl, le_nat]
    refine ite2 (fun h2 => ⟨(by show 1 ≤ sizeLine; decide), fun l hl => ?_⟩) fun h2 => ?_
    · exact q.ref1 rep (by rw [ed, if_pos (show Su69.RACKS ≤ _ from of_decide_eq_true h2)]) (Same.refl H) hl
    have h2' : a.racks.length < 8 := Nat.lt_of_not_le fun z => h2 (decide_eq_true z)
    rw [if_neg (show ¬ Su69.RACKS ≤ a.racks.length from fun z => h2 (decide_eq_true z))] at ed
    refine ⟨_, rfl, h, CW, dh, _, _, rfl, hh, T.clW, T.nW_sizes, rfl, .inl ⟨rfl, _, SqL.of rep.sizes⟩, _, rfl, R.ls, _, _, rfl, rfl, rep.sizes, by rw [List.length_map, sizeLine_eq]; omega, ?_⟩
    have kp : ∀ b o, H b = some o → b ≠ R.ls → (upd H R.ls (.lst (a.racks.map iv ++ [iv n]))) b = some o := fun b o e hb => by rw [upd_ne hb]; exact e
    have rep2 : Rep CT CW (upd H R.ls (.lst (a.racks.map iv ++ [iv n]))) h R { a with racks := a.racks ++ [n] } :=
      Rep.rks rep (good_rack rep.good h2') (by rw [upd_same, List.map_append]; rfl) kp
    obtain ⟨dh2, hh2⟩ := rep2.house
    refine ⟨_, rfl, h, CW, dh2, _, _, rfl, hh2, T.clW, T.nW_sizes, rfl, R.ls, _, rfl, .inl (SqL.of upd_same), _, _, rfl, rfl, (by show 1 ≤ sizeLine; decide), fun l hl => ?_⟩
    refine q.rks1 (Same.refl H) (by rw [ed]; exact rep2) kp hl ?_
    rw [ed]
    show [V.int ((((a.racks.map iv ++ [iv n]).length : Nat) : Int) - 1)] = [V.int ((a.racks.length : Nat) : Int)]
    rw [List.length_append, List.length_map, List.length_singleton]
    congr 2
    omega
theorem sc_are_five_marks : FnScope ["values"] ["values"] (defScope s_are_five_marks) := ⟨rfl, rfl, rfl, by decide +kernel, rfl, by decide +kernel, by decide +kernel⟩
theorem ok_are_five_marks (T : Txt K mg CT CW fT fW) : Has P w K mg base 1 "are_five_marks" ["values"] (spFive) := T.d_are_five_marks.has fun f fd F => by
  refine F.ok sc_are_five_marks (fun vs H Q E h => ?_) (fun cdv A outer s H vs Q E hr h => ?_)
  · obtain ⟨l, ns, rfl, _⟩ := h
    rfl
  · obtain ⟨l, ns, rfl, hl, q⟩ := h
    refine ⟨_, (pss_one (ps_ret (pe_and (pe_cmpR op_eq (pe_callB call_len_seq (by rfl) T.b_len PySem.boot_len (pa_cons (pv 0) pa_nil)) (pgi T.c_PLACES (by rfl)) (nomark _)) (pe_one (pe_cmpR op_le (pe_callB (cr_max rfl) (by rfl) T.b_max (by rfl) (pa_cons (pv 0) pa_nil)) (pgi T.c_HIGHEST_VALUE (by rfl)) (nomark _)))))), ?_⟩
    refine ⟨_, rfl, l, _, rfl, .inl (SqL.of hl), rfl, _, rfl, ?_⟩
    rw [List.length_map, show V.int 5 = iv 5 from rfl, eq_nat]
    refine ite2 (fun h0 => ?_) fun h0 => ?_
    · have h0 : ns.length = 5 := of_decide_eq_true h0
      have hl2 : H l = some (.lst ((ns.map fun (x : Nat) => (x : Int)).map V.int)) := by rw [hl, List.map_map]; rfl
      refine ⟨_, rfl, l, _, rfl, SqL.of hl2, by rw [List.length_map, h0]; decide, fun m hm hmax => ⟨_, _, rfl, rfl, ?_⟩⟩
      have e : decide (m ≤ (99 : Int)) = decide (ns.length = 5 ∧ ∀ v ∈ ns, v < 100) := by
        by_cases h1 : m ≤ (99 : Int)
        · rw [decide_eq_true h1]
          refine (decide_eq_true ⟨h0, fun v hv => ?_⟩).symm
          have := hmax (v : Int) (List.mem_map.mpr ⟨v, hv, rfl⟩)
          omega
        · rw [decide_eq_false h1]
          refine (decide_eq_false fun z => ?_).symm
          obtain ⟨v, hv, e⟩ := List.mem_map.mp hm
          have := z.2 v hv
          omega
      dsimp only
      rw [e]
      exact q H (Same.refl H)
    · have e : decide (ns.length = 5 ∧ ∀ v ∈ ns, v < 100) = false := decide_eq_false fun z => h0 (decide_eq_true z.1)
      have := q H (Same.refl H)
      rw [e] at this
      exact this
theorem sc_put_tyre : FnScope ["house", "rack_number", "values", "number"] ["house", "rack_number", "values"] (defScope s_put_tyre) := ⟨rfl, rfl, rfl, by decide +kernel, rfl, by decide +kernel, by decide +kernel⟩
theorem ok_put_tyre (T : Txt K mg CT CW fT fW) : Has P w K mg base 3 "put_tyre" ["house", "rack_number", "values"] (spPut CT CW) := T.d_put_tyre.has fun f fd F => by
  refine F.ok sc_put_tyre (fun vs H Q E h => ?_) (fun cdv A outer s H vs Q E hr h => ?_)
  · obtain ⟨h, R, a, r, l, ns, rfl, _⟩ := h
    rfl
  · obtain ⟨h, R, a, r, l, ns, rfl, rep, hl, nl1, nl2, nl3, q⟩ := h
    obtain ⟨dh, hh⟩ := rep.house
    obtain ⟨fdT, FT, bT⟩ := T.inT
    refine ⟨_, (pss_cons (ps_if (pt_val (pe_callH (ok_lacks_rack T) (hr.mono (by decide)) (by rfl) (pa_cons (pv 0) (pa_cons (pv 1) pa_nil)))) (pss_one (ps_ret (pe_lst (pa_cons (pgi T.c_NO_SUCH (by rfl)) pa_nil)))) pss_nil) (pss_cons (ps_if (pt_not (pt_val (pe_callH (ok_are_five_marks T) (hr.mono (by decide)) (by rfl) (pa_cons (pv 2) pa_nil)))) (pss_one (ps_ret (pe_lst (pa_cons (pgi T.c_OUT_OF_RANGE (by rfl)) pa_nil)))) pss_nil) (pss_cons (ps_if (pw_or (pt_cmpR op_ge (pe_callB call_len_seq (by rfl) T.b_len PySem.boot_len (pa_cons (pe_fld (pv 0) rfl) pa_nil)) (pgi T.c_MOST_TYRES (by rfl)) (nomark _)) (pw_or1 (pt_cmpR op_eq (pe_callH (ok_room_left T) hr (by rfl) (pa_cons (pv 0) (pa_cons (pv 1) pa_nil))) pe_int (nomark _)))).pt (pss_one (ps_ret (pe_lst (pa_cons (pgi T.c_TOO_MANY (by rfl)) pa_nil)))) pss_nil) (pss_cons (ps_set (i := 3) sc_put_tyre.nd rfl (Or.inl rfl) (pe_callB call_len_seq (by rfl) T.b_len PySem.boot_len (pa_cons (pe_fld (pv 0) rfl) pa_nil))) (pss_cons (ps_expr (pe_bm PySem.F.plainAttrs_list PySem.F.slot_list_append PySem.F.type_list_append mt_append (pe_fld (pv 0) rfl) (pa_cons (pe_make T.mkT (ok_tinit T FT) hr (by rfl) T.mgT bT .nil pass0 (pa_cons (pv 3) (pa_cons (pe_callTy call_list_of (by rfl) T.b_list (by rfl) (pa_cons (pv 2) pa_nil)) (pa_cons (pv 1) (pa_cons (pe_fld (pv 0) rfl) pa_nil))))) pa_nil))) (pss_one (ps_ret (pe_lst (pa_cons (pv 3) pa_nil))))))))), ?_⟩
    have ed : Su69.does a (.put r ns) = if a.isR r = false then (a, Su69.no (-2)) else if ns.length ≠ Su69.MARKS ∨ ns.any (fun x => decide (Su69.VALUES ≤ x)) = true then (a, Su69.no (-22)) else if Su69.TYRES ≤ a.tyres.length ∨ a.full r = true then (a, Su69.no (-28)) else ({ a with tyres := a.tyres ++ [⟨ns, 0, r, a.today, false⟩] }, Su69.num a.tyres.length []) := rfl
    refine ⟨_, rfl, _, rfl, h, R, a, r, rfl, rep, fun H1 s1 => ⟨_, rfl, ite2 (fun h0 => ⟨(by show 1 ≤ sizeLine; decide), fun l hl => ?_⟩) fun h0 => ?_⟩⟩
    · exact q.ref1 rep (by rw [ed, if_pos (notR h0)]) s1 hl
    obtain ⟨y1, y2⟩ := yesR h0
    rw [if_neg (by rw [y1]; simp)] at ed
    have rep1 := rep.same s1
    refine ⟨_, rfl, l, ns, rfl, s1 _ _ hl, fun H2 s2 => ⟨_, rfl, ite2 (fun h1 => ⟨(by show 1 ≤ sizeLine; decide), fun l hl => ?_⟩) fun h1 => ?_⟩⟩
    · have h1 : ¬ (ns.length = 5 ∧ ∀ v ∈ ns, v < 100) := fun z => by
        rw [decide_eq_true z] at h1
        cases h1
      refine q.ref1 rep ?_ (s1.trans s2) hl
      rw [ed, if_pos]
      by_cases h5 : ns.length = 5
      · exact .inr (any_ge.mpr fun z => h1 ⟨h5, z⟩)
      · exact .inl h5
    have h1 : ns.length = 5 ∧ ∀ v ∈ ns, v < 100 := by
      have : (!decide (ns.length = 5 ∧ ∀ v ∈ ns, v < 100)) = false := by simpa using h1
      exact of_decide_eq_true (by simpa using this)
    rw [if_neg (fun z => z.elim (fun z => z h1.1) fun z => any_ge.mp z h1.2)] at ed
    have s02 := s1.trans s2
    have rep2 := rep.same s02
    have fin28 : ∀ {H3 : Hp} {l3 : Addr}, Same H H3 → H3 l3 = none → (60 ≤ a.tyres.length ∨ a.full r = true) → Q (.ref l3) (upd H3 l3 (.lst [.int (-28)])) := fun {H3 l3} s3 hl3 hc =>
      q.ref1 rep (by rw [ed, if_pos (show Su69.TYRES ≤ _ ∨ _ from hc)]) s3 hl3
    refine ⟨_, rfl, h, CW, dh, _, _, rfl, s02 _ _ hh, T.clW, T.nW_tyres, rfl, R.lt, _, rfl, .inl (SqL.of rep2.tyres), _, _, rfl, rfl, _, rfl, ?_⟩
    rw [List.length_map, all_len, show (60 : Int) = ((60 : Nat) : Int) from rfl, le_nat]
    refine ite2 (fun h2 => iteT ⟨(by show 1 ≤ sizeLine; decide), fun l3 hl3 => fin28 s02 hl3 (.inl (of_decide_eq_true h2))⟩) fun h2 => ?_
    have h2' : a.tyres.length < 60 := Nat.lt_of_not_le fun z => h2 (decide_eq_true z)
    refine ⟨_, rfl, _, rfl, h, R, a, r, rfl, rep2, y2, fun H3 s3 => ⟨rfl, _, rfl, ?_⟩⟩
    have s03 := s02.trans s3
    have rep3 := rep.same s03
    have er : decide (V.int (((a.racks.getD r 0 : Nat) : Int) - ((a.inRack r).length : Int)) = V.int 0) = a.full r := by
      rw [← room_full rep.good y2]
      by_cases z : (((a.racks.getD r 0 : Nat) : Int) - ((a.inRack r).length : Int)) = 0
      · rw [decide_eq_true z]; exact decide_eq_true (by rw [z])
      · rw [decide_eq_false z]
        refine decide_eq_false fun e => z ?_
        injection e
    rw [er]
    refine ite2 (fun h3 => ⟨(by show 1 ≤ sizeLine; decide), fun l3 hl3 => fin28 s03 hl3 (.inr h3)⟩) fun h3 => ?_
    have h3' : (a.inRack r).length < a.racks.getD r 0 := Nat.lt_of_not_le fun z => h3 (full_iff.mpr z)
    rw [if_neg (show ¬ (Su69.TYRES ≤ a.tyres.length ∨ a.full r = true) from fun z => z.elim (fun z => h2 (decide_eq_true z)) h3)] at ed
    refine ⟨_, rfl, h, CW, dh, _, _, rfl, s03 _ _ hh, T.clW, T.nW_tyres, rfl, R.lt, _, rfl, .inl (SqL.of rep3.tyres), ?_⟩
    rw [List.length_map, all_len]
    refine ⟨_, rfl, h, CW, dh, _, _, rfl, s03 _ _ hh, T.clW, T.nW_tyres, rfl, .inl ⟨rfl, _, SqL.of rep3.tyres⟩, _, rfl, _, rfl, l, _, rfl, .inl (SqL.of (s03 _ _ hl)), fun lm hlm => ?_⟩
    have s4 := s03.trans (Same.new (o := HO.lst (ns.map iv)) hlm)
    refine ⟨_, rfl, _, rfl, h, CW, dh, _, _, rfl, s4 _ _ hh, T.clW, T.nW_day, rfl, fun x dx nx ndx nex => ?_⟩
    generalize hH4 : upd H3 lm (HO.lst (ns.map iv)) = H4 at s4 nx ndx
    have hlm4 : H4 lm = some (.lst (ns.map iv)) := by rw [← hH4]; exact upd_same
    refine ⟨x, dx, lm, a.tyres.length, r, a.today, rfl, upd_same, fun H5 hx5 kp5 => ⟨rfl, ?_⟩⟩
    have old5 : ∀ b o, H4 b = some o → H5 b = some o := fun b o e => kp5 b o (by rw [upd_ne (ne_of_none e nx), upd_ne (ne_of_none e ndx)]; exact e) (ne_of_none e nx)
    have s5 : Same H H5 := fun b o e => old5 b o (s4 _ _ e)
    have rep5 := rep.same s5
    refine ⟨R.lt, _, _, rfl, rfl, rep5.tyres, by rw [List.length_map, all_len, sizeLine_eq]; omega, ?_⟩
    have kp6 : ∀ b o, H5 b = some o → b ≠ R.lt → (upd H5 R.lt (.lst (a.all.map (tr R) ++ [.ref x]))) b = some o := fun b o e hb => by rw [upd_ne hb]; exact e
    have lmt : lm ≠ R.lt := fun z => by
      have e := s03 _ _ rep.tyres
      rw [← z] at e
      rw [e] at hlm; cases hlm
    have xlt : x ≠ R.lt := fun z => by
      have e := s4 _ _ rep.tyres
      rw [← z] at e
      rw [e] at nx; cases nx
    have rep6 : Rep CT CW (upd H5 R.lt (.lst (a.all.map (tr R) ++ [.ref x]))) h (R.more a.tyres.length x lm) { a with tyres := a.tyres ++ [⟨ns, 0, r, a.today, false⟩] } :=
      Rep.put (t := ⟨ns, 0, r, a.today, false⟩) rep (good_put rep.good h1.1 h1.2 h2' y2 h3') (x := x) (dx := dx) (m := lm) (s4.free nx) (s03.free hlm) (by rw [upd_ne xlt]; exact hx5 ns) (by rw [upd_ne lmt]; exact old5 _ _ hlm4) upd_same (fun b o e hb => kp6 b o (s5 _ _ e) hb)
    refine ⟨_, rfl, (by show 1 ≤ sizeLine; decide), fun l7 hl7 => ?_⟩
    refine q _ (R.more a.tyres.length x lm) l7 rfl rfl ⟨rfl, fun i => moreMa (s03.free hlm) i⟩ (by rw [ed]; exact rep6.same (Same.new hl7)) (fun b o e k1 k2 k3 k4 k5 => Same.new hl7 _ _ (kp6 b o (s5 _ _ e) k3)) ?_ ?_
    · exact fresh_back (t := R.lt) (fun b o e hb => kp6 b o (s5 _ _ e) hb) ⟨_, upd_same⟩ hl7
    · rw [upd_same, ed]; rfl
theorem sc_move_tyre : FnScope ["house", "number", "rack_number", "tyre", "left_rack"] ["house", "number", "rack_number"] (defScope s_move_tyre) := ⟨rfl, rfl, rfl, by decide +kernel, rfl, by decide +kernel, by decide +kernel⟩
theorem ok_move_tyre (T : Txt K mg CT CW fT fW) : Has P w K mg base 3 "move_tyre" ["house", "number", "rack_number"] (spMove CT CW) := T.d_move_tyre.has fun f fd F => by
  refine F.ok sc_move_tyre (fun vs H Q E h => ?_) (fun cdv A outer s H vs Q E hr h => ?_)
  · obtain ⟨h, R, a, t, r, rfl, _⟩ := h
    rfl
  · obtain ⟨h, R, a, t, r, rfl, rep, q⟩ := h
    obtain ⟨dh, hh⟩ := rep.house
    refine ⟨_, (pss_cons (ps_if (pw_or (pt_val (pe_callH (ok_lacks_tyre T) (hr.mono (by decide)) (by rfl) (pa_cons (pv 0) (pa_cons (pv 1) pa_nil)))) (pw_or1 (pt_val (pe_callH (ok_lacks_rack T) (hr.mono (by decide)) (by rfl) (pa_cons (pv 0) (pa_cons (pv 2) pa_nil)))))).pt (pss_one (ps_ret (pe_lst (pa_cons (pgi T.c_NO_SUCH (by rfl)) pa_nil)))) pss_nil) (pss_cons (ps_set (i := 3) sc_move_tyre.nd rfl (Or.inl rfl) (pe_ix ix_list (pe_fld (pv 0) rfl) (pv 1) (fun _ _ => rfl))) (pss_cons (ps_if (pt_cmpR op_ne (pe_fld (pv 3) rfl) (pgi T.c_IN_RACK (by rfl)) (nomark _)) (pss_one (ps_ret (pe_lst (pa_cons (pgi T.c_NOT_SO (by rfl)) pa_nil)))) pss_nil) (pss_cons (ps_if (pt_cmpR op_eq (pe_fld (pv 3) rfl) (pv 2) (nomark _)) (pss_one (ps_ret (pe_lst (pa_cons (pgi T.c_SO_ALREADY (by rfl)) pa_nil)))) pss_nil) (pss_cons (ps_if (pt_cmpR op_eq (pe_callH (ok_room_left T) hr (by rfl) (pa_cons (pv 0) (pa_cons (pv 2) pa_nil))) pe_int (nomark _)) (pss_one (ps_ret (pe_lst (pa_cons (pgi T.c_TOO_MANY (by rfl)) pa_nil)))) pss_nil) (pss_cons (ps_set (i := 4) sc_move_tyre.nd rfl (Or.inl rfl) (pe_fld (pv 3) rfl)) (pss_cons (ps_fld (pv 3) (pv 2) rfl) (pss_one (ps_ret (pe_lst (pa_cons (pv 4) pa_nil))))))))))), ?_⟩
    have ed : Su69.does a (.move t r) = if a.isT t = false ∨ a.isR r = false then (a, Su69.no (-2)) else if (a.tyre t).how ≠ 0 then (a, Su69.no (-16)) else if (a.tyre t).place = r then (a, Su69.no (-17)) else if a.full r then (a, Su69.no (-28)) else (a.set t fun x => { x with place := r }, Su69.num (a.tyre t).place []) := rfl
    refine ⟨_, rfl, _, rfl, h, R, a, t, rfl, rep, fun H1 s1 => ⟨_, rfl, ite2 (fun h0 => iteT ⟨(by show 1 ≤ sizeLine; decide), fun l hl => ?_⟩) fun h0 => ?_⟩⟩
    · exact q.ref1 rep (by rw [ed, if_pos (.inl (notT h0))]) s1 hl
    obtain ⟨y1, y2⟩ := yesT h0
    refine ⟨_, rfl, _, rfl, h, R, a, r, rfl, rep.same s1, fun H2 s2 => ⟨_, rfl, ite2 (fun h1 => ⟨(by show 1 ≤ sizeLine; decide), fun l hl => ?_⟩) fun h1 => ?_⟩⟩
    · exact q.ref1 rep (by rw [ed, if_pos (.inr (notR h1))]) (s1.trans s2) hl
    obtain ⟨z1, z2⟩ := yesR h1
    rw [if_neg (by rw [y1, z1]; simp)] at ed
    have s02 := s1.trans s2
    have rep2 := rep.same s02
    obtain ⟨dx, ht⟩ := rep2.tyre t y2
    refine ⟨_, rfl, h, CW, dh, _, _, rfl, s02 _ _ hh, T.clW, T.nW_tyres, rfl, _, rfl, R.lt, _, _, tr R t, rfl, rfl, SqL.of rep2.tyres, atI_nat (rep.tyreAt y2), ?_⟩
    refine ⟨_, rfl, R.ta t, CT, dx, _, _, rfl, ht, T.clT, T.nT_stage, rfl, rfl, _, rfl, ?_⟩
    rw [show V.int 0 = iv 0 from rfl, eq_nat]
    refine ite2 (fun h2 => ⟨(by show 1 ≤ sizeLine; decide), fun l hl => ?_⟩) fun h2 => ?_
    · exact q.ref1 rep (by rw [ed, if_pos (by simpa using h2)]) s02 hl
    have h2 : (a.tyre t).how = 0 := by simpa using h2
    rw [if_neg (by simp [h2])] at ed
    refine ⟨_, rfl, R.ta t, CT, dx, _, _, rfl, ht, T.clT, T.nT_holder, rfl, _, rfl, rfl, _, rfl, ?_⟩
    rw [eq_nat]
    refine ite2 (fun h3 => ⟨(by show 1 ≤ sizeLine; decide), fun l hl => ?_⟩) fun h3 => ?_
    · exact q.ref1 rep (by rw [ed, if_pos (of_decide_eq_true h3)]) s02 hl
    rw [if_neg (fun z => h3 (decide_eq_true z))] at ed
    refine ⟨_, rfl, _, rfl, h, R, a, r, rfl, rep2, z2, fun H3 s3 => ⟨rfl, _, rfl, ?_⟩⟩
    have s03 := s02.trans s3
    have er : decide (V.int (((a.racks.getD r 0 : Nat) : Int) - ((a.inRack r).length : Int)) = V.int 0) = a.full r := by
      rw [← room_full rep.good z2]
      by_cases z : (((a.racks.getD r 0 : Nat) : Int) - ((a.inRack r).length : Int)) = 0
      · rw [decide_eq_true z]; exact decide_eq_true (by rw [z])
      · rw [decide_eq_false z]
        refine decide_eq_false fun e => z ?_
        injection e
    refine ite2 (fun h4 => ⟨(by show 1 ≤ sizeLine; decide), fun l hl => ?_⟩) fun h4 => ?_
    · have h4 : a.full r = true := er.symm.trans h4
      exact q.ref1 rep (by rw [ed, if_pos h4]) s03 hl
    have h4 : ¬ a.full r = true := fun z => h4 (er.trans z)
    rw [if_neg h4] at ed
    have ht3 := s3 _ _ ht
    refine ⟨_, rfl, R.ta t, CT, dx, _, _, rfl, ht3, T.clT, T.nT_holder, rfl, _, rfl, _, rfl, R.ta t, CT, dx, _, rfl, ht3, T.clT, T.nT_holder, (by show 6 < 1000; decide), ?_⟩
    have kp4 : ∀ b o, H3 b = some o → b ≠ R.ta t → (upd H3 (R.ta t) (.ins CT dx (putF "holder" (iv r) (tfs t (R.ma t) (a.tyre t))))) b = some o := fun b o e hb => by rw [upd_ne hb]; exact e
    have rep4 : Rep CT CW (upd H3 (R.ta t) (.ins CT dx (putF "holder" (iv r) (tfs t (R.ma t) (a.tyre t))))) h R (a.set t fun x => { x with place := r }) :=
      Rep.setT (rep.same s03) y2 (f := fun x => { x with place := r }) rfl (good_move rep.good y2 z2 h2 (by simpa using h4)) (dx := dx) (by rw [upd_same]; rfl) kp4
    refine ⟨_, rfl, (by show 1 ≤ sizeLine; decide), fun l hl => ?_⟩
    exact q.tyre1 (i := t) y2 (by rw [ed]; show t < (a.set t _).tyres.length; rw [set_len]; exact y2) s03 (by rw [ed]; exact rep4) kp4 hl (by rw [ed]; rfl)
theorem sc_pass_days : FnScope ["house", "days"] ["house", "days"] (defScope s_pass_days) := ⟨rfl, rfl, rfl, by decide +kernel, rfl, by decide +kernel, by decide +kernel⟩
theorem ok_pass_days (T : Txt K mg CT CW fT fW) : Has P w K mg base 1 "pass_days" ["house", "days"] (spDays CT CW) := T.d_pass_days.has fun f fd F => by
  refine F.ok sc_pass_days (fun vs H Q E h => ?_) (fun cdv A outer s H vs Q E hr h => ?_)
  · obtain ⟨h, R, a, n, rfl, _⟩ := h
    rfl
  · obtain ⟨h, R, a, n, rfl, rep, q⟩ := h
    obtain ⟨dh, hh⟩ := rep.house
    refine ⟨_, (pss_cons (ps_if (pw_or (pt_cmpR op_lt (pv 1) pe_int (nomark _)) (pw_or1 (pt_cmpR op_gt (pv 1) (pgi T.c_MOST_DAYS (by rfl)) (nomark _)))).pt (pss_one (ps_ret (pe_lst (pa_cons (pgi T.c_OUT_OF_RANGE (by rfl)) pa_nil)))) pss_nil) (pss_cons (ps_fldaug (pv 0) (pv 1) in_add) (pss_one (ps_ret (pe_lst (pa_cons (pe_fld (pv 0) rfl) pa_nil)))))), ?_⟩
    have ed : Su69.does a (.days n) = if n = 0 ∨ 1000 < n then (a, Su69.no (-22)) else ({ a with today := a.today + n }, Su69.num (a.today + n) []) := rfl
    refine ⟨_, rfl, _, _, rfl, rfl, _, rfl, ite2 (fun h0 => ?_) fun h0 => ⟨_, rfl, _, _, rfl, rfl, _, rfl, ?_⟩⟩
    · have h0 : (n : Int) < 1 := of_decide_eq_true h0
      refine iteT ⟨(by show 1 ≤ sizeLine; decide), fun l hl => q.ref1 rep (by rw [ed, if_pos (.inl (by omega))]) (Same.refl H) hl⟩
    have h0 : ¬ (n : Int) < 1 := fun z => h0 (decide_eq_true z)
    refine ite2 (fun h1 => ⟨(by show 1 ≤ sizeLine; decide), fun l hl => ?_⟩) fun h1 => ?_
    · have h1 : (1000 : Int) < (n : Int) := of_decide_eq_true h1
      exact q.ref1 rep (by rw [ed, if_pos (.inr (by omega))]) (Same.refl H) hl
    have h1 : ¬ (1000 : Int) < (n : Int) := fun z => h1 (decide_eq_true z)
    rw [if_neg (by omega)] at ed
    refine ⟨_, rfl, h, CW, dh, _, _, rfl, hh, T.clW, T.nW_day, rfl, _, rfl, _, _, rfl, rfl, dh, _, hh, (by show 4 < 1000; decide), ?_⟩
    have kp : ∀ b o, H b = some o → b ≠ h → (upd H h (.ins CW dh (putF "day" (.int (((a.today : Nat) : Int) + ((n : Nat) : Int))) (hfs a.today R.ls R.lt R.lr)))) b = some o := fun b o e hb => by rw [upd_ne hb]; exact e
    have hh2 : (upd H h (.ins CW dh (putF "day" (.int (((a.today : Nat) : Int) + ((n : Nat) : Int))) (hfs a.today R.ls R.lt R.lr)))) h = some (.ins CW dh (hfs (a.today + n) R.ls R.lt R.lr)) := by rw [upd_same]; rfl
    have rep2 := Rep.dy rep (good_days rep.good n) hh2 kp
    refine ⟨_, rfl, h, CW, dh, _, _, rfl, hh2, T.clW, T.nW_day, rfl, (by show 1 ≤ sizeLine; decide), fun l hl => ?_⟩
    exact q.dy1 (Same.refl H) (by rw [ed]; exact rep2) kp hl (by rw [ed]; rfl)
end
end Rt
end

section
set_option Elab.async false
set_option linter.all false
set_option maxRecDepth 100000
set_option maxHeartbeats 2000000
namespace Rt
open PySem PySem.Spec PyProof.Rows L2
open Su69 (Abs)

open Su69 (Call)
/-! ### the calls' numbers -/
def opc : Call → Nat
  | .begin_ => 0 | .rack _ => 1 | .put _ _ => 2 | .move _ _ => 3 | .send _ _ => 4 | .oldest _ _ _ => 5 | .days _ => 6 | .claim _ => 7 | .back _ => 8 | .recall _ _ => 9 | .lift _ _ => 10 | .common => 11 | .narrow => 12
  | .two => 13 | .rate _ _ => 14 | .worst _ => 15 | .who _ _ => 16 | .left => 17 | .blocked => 18 | .stock _ => 19 | .with_ _ _ => 20 | .sentTo _ => 21 | .next => 22 | .look _ => 23 | .sums => 24 | .state => 25
def aryOf : Call → Nat
  | .begin_ => 0 | .rack _ => 1 | .put _ _ => 1 | .move _ _ => 2 | .send _ _ => 2 | .oldest _ _ _ => 3 | .days _ => 1 | .claim _ => 1 | .back _ => 1 | .recall _ _ => 2 | .lift _ _ => 2 | .common => 0 | .narrow => 0
  | .two => 0 | .rate _ _ => 2 | .worst _ => 1 | .who _ _ => 2 | .left => 0 | .blocked => 0 | .stock _ => 1 | .with_ _ _ => 2 | .sentTo _ => 1 | .next => 0 | .look _ => 1 | .sums => 0 | .state => 0
/-- which def answers it -/
def grp : Call → Nat
  | .begin_ => 9 | .rack _ => 0 | .put _ _ => 0 | .move _ _ => 0 | .send _ _ => 1 | .oldest _ _ _ => 1 | .days _ => 0 | .claim _ => 1 | .back _ => 1 | .recall _ _ => 1 | .lift _ _ => 1 | .common => 2 | .narrow => 2
  | .two => 2 | .rate _ _ => 2 | .worst _ => 2 | .who _ _ => 4 | .left => 4 | .blocked => 4 | .stock _ => 4 | .with_ _ _ => 4 | .sentTo _ => 4 | .next => 4 | .look _ => 3 | .sums => 3 | .state => 3
theorem enc_head (c : Call) : (enc c)[0]? = some ((opc c : Nat) : Int) := by cases c <;> rfl
theorem ary_at (c : Call) : argsV[opc c]? = some (iv (aryOf c)) := by cases c <;> rfl
theorem enc_len {c : Call} (h : opc c ≠ 2) : (enc c).length = 1 + aryOf c := by
  cases c <;> first | rfl | exact absurd rfl h
theorem enc_put {c : Call} (h : opc c = 2) : ∃ r ns, c = .put r ns := by
  cases c <;> first | exact ⟨_, _, rfl⟩ | exact absurd h (by simp [opc])
theorem in0 (c : Call) : inV (V.int (opc c : Nat)) [V.int 1, V.int 2, V.int 3, V.int 6] = (grp c == 0) := by cases c <;> rfl
theorem in1 (c : Call) : inV (V.int (opc c : Nat)) [V.int 4, V.int 5, V.int 7, V.int 8, V.int 9, V.int 10] = (grp c == 1) := by cases c <;> rfl
theorem in2 (c : Call) : inV (V.int (opc c : Nat)) [V.int 11, V.int 12, V.int 13, V.int 14, V.int 15] = (grp c == 2) := by cases c <;> rfl
theorem in3 (c : Call) : inV (V.int (opc c : Nat)) [V.int 23, V.int 24, V.int 25] = (grp c == 3) := by cases c <;> rfl
theorem grp4 {c : Call} (h9 : c ≠ .begin_) (h0 : grp c ≠ 0) (h1 : grp c ≠ 1) (h2 : grp c ≠ 2) (h3 : grp c ≠ 3) : grp c = 4 := by
  cases c <;> first | rfl | exact absurd rfl h0 | exact absurd rfl h1 | exact absurd rfl h2 | exact absurd rfl h3 | exact absurd rfl h9
theorem ifY {i : Int} {A B : Prop} (h : A) : if decide (V.int i = V.int i) = true then A else B := by rw [if_pos (decide_eq_true rfl)]; exact h
theorem ifN {i j : Int} {A B : Prop} (hne : i ≠ j) (h : B) : if decide (V.int i = V.int j) = true then A else B := by
  rw [if_neg (fun z => hne (by have := of_decide_eq_true z; injection this))]; exact h
theorem cut3 (x y z : V) (r : List V) : cutV (x :: y :: z :: r) (some 3) none = r := by
  unfold cutV
  rw [show (3 : Int) = ((3 : Nat) : Int) from rfl, HT.sIx_nat, HT.sIx_none]
  have e : min 3 (x :: y :: z :: r).length = 3 := by simp
  rw [e]
  show List.take ((x :: y :: z :: r).length - 3) r = r
  exact List.take_of_length_le (by simp)
theorem cut_mid (xs : List V) (i j : Nat) (h1 : i ≤ j) (h2 : j ≤ xs.length) : cutV xs (some (i : Int)) (some (j : Int)) = (xs.drop i).take (j - i) := by
  unfold cutV
  rw [HT.sIx_nat, HT.sIx_nat, Nat.min_eq_left (Nat.le_trans h1 h2), Nat.min_eq_left h2]
/-- the list of numbers that was handed in -/
def Args (K : PySem.W.Frag) (H : Hp) (l : Addr) (zs : List Int) : Prop :=
  (∃ o, H l = some (.frz o (.lst (zs.map V.int)))) ∨ ∃ (o : Obj) (its : Array Value) (n : Nat), K.lookup l = some o ∧ o.cls = .type "list" ∧ o.dict = none ∧ o.data = .seq its n ∧ its.size ≤ sizeLine ∧ Vals (zs.map V.int) its.toList
theorem Args.sq {K : PySem.W.Frag} {H : Hp} {l : Addr} {zs : List Int} (a : Args K H l zs) : SqL K H l (zs.map V.int) := by
  rcases a with ⟨o, e⟩ | e
  · exact .inl (.inr ⟨o, e⟩)
  · exact .inr e
theorem Args.same {K : PySem.W.Frag} {H H' : Hp} {l : Addr} {zs : List Int} (a : Args K H l zs) (s : Same H H') : Args K H' l zs := by
  rcases a with ⟨o, e⟩ | e
  · exact .inl ⟨o, s _ _ e⟩
  · exact .inr e
theorem Args.keep {K : PySem.W.Frag} {CT CW : Addr} {H H' : Hp} {l h : Addr} {zs : List Int} {R : RD} {x : Abs} (a : Args K H l zs) (r : Rep CT CW H h R x) (k : Keep H h R x H') : Args K H' l zs := by
  rcases a with ⟨o, e⟩ | e
  · refine .inl ⟨o, k _ _ e ?_ (ne_of e r.sizes (by intro z; cases z)) (ne_of e r.tyres (by intro z; cases z)) ?_ fun i hi => ?_⟩
    · obtain ⟨dx, q⟩ := r.house
      exact ne_of e q (by intro z; cases z)
    · obtain ⟨ps, q, _⟩ := r.recd
      exact ne_of e q (by intro z; cases z)
    · obtain ⟨dx, q⟩ := r.tyre i hi
      exact ne_of e q (by intro z; cases z)
  · exact .inr e
section
variable (K : PySem.W.Frag) (CT CW : Addr)
def spEnd : Sp := fun vs H Q _ => ∃ (l : Addr) (zs : List Int) (p : Nat) (c : Call) (rest : List Int), vs = [.ref l, iv p] ∧ SqL K H l (zs.map V.int) ∧ zs.drop p = enc c ++ rest ∧ Ret H Q (iv (p + (enc c).length))
/-- a call is answered by the def of its group -/
def spGrp (k : Nat) : Sp := fun vs H Q _ => ∃ (h : Addr) (R : RD) (a : Abs) (l : Addr) (c : Call), vs = [.ref h, .ref l] ∧ Rep CT CW H h R a ∧ H l = some (.lst ((enc c).map V.int)) ∧ l ≠ R.ls ∧ l ≠ R.lt ∧ l ≠ R.lr ∧ grp c = k ∧ Fin CT CW H h R a (Su69.does a c) Q
def spCallA : Sp := fun vs H Q _ => ∃ (h : Addr) (R : RD) (a : Abs) (l : Addr) (c : Call), vs = [.ref h, .ref l] ∧ Rep CT CW H h R a ∧ H l = some (.lst ((enc c).map V.int)) ∧ l ≠ R.ls ∧ l ≠ R.lt ∧ l ≠ R.lr ∧ c ≠ .begin_ ∧ Fin CT CW H h R a (Su69.does a c) Q
end
section
variable {P : Program} {w : World} {K : PySem.W.Frag} {mg : Str → Option Value} {base : Heap} {CT CW fT fW : Addr}
theorem sc_call_end : FnScope ["calls", "start", "number", "end"] ["calls", "start"] (defScope s_call_end) := ⟨rfl, rfl, rfl, by decide +kernel, rfl, by decide +kernel, by decide +kernel⟩
theorem ok_call_end (T : Txt K mg CT CW fT fW) : Has P w K mg base 1 "call_end" ["calls", "start"] (spEnd K) := T.d_call_end.has fun f fd F => by
  refine F.ok sc_call_end (fun vs H Q E h => ?_) (fun cdv A outer s H vs Q E hr h => ?_)
  · obtain ⟨l, zs, p, c, rest, rfl, _⟩ := h
    rfl
  · obtain ⟨l, zs, p, c, rest, rfl, hl, hz, q⟩ := h
    obtain ⟨aA, eA, hA⟩ := T.c_ARGUMENTS
    refine ⟨_, (pss_cons (ps_set (i := 2) sc_call_end.nd rfl (Or.inl rfl) (pe_ix ix_list (pv 0) (pv 1) (fun _ _ => rfl))) (pss_cons (ps_set (i := 3) sc_call_end.nd rfl (Or.inl rfl) (pe_op op_add (pe_op op_add (pv 1) pe_int) (pe_ix ix_tup (pe_glob (v := .ref aA) (by rfl) eA rfl) (pv 2) (fun _ _ => rfl)))) (pss_cons (ps_if (pt_cmpR op_eq (pv 2) (pgi T.c_PUT (by rfl)) (nomark _)) (pss_one (ps_aug (i := 3) sc_call_end.nd rfl (Or.inl rfl) (pe_op op_add pe_int (pe_ix ix_list (pv 0) (pv 3) (fun _ _ => rfl))) ip_add)) pss_nil) (pss_one (ps_ret (pv 3)))))), ?_⟩
    have zat : ∀ (i : Nat) (z : Int), (enc c)[i]? = some z → zs[p + i]? = some z := fun i z e => by
      have := congrArg (·[i]?) hz
      simp only [List.getElem?_drop] at this
      rw [this, List.getElem?_append_left (List.getElem?_eq_some_iff.mp e).1, e]
    refine ⟨_, rfl, _, rfl, l, _, _, .int (opc c : Nat), rfl, rfl, hl, atI_nat (by rw [List.getElem?_map, show zs[p]? = some _ from zat 0 _ (enc_head c)]; rfl), ?_⟩
    refine ⟨_, rfl, _, _, rfl, rfl, _, rfl, aA, _, _, iv (aryOf c), rfl, rfl, hA H, atI_nat (ary_at c), _, _, rfl, rfl, ?_⟩
    refine ⟨_, rfl, rfl, _, rfl, ?_⟩
    by_cases h2 : opc c = 2
    · obtain ⟨r, ns, rfl⟩ := enc_put h2
      refine ifY ⟨_, rfl, _, rfl, _, rfl, l, _, _, iv ns.length, rfl, rfl, hl, ?_, _, _, rfl, rfl, _, _, rfl, rfl, _, rfl, ?_⟩
      · have e : ((p : Int) + 1 + ((aryOf (.put r ns) : Nat) : Int)) = ((p + 2 : Nat) : Int) := by
          show (p : Int) + 1 + 1 = _
          omega
        try dsimp only
        rw [e]
        exact atI_nat (by rw [List.getElem?_map, zat 2 (ns.length : Nat) rfl]; rfl)
      · have e : V.int ((p : Int) + 1 + ((aryOf (.put r ns) : Nat) : Int) + (1 + ((ns.length : Nat) : Int))) = iv (p + (enc (.put r ns)).length) := by
          show V.int _ = V.int _
          congr 1
          show (p : Int) + 1 + 1 + (1 + ((ns.length : Nat) : Int)) = ((p + (2 :: (r : Int) :: (ns.length : Int) :: ns.map fun (x : Nat) => (x : Int)).length : Nat) : Int)
          rw [List.length_cons, List.length_cons, List.length_cons, List.length_map]
          omega
        try dsimp only
        rw [e]
        exact q H (Same.refl H)
    · refine ifN (fun z => h2 (by omega)) ⟨_, rfl, ?_⟩
      have e : V.int ((p : Int) + 1 + ((aryOf c : Nat) : Int)) = iv (p + (enc c).length) := by
        rw [enc_len h2]
        show V.int _ = V.int _
        congr 1
        omega
      try dsimp only
      rw [e]
      exact q H (Same.refl H)
theorem sc_answer_stocking : FnScope ["house", "call"] ["house", "call"] (defScope s_answer_stocking) := ⟨rfl, rfl, rfl, by decide +kernel, rfl, by decide +kernel, by decide +kernel⟩
theorem ok_answer_stocking (T : Txt K mg CT CW fT fW) : Has P w K mg base 4 "answer_stocking" ["house", "call"] (spGrp CT CW 0) := T.d_answer_stocking.has fun f fd F => by
  refine F.ok sc_answer_stocking (fun vs H Q E h => ?_) (fun cdv A outer s H vs Q E hr h => ?_)
  · obtain ⟨h, R, a, l, c, rfl, _⟩ := h
    rfl
  · obtain ⟨h, R, a, l, c, rfl, rep, hl, n1, n2, n3, hg, q⟩ := h
    refine ⟨_, (pss_cons (ps_if (pt_cmpR op_eq (pe_ix ix_list (pv 1) pe_int (fun _ _ => rfl)) (pgi T.c_RACK (by rfl)) (nomark _)) (pss_one (ps_ret (pe_callH (ok_add_rack T) (hr.mono (by decide)) (by rfl) (pa_cons (pv 0) (pa_cons (pe_ix ix_list (pv 1) pe_int (fun _ _ => rfl)) pa_nil))))) pss_nil) (pss_cons (ps_if (pt_cmpR op_eq (pe_ix ix_list (pv 1) pe_int (fun _ _ => rfl)) (pgi T.c_PUT (by rfl)) (nomark _)) (pss_one (ps_ret (pe_callH (ok_put_tyre T) (hr.mono (by decide)) (by rfl) (pa_cons (pv 0) (pa_cons (pe_ix ix_list (pv 1) pe_int (fun _ _ => rfl)) (pa_cons (pe_slice sl_list (pv 1) (po_some pe_int) po_none) pa_nil)))))) pss_nil) (pss_cons (ps_if (pt_cmpR op_eq (pe_ix ix_list (pv 1) pe_int (fun _ _ => rfl)) (pgi T.c_MOVE (by rfl)) (nomark _)) (pss_one (ps_ret (pe_callH (ok_move_tyre T) (hr.mono (by decide)) (by rfl) (pa_cons (pv 0) (pa_cons (pe_ix ix_list (pv 1) pe_int (fun _ _ => rfl)) (pa_cons (pe_ix ix_list (pv 1) pe_int (fun _ _ => rfl)) pa_nil)))))) pss_nil) (pss_one (ps_ret (pe_callH (ok_pass_days T) (hr.mono (by decide)) (by rfl) (pa_cons (pv 0) (pa_cons (pe_ix ix_list (pv 1) pe_int (fun _ _ => rfl)) pa_nil)))))))), ?_⟩
    cases c with
    | rack n =>
      refine ⟨_, rfl, l, _, _, _, rfl, rfl, SqL.of hl, rfl, rfl, _, rfl, ifY ?_⟩
      exact ⟨_, rfl, _, rfl, l, _, _, _, rfl, rfl, SqL.of hl, rfl, h, R, a, n, rfl, rep, q⟩
    | put r ns =>
      refine ⟨_, rfl, l, _, _, _, rfl, rfl, SqL.of hl, at_of (j := 0) rfl rfl, rfl, _, rfl, ifN (by decide) ?_⟩
      refine ⟨_, rfl, l, _, _, _, rfl, rfl, SqL.of hl, at_of (j := 0) rfl rfl, rfl, _, rfl, ifY ?_⟩
      refine ⟨_, rfl, _, rfl, l, _, _, _, rfl, rfl, SqL.of hl, at_of (j := 1) rfl rfl, _, rfl, _, rfl, l, _, rfl, SqL.of hl, fun p hp => ?_⟩
      have e : cutV (List.map V.int (enc (.put r ns))) (some 3) none = ns.map iv := by
        show cutV (V.int 2 :: V.int (r : Int) :: V.int (ns.length : Int) :: (ns.map fun (x : Nat) => (x : Int)).map V.int) (some 3) none = _
        rw [cut3, List.map_map]; rfl
      rw [e]
      have s1 := Same.new (o := HO.lst (ns.map iv)) hp
      have rep1 := rep.same s1
      obtain ⟨ps, hps, _⟩ := rep.recd
      refine ⟨h, R, a, r, p, ns, rfl, rep1, upd_same, (ne_of_none rep.sizes hp).symm, (ne_of_none rep.tyres hp).symm, (ne_of_none hps hp).symm, ?_⟩
      exact fun H' R' p' e1 e2 e3 rp kp np hp' => q H' R' p' e1 e2 ⟨e3.1, fun i => (e3.2 i).imp id s1.free⟩ rp (fun b o e h1 h2 h3 h4 h5 => kp b o (s1 _ _ e) h1 h2 h3 h4 h5) (s1.free np) hp'
    | move t r =>
      refine ⟨_, rfl, l, _, _, _, rfl, rfl, SqL.of hl, rfl, rfl, _, rfl, ifN (by decide) ?_⟩
      refine ⟨_, rfl, l, _, _, _, rfl, rfl, SqL.of hl, rfl, rfl, _, rfl, ifN (by decide) ?_⟩
      refine ⟨_, rfl, l, _, _, _, rfl, rfl, SqL.of hl, rfl, rfl, _, rfl, ifY ?_⟩
      exact ⟨_, rfl, _, rfl, l, _, _, _, rfl, rfl, SqL.of hl, rfl, _, rfl, l, _, _, _, rfl, rfl, SqL.of hl, rfl, h, R, a, t, r, rfl, rep, q⟩
    | days n =>
      refine ⟨_, rfl, l, _, _, _, rfl, rfl, SqL.of hl, rfl, rfl, _, rfl, ifN (by decide) ?_⟩
      refine ⟨_, rfl, l, _, _, _, rfl, rfl, SqL.of hl, rfl, rfl, _, rfl, ifN (by decide) ?_⟩
      refine ⟨_, rfl, l, _, _, _, rfl, rfl, SqL.of hl, rfl, rfl, _, rfl, ifN (by decide) ?_⟩
      exact ⟨_, rfl, _, rfl, l, _, _, _, rfl, rfl, SqL.of hl, rfl, h, R, a, n, rfl, rep, q⟩
    | _ => exact absurd hg (by simp [grp])
theorem sc_answer_sending : FnScope ["house", "call"] ["house", "call"] (defScope s_answer_sending) := ⟨rfl, rfl, rfl, by decide +kernel, rfl, by decide +kernel, by decide +kernel⟩
theorem ok_answer_sending (T : Txt K mg CT CW fT fW) : Has P w K mg base 6 "answer_sending" ["house", "call"] (spGrp CT CW 1) := T.d_answer_sending.has fun f fd F => by
  refine F.ok sc_answer_sending (fun vs H Q E h => ?_) (fun cdv A outer s H vs Q E hr h => ?_)
  · obtain ⟨h, R, a, l, c, rfl, _⟩ := h
    rfl
  · obtain ⟨h, R, a, l, c, rfl, rep, hl, n1, n2, n3, hg, q⟩ := h
    refine ⟨_, (pss_cons (ps_if (pt_cmpR op_eq (pe_ix ix_list (pv 1) pe_int (fun _ _ => rfl)) (pgi T.c_SEND (by rfl)) (nomark _)) (pss_one (ps_ret (pe_callH (ok_send_tyre T) (hr.mono (by decide)) (by rfl) (pa_cons (pv 0) (pa_cons (pe_ix ix_list (pv 1) pe_int (fun _ _ => rfl)) (pa_cons (pe_ix ix_list (pv 1) pe_int (fun _ _ => rfl)) pa_nil)))))) pss_nil) (pss_cons (ps_if (pt_cmpR op_eq (pe_ix ix_list (pv 1) pe_int (fun _ _ => rfl)) (pgi T.c_OLDEST (by rfl)) (nomark _)) (pss_one (ps_ret (pe_callH (ok_send_oldest T) (hr.mono (by decide)) (by rfl) (pa_cons (pv 0) (pa_cons (pe_ix ix_list (pv 1) pe_int (fun _ _ => rfl)) (pa_cons (pe_ix ix_list (pv 1) pe_int (fun _ _ => rfl)) (pa_cons (pe_ix ix_list (pv 1) pe_int (fun _ _ => rfl)) pa_nil))))))) pss_nil) (pss_cons (ps_if (pt_cmpR op_eq (pe_ix ix_list (pv 1) pe_int (fun _ _ => rfl)) (pgi T.c_CLAIM (by rfl)) (nomark _)) (pss_one (ps_ret (pe_callH (ok_claim_tyre T) (hr.mono (by decide)) (by rfl) (pa_cons (pv 0) (pa_cons (pe_ix ix_list (pv 1) pe_int (fun _ _ => rfl)) pa_nil))))) pss_nil) (pss_cons (ps_if (pt_cmpR op_eq (pe_ix ix_list (pv 1) pe_int (fun _ _ => rfl)) (pgi T.c_BACK (by rfl)) (nomark _)) (pss_one (ps_ret (pe_callH (ok_take_back T) (hr.mono (by decide)) (by rfl) (pa_cons (pv 0) (pa_cons (pe_ix ix_list (pv 1) pe_int (fun _ _ => rfl)) pa_nil))))) pss_nil) (pss_cons (ps_if (pt_cmpR op_eq (pe_ix ix_list (pv 1) pe_int (fun _ _ => rfl)) (pgi T.c_RECALL (by rfl)) (nomark _)) (pss_one (ps_ret (pe_callH (ok_recall_mark T) (hr.mono (by decide)) (by rfl) (pa_cons (pv 0) (pa_cons (pe_ix ix_list (pv 1) pe_int (fun _ _ => rfl)) (pa_cons (pe_ix ix_list (pv 1) pe_int (fun _ _ => rfl)) pa_nil)))))) pss_nil) (pss_one (ps_ret (pe_callH (ok_lift_mark T) (hr.mono (by decide)) (by rfl) (pa_cons (pv 0) (pa_cons (pe_ix ix_list (pv 1) pe_int (fun _ _ => rfl)) (pa_cons (pe_ix ix_list (pv 1) pe_int (fun _ _ => rfl)) pa_nil))))))))))), ?_⟩
    cases c with
    | send t c =>
      refine ⟨_, rfl, l, _, _, _, rfl, rfl, SqL.of hl, rfl, rfl, _, rfl, ifY ?_⟩
      exact ⟨_, rfl, _, rfl, l, _, _, _, rfl, rfl, SqL.of hl, rfl, _, rfl, l, _, _, _, rfl, rfl, SqL.of hl, rfl, h, R, a, t, c, rfl, rep, q⟩
    | oldest k v c =>
      refine ⟨_, rfl, l, _, _, _, rfl, rfl, SqL.of hl, rfl, rfl, _, rfl, ifN (by decide) ?_⟩
      refine ⟨_, rfl, l, _, _, _, rfl, rfl, SqL.of hl, rfl, rfl, _, rfl, ifY ?_⟩
      exact ⟨_, rfl, _, rfl, l, _, _, _, rfl, rfl, SqL.of hl, rfl, _, rfl, l, _, _, _, rfl, rfl, SqL.of hl, rfl, _, rfl, l, _, _, _, rfl, rfl, SqL.of hl, rfl, h, R, a, k, v, c, rfl, rep, q⟩
    | claim t =>
      refine ⟨_, rfl, l, _, _, _, rfl, rfl, SqL.of hl, rfl, rfl, _, rfl, ifN (by decide) ?_⟩
      refine ⟨_, rfl, l, _, _, _, rfl, rfl, SqL.of hl, rfl, rfl, _, rfl, ifN (by decide) ?_⟩
      refine ⟨_, rfl, l, _, _, _, rfl, rfl, SqL.of hl, rfl, rfl, _, rfl, ifY ?_⟩
      exact ⟨_, rfl, _, rfl, l, _, _, _, rfl, rfl, SqL.of hl, rfl, h, R, a, t, rfl, rep, q⟩
    | back t =>
      refine ⟨_, rfl, l, _, _, _, rfl, rfl, SqL.of hl, rfl, rfl, _, rfl, ifN (by decide) ?_⟩
      refine ⟨_, rfl, l, _, _, _, rfl, rfl, SqL.of hl, rfl, rfl, _, rfl, ifN (by decide) ?_⟩
      refine ⟨_, rfl, l, _, _, _, rfl, rfl, SqL.of hl, rfl, rfl, _, rfl, ifN (by decide) ?_⟩
      refine ⟨_, rfl, l, _, _, _, rfl, rfl, SqL.of hl, rfl, rfl, _, rfl, ifY ?_⟩
      exact ⟨_, rfl, _, rfl, l, _, _, _, rfl, rfl, SqL.of hl, rfl, h, R, a, t, rfl, rep, q⟩
    | recall k v =>
      refine ⟨_, rfl, l, _, _, _, rfl, rfl, SqL.of hl, rfl, rfl, _, rfl, ifN (by decide) ?_⟩
      refine ⟨_, rfl, l, _, _, _, rfl, rfl, SqL.of hl, rfl, rfl, _, rfl, ifN (by decide) ?_⟩
      refine ⟨_, rfl, l, _, _, _, rfl, rfl, SqL.of hl, rfl, rfl, _, rfl, ifN (by decide) ?_⟩
      refine ⟨_, rfl, l, _, _, _, rfl, rfl, SqL.of hl, rfl, rfl, _, rfl, ifN (by decide) ?_⟩
      refine ⟨_, rfl, l, _, _, _, rfl, rfl, SqL.of hl, rfl, rfl, _, rfl, ifY ?_⟩
      exact ⟨_, rfl, _, rfl, l, _, _, _, rfl, rfl, SqL.of hl, rfl, _, rfl, l, _, _, _, rfl, rfl, SqL.of hl, rfl, h, R, a, k, v, rfl, rep, q⟩
    | lift k v =>
      refine ⟨_, rfl, l, _, _, _, rfl, rfl, SqL.of hl, rfl, rfl, _, rfl, ifN (by decide) ?_⟩
      refine ⟨_, rfl, l, _, _, _, rfl, rfl, SqL.of hl, rfl, rfl, _, rfl, ifN (by decide) ?_⟩
      refine ⟨_, rfl, l, _, _, _, rfl, rfl, SqL.of hl, rfl, rfl, _, rfl, ifN (by decide) ?_⟩
      refine ⟨_, rfl, l, _, _, _, rfl, rfl, SqL.of hl, rfl, rfl, _, rfl, ifN (by decide) ?_⟩
      refine ⟨_, rfl, l, _, _, _, rfl, rfl, SqL.of hl, rfl, rfl, _, rfl, ifN (by decide) ?_⟩
      exact ⟨_, rfl, _, rfl, l, _, _, _, rfl, rfl, SqL.of hl, rfl, _, rfl, l, _, _, _, rfl, rfl, SqL.of hl, rfl, h, R, a, k, v, rfl, rep, q⟩
    | _ => exact absurd hg (by simp [grp])
theorem sc_answer_causes : FnScope ["house", "call"] ["house", "call"] (defScope s_answer_causes) := ⟨rfl, rfl, rfl, by decide +kernel, rfl, by decide +kernel, by decide +kernel⟩
theorem ok_answer_causes (T : Txt K mg CT CW fT fW) : Has P w K mg base 7 "answer_causes" ["house", "call"] (spGrp CT CW 2) := T.d_answer_causes.has fun f fd F => by
  refine F.ok sc_answer_causes (fun vs H Q E h => ?_) (fun cdv A outer s H vs Q E hr h => ?_)
  · obtain ⟨h, R, a, l, c, rfl, _⟩ := h
    rfl
  · obtain ⟨h, R, a, l, c, rfl, rep, hl, n1, n2, n3, hg, q⟩ := h
    refine ⟨_, (pss_cons (ps_if (pt_cmpR op_eq (pe_ix ix_list (pv 1) pe_int (fun _ _ => rfl)) (pgi T.c_COMMON (by rfl)) (nomark _)) (pss_one (ps_ret (pe_callH (ok_common_marks T) (hr.mono (by decide)) (by rfl) (pa_cons (pv 0) pa_nil)))) pss_nil) (pss_cons (ps_if (pt_cmpR op_eq (pe_ix ix_list (pv 1) pe_int (fun _ _ => rfl)) (pgi T.c_NARROW (by rfl)) (nomark _)) (pss_one (ps_ret (pe_callH (ok_narrowest_mark T) (hr.mono (by decide)) (by rfl) (pa_cons (pv 0) pa_nil)))) pss_nil) (pss_cons (ps_if (pt_cmpR op_eq (pe_ix ix_list (pv 1) pe_int (fun _ _ => rfl)) (pgi T.c_TWO (by rfl)) (nomark _)) (pss_one (ps_ret (pe_callH (ok_explaining_marks T) (hr.mono (by decide)) (by rfl) (pa_cons (pv 0) pa_nil)))) pss_nil) (pss_cons (ps_if (pt_cmpR op_eq (pe_ix ix_list (pv 1) pe_int (fun _ _ => rfl)) (pgi T.c_RATE (by rfl)) (nomark _)) (pss_one (ps_ret (pe_callH (ok_rate_of_mark T) (hr.mono (by decide)) (by rfl) (pa_cons (pv 0) (pa_cons (pe_ix ix_list (pv 1) pe_int (fun _ _ => rfl)) (pa_cons (pe_ix ix_list (pv 1) pe_int (fun _ _ => rfl)) pa_nil)))))) pss_nil) (pss_one (ps_ret (pe_callH (ok_worst_mark T) (hr.mono (by decide)) (by rfl) (pa_cons (pv 0) (pa_cons (pe_ix ix_list (pv 1) pe_int (fun _ _ => rfl)) pa_nil))))))))), ?_⟩
    cases c with
    | common =>
      refine ⟨_, rfl, l, _, _, _, rfl, rfl, SqL.of hl, rfl, rfl, _, rfl, ifY ?_⟩
      exact ⟨_, rfl, h, R, a, rfl, rep, q⟩
    | narrow =>
      refine ⟨_, rfl, l, _, _, _, rfl, rfl, SqL.of hl, rfl, rfl, _, rfl, ifN (by decide) ?_⟩
      refine ⟨_, rfl, l, _, _, _, rfl, rfl, SqL.of hl, rfl, rfl, _, rfl, ifY ?_⟩
      exact ⟨_, rfl, h, R, a, rfl, rep, q⟩
    | two =>
      refine ⟨_, rfl, l, _, _, _, rfl, rfl, SqL.of hl, rfl, rfl, _, rfl, ifN (by decide) ?_⟩
      refine ⟨_, rfl, l, _, _, _, rfl, rfl, SqL.of hl, rfl, rfl, _, rfl, ifN (by decide) ?_⟩
      refine ⟨_, rfl, l, _, _, _, rfl, rfl, SqL.of hl, rfl, rfl, _, rfl, ifY ?_⟩
      exact ⟨_, rfl, h, R, a, rfl, rep, q⟩
    | rate k v =>
      refine ⟨_, rfl, l, _, _, _, rfl, rfl, SqL.of hl, rfl, rfl, _, rfl, ifN (by decide) ?_⟩
      refine ⟨_, rfl, l, _, _, _, rfl, rfl, SqL.of hl, rfl, rfl, _, rfl, ifN (by decide) ?_⟩
      refine ⟨_, rfl, l, _, _, _, rfl, rfl, SqL.of hl, rfl, rfl, _, rfl, ifN (by decide) ?_⟩
      refine ⟨_, rfl, l, _, _, _, rfl, rfl, SqL.of hl, rfl, rfl, _, rfl, ifY ?_⟩
      exact ⟨_, rfl, _, rfl, l, _, _, _, rfl, rfl, SqL.of hl, rfl, _, rfl, l, _, _, _, rfl, rfl, SqL.of hl, rfl, h, R, a, k, v, rfl, rep, q⟩
    | worst n =>
      refine ⟨_, rfl, l, _, _, _, rfl, rfl, SqL.of hl, rfl, rfl, _, rfl, ifN (by decide) ?_⟩
      refine ⟨_, rfl, l, _, _, _, rfl, rfl, SqL.of hl, rfl, rfl, _, rfl, ifN (by decide) ?_⟩
      refine ⟨_, rfl, l, _, _, _, rfl, rfl, SqL.of hl, rfl, rfl, _, rfl, ifN (by decide) ?_⟩
      refine ⟨_, rfl, l, _, _, _, rfl, rfl, SqL.of hl, rfl, rfl, _, rfl, ifN (by decide) ?_⟩
      exact ⟨_, rfl, _, rfl, l, _, _, _, rfl, rfl, SqL.of hl, rfl, h, R, a, n, rfl, rep, q⟩
    | _ => exact absurd hg (by simp [grp])
theorem sc_answer_listing : FnScope ["house", "call"] ["house", "call"] (defScope s_answer_listing) := ⟨rfl, rfl, rfl, by decide +kernel, rfl, by decide +kernel, by decide +kernel⟩
theorem ok_answer_listing (T : Txt K mg CT CW fT fW) : Has P w K mg base 6 "answer_listing" ["house", "call"] (spGrp CT CW 4) := T.d_answer_listing.has fun f fd F => by
  refine F.ok sc_answer_listing (fun vs H Q E h => ?_) (fun cdv A outer s H vs Q E hr h => ?_)
  · obtain ⟨h, R, a, l, c, rfl, _⟩ := h
    rfl
  · obtain ⟨h, R, a, l, c, rfl, rep, hl, n1, n2, n3, hg, q⟩ := h
    refine ⟨_, (pss_cons (ps_if (pt_cmpR op_eq (pe_ix ix_list (pv 1) pe_int (fun _ _ => rfl)) (pgi T.c_WHO (by rfl)) (nomark _)) (pss_one (ps_ret (pe_callH (ok_list_customers T) (hr.mono (by decide)) (by rfl) (pa_cons (pv 0) (pa_cons (pe_ix ix_list (pv 1) pe_int (fun _ _ => rfl)) (pa_cons (pe_ix ix_list (pv 1) pe_int (fun _ _ => rfl)) pa_nil)))))) pss_nil) (pss_cons (ps_if (pt_cmpR op_eq (pe_ix ix_list (pv 1) pe_int (fun _ _ => rfl)) (pgi T.c_LEFT (by rfl)) (nomark _)) (pss_one (ps_ret (pe_callH (ok_list_recalled T) (hr.mono (by decide)) (by rfl) (pa_cons (pv 0) (pa_cons (pgi T.c_SENT (by rfl)) pa_nil))))) pss_nil) (pss_cons (ps_if (pt_cmpR op_eq (pe_ix ix_list (pv 1) pe_int (fun _ _ => rfl)) (pgi T.c_BLOCKED (by rfl)) (nomark _)) (pss_one (ps_ret (pe_callH (ok_list_recalled T) (hr.mono (by decide)) (by rfl) (pa_cons (pv 0) (pa_cons (pgi T.c_IN_RACK (by rfl)) pa_nil))))) pss_nil) (pss_cons (ps_if (pt_cmpR op_eq (pe_ix ix_list (pv 1) pe_int (fun _ _ => rfl)) (pgi T.c_STOCK (by rfl)) (nomark _)) (pss_one (ps_ret (pe_callH (ok_list_rack T) (hr.mono (by decide)) (by rfl) (pa_cons (pv 0) (pa_cons (pe_ix ix_list (pv 1) pe_int (fun _ _ => rfl)) pa_nil))))) pss_nil) (pss_cons (ps_if (pt_cmpR op_eq (pe_ix ix_list (pv 1) pe_int (fun _ _ => rfl)) (pgi T.c_WITH (by rfl)) (nomark _)) (pss_one (ps_ret (pe_callH (ok_list_with T) (hr.mono (by decide)) (by rfl) (pa_cons (pv 0) (pa_cons (pe_ix ix_list (pv 1) pe_int (fun _ _ => rfl)) (pa_cons (pe_ix ix_list (pv 1) pe_int (fun _ _ => rfl)) pa_nil)))))) pss_nil) (pss_cons (ps_if (pt_cmpR op_eq (pe_ix ix_list (pv 1) pe_int (fun _ _ => rfl)) (pgi T.c_SENT_TO (by rfl)) (nomark _)) (pss_one (ps_ret (pe_callH (ok_list_sent_to T) (hr.mono (by decide)) (by rfl) (pa_cons (pv 0) (pa_cons (pe_ix ix_list (pv 1) pe_int (fun _ _ => rfl)) pa_nil))))) pss_nil) (pss_one (ps_ret (pe_callH (ok_tell_next T) (hr.mono (by decide)) (by rfl) (pa_cons (pv 0) pa_nil)))))))))), ?_⟩
    cases c with
    | who k v =>
      refine ⟨_, rfl, l, _, _, _, rfl, rfl, SqL.of hl, rfl, rfl, _, rfl, ifY ?_⟩
      exact ⟨_, rfl, _, rfl, l, _, _, _, rfl, rfl, SqL.of hl, rfl, _, rfl, l, _, _, _, rfl, rfl, SqL.of hl, rfl, h, R, a, k, v, rfl, rep, q⟩
    | left =>
      refine ⟨_, rfl, l, _, _, _, rfl, rfl, SqL.of hl, rfl, rfl, _, rfl, ifN (by decide) ?_⟩
      refine ⟨_, rfl, l, _, _, _, rfl, rfl, SqL.of hl, rfl, rfl, _, rfl, ifY ?_⟩
      exact ⟨_, rfl, h, R, a, 1, rfl, rep, Fin.lst q rep rfl⟩
    | blocked =>
      refine ⟨_, rfl, l, _, _, _, rfl, rfl, SqL.of hl, rfl, rfl, _, rfl, ifN (by decide) ?_⟩
      refine ⟨_, rfl, l, _, _, _, rfl, rfl, SqL.of hl, rfl, rfl, _, rfl, ifN (by decide) ?_⟩
      refine ⟨_, rfl, l, _, _, _, rfl, rfl, SqL.of hl, rfl, rfl, _, rfl, ifY ?_⟩
      refine ⟨_, rfl, h, R, a, 0, rfl, rep, ?_⟩
      have e : (a.all.filter fun t => (a.tyre t).how == 0 && a.bad t) = a.stock.filter a.bad := by
        unfold Su69.Abs.stock
        rw [List.filter_filter]
        congr 1
        funext t
        exact Bool.and_comm ..
      rw [e]
      exact Fin.lst q rep rfl
    | stock r =>
      refine ⟨_, rfl, l, _, _, _, rfl, rfl, SqL.of hl, rfl, rfl, _, rfl, ifN (by decide) ?_⟩
      refine ⟨_, rfl, l, _, _, _, rfl, rfl, SqL.of hl, rfl, rfl, _, rfl, ifN (by decide) ?_⟩
      refine ⟨_, rfl, l, _, _, _, rfl, rfl, SqL.of hl, rfl, rfl, _, rfl, ifN (by decide) ?_⟩
      refine ⟨_, rfl, l, _, _, _, rfl, rfl, SqL.of hl, rfl, rfl, _, rfl, ifY ?_⟩
      exact ⟨_, rfl, _, rfl, l, _, _, _, rfl, rfl, SqL.of hl, rfl, h, R, a, r, rfl, rep, q⟩
    | with_ k v =>
      refine ⟨_, rfl, l, _, _, _, rfl, rfl, SqL.of hl, rfl, rfl, _, rfl, ifN (by decide) ?_⟩
      refine ⟨_, rfl, l, _, _, _, rfl, rfl, SqL.of hl, rfl, rfl, _, rfl, ifN (by decide) ?_⟩
      refine ⟨_, rfl, l, _, _, _, rfl, rfl, SqL.of hl, rfl, rfl, _, rfl, ifN (by decide) ?_⟩
      refine ⟨_, rfl, l, _, _, _, rfl, rfl, SqL.of hl, rfl, rfl, _, rfl, ifN (by decide) ?_⟩
      refine ⟨_, rfl, l, _, _, _, rfl, rfl, SqL.of hl, rfl, rfl, _, rfl, ifY ?_⟩
      exact ⟨_, rfl, _, rfl, l, _, _, _, rfl, rfl, SqL.of hl, rfl, _, rfl, l, _, _, _, rfl, rfl, SqL.of hl, rfl, h, R, a, k, v, rfl, rep, q⟩
    | sentTo c =>
      refine ⟨_, rfl, l, _, _, _, rfl, rfl, SqL.of hl, rfl, rfl, _, rfl, ifN (by decide) ?_⟩
      refine ⟨_, rfl, l, _, _, _, rfl, rfl, SqL.of hl, rfl, rfl, _, rfl, ifN (by decide) ?_⟩
      refine ⟨_, rfl, l, _, _, _, rfl, rfl, SqL.of hl, rfl, rfl, _, rfl, ifN (by decide) ?_⟩
      refine ⟨_, rfl, l, _, _, _, rfl, rfl, SqL.of hl, rfl, rfl, _, rfl, ifN (by decide) ?_⟩
      refine ⟨_, rfl, l, _, _, _, rfl, rfl, SqL.of hl, rfl, rfl, _, rfl, ifN (by decide) ?_⟩
      refine ⟨_, rfl, l, _, _, _, rfl, rfl, SqL.of hl, rfl, rfl, _, rfl, ifY ?_⟩
      exact ⟨_, rfl, _, rfl, l, _, _, _, rfl, rfl, SqL.of hl, rfl, h, R, a, c, rfl, rep, q⟩
    | next =>
      refine ⟨_, rfl, l, _, _, _, rfl, rfl, SqL.of hl, rfl, rfl, _, rfl, ifN (by decide) ?_⟩
      refine ⟨_, rfl, l, _, _, _, rfl, rfl, SqL.of hl, rfl, rfl, _, rfl, ifN (by decide) ?_⟩
      refine ⟨_, rfl, l, _, _, _, rfl, rfl, SqL.of hl, rfl, rfl, _, rfl, ifN (by decide) ?_⟩
      refine ⟨_, rfl, l, _, _, _, rfl, rfl, SqL.of hl, rfl, rfl, _, rfl, ifN (by decide) ?_⟩
      refine ⟨_, rfl, l, _, _, _, rfl, rfl, SqL.of hl, rfl, rfl, _, rfl, ifN (by decide) ?_⟩
      refine ⟨_, rfl, l, _, _, _, rfl, rfl, SqL.of hl, rfl, rfl, _, rfl, ifN (by decide) ?_⟩
      exact ⟨_, rfl, h, R, a, rfl, rep, q⟩
    | _ => exact absurd hg (by simp [grp])
theorem sc_answer_looking : FnScope ["house", "call"] ["house", "call"] (defScope s_answer_looking) := ⟨rfl, rfl, rfl, by decide +kernel, rfl, by decide +kernel, by decide +kernel⟩
theorem ok_answer_looking (T : Txt K mg CT CW fT fW) : Has P w K mg base 5 "answer_looking" ["house", "call"] (spGrp CT CW 3) := T.d_answer_looking.has fun f fd F => by
  refine F.ok sc_answer_looking (fun vs H Q E h => ?_) (fun cdv A outer s H vs Q E hr h => ?_)
  · obtain ⟨h, R, a, l, c, rfl, _⟩ := h
    rfl
  · obtain ⟨h, R, a, l, c, rfl, rep, hl, n1, n2, n3, hg, q⟩ := h
    refine ⟨_, (pss_cons (ps_if (pt_cmpR op_eq (pe_ix ix_list (pv 1) pe_int (fun _ _ => rfl)) (pgi T.c_LOOK (by rfl)) (nomark _)) (pss_one (ps_ret (pe_callH (ok_look_at_tyre T) (hr.mono (by decide)) (by rfl) (pa_cons (pv 0) (pa_cons (pe_ix ix_list (pv 1) pe_int (fun _ _ => rfl)) pa_nil))))) pss_nil) (pss_cons (ps_if (pt_cmpR op_eq (pe_ix ix_list (pv 1) pe_int (fun _ _ => rfl)) (pgi T.c_SUMS (by rfl)) (nomark _)) (pss_one (ps_ret (pe_callH (ok_tell_sums T) (hr.mono (by decide)) (by rfl) (pa_cons (pv 0) pa_nil)))) pss_nil) (pss_one (ps_ret (pe_callH (ok_tell_state T) (hr.mono (by decide)) (by rfl) (pa_cons (pv 0) pa_nil)))))), ?_⟩
    cases c with
    | look t =>
      refine ⟨_, rfl, l, _, _, _, rfl, rfl, SqL.of hl, rfl, rfl, _, rfl, ifY ?_⟩
      exact ⟨_, rfl, _, rfl, l, _, _, _, rfl, rfl, SqL.of hl, rfl, h, R, a, t, rfl, rep, q⟩
    | sums =>
      refine ⟨_, rfl, l, _, _, _, rfl, rfl, SqL.of hl, rfl, rfl, _, rfl, ifN (by decide) ?_⟩
      refine ⟨_, rfl, l, _, _, _, rfl, rfl, SqL.of hl, rfl, rfl, _, rfl, ifY ?_⟩
      exact ⟨_, rfl, h, R, a, rfl, rep, q⟩
    | state =>
      refine ⟨_, rfl, l, _, _, _, rfl, rfl, SqL.of hl, rfl, rfl, _, rfl, ifN (by decide) ?_⟩
      refine ⟨_, rfl, l, _, _, _, rfl, rfl, SqL.of hl, rfl, rfl, _, rfl, ifN (by decide) ?_⟩
      exact ⟨_, rfl, h, R, a, rfl, rep, q⟩
    | _ => exact absurd hg (by simp [grp])
theorem sc_answer_call : FnScope ["house", "call"] ["house", "call"] (defScope s_answer_call) := ⟨rfl, rfl, rfl, by decide +kernel, rfl, by decide +kernel, by decide +kernel⟩
theorem ok_answer_call (T : Txt K mg CT CW fT fW) : Has P w K mg base 8 "answer_call" ["house", "call"] (spCallA CT CW) := T.d_answer_call.has fun f fd F => by
  refine F.ok sc_answer_call (fun vs H Q E h => ?_) (fun cdv A outer s H vs Q E hr h => ?_)
  · obtain ⟨h, R, a, l, c, rfl, _⟩ := h
    rfl
  · obtain ⟨h, R, a, l, c, rfl, rep, hl, n1, n2, n3, nb, q⟩ := h
    refine ⟨_, (pss_cons (ps_if (pt_cmpR op_in_seq (pe_ix ix_list (pv 1) pe_int (fun _ _ => rfl)) (pe_tup (pa_cons (pgi T.c_RACK (by rfl)) (pa_cons (pgi T.c_PUT (by rfl)) (pa_cons (pgi T.c_MOVE (by rfl)) (pa_cons (pgi T.c_DAYS (by rfl)) pa_nil))))) (by with_unfolding_all rfl)) (pss_one (ps_ret (pe_callH (ok_answer_stocking T) (hr.mono (by decide)) (by rfl) (pa_cons (pv 0) (pa_cons (pv 1) pa_nil))))) pss_nil) (pss_cons (ps_if (pt_cmpR op_in_seq (pe_ix ix_list (pv 1) pe_int (fun _ _ => rfl)) (pe_tup (pa_cons (pgi T.c_SEND (by rfl)) (pa_cons (pgi T.c_OLDEST (by rfl)) (pa_cons (pgi T.c_CLAIM (by rfl)) (pa_cons (pgi T.c_BACK (by rfl)) (pa_cons (pgi T.c_RECALL (by rfl)) (pa_cons (pgi T.c_LIFT (by rfl)) pa_nil))))))) (by with_unfolding_all rfl)) (pss_one (ps_ret (pe_callH (ok_answer_sending T) (hr.mono (by decide)) (by rfl) (pa_cons (pv 0) (pa_cons (pv 1) pa_nil))))) pss_nil) (pss_cons (ps_if (pt_cmpR op_in_seq (pe_ix ix_list (pv 1) pe_int (fun _ _ => rfl)) (pe_tup (pa_cons (pgi T.c_COMMON (by rfl)) (pa_cons (pgi T.c_NARROW (by rfl)) (pa_cons (pgi T.c_TWO (by rfl)) (pa_cons (pgi T.c_RATE (by rfl)) (pa_cons (pgi T.c_WORST (by rfl)) pa_nil)))))) (by with_unfolding_all rfl)) (pss_one (ps_ret (pe_callH (ok_answer_causes T) (hr.mono (by decide)) (by rfl) (pa_cons (pv 0) (pa_cons (pv 1) pa_nil))))) pss_nil) (pss_cons (ps_if (pt_cmpR op_in_seq (pe_ix ix_list (pv 1) pe_int (fun _ _ => rfl)) (pe_tup (pa_cons (pgi T.c_LOOK (by rfl)) (pa_cons (pgi T.c_SUMS (by rfl)) (pa_cons (pgi T.c_STATE (by rfl)) pa_nil)))) (by with_unfolding_all rfl)) (pss_one (ps_ret (pe_callH (ok_answer_looking T) (hr.mono (by decide)) (by rfl) (pa_cons (pv 0) (pa_cons (pv 1) pa_nil))))) pss_nil) (pss_one (ps_ret (pe_callH (ok_answer_listing T) (hr.mono (by decide)) (by rfl) (pa_cons (pv 0) (pa_cons (pv 1) pa_nil))))))))), ?_⟩
    have at0 : atI (List.map V.int (enc c)) 0 = some (V.int (opc c : Nat)) := at_of (j := 0) rfl (by rw [List.getElem?_map, enc_head]; rfl)
    have go : ∀ {H1 : Hp}, Same H H1 → ∀ k, grp c = k → spGrp CT CW k [.ref h, .ref l] H1 Q E0 := fun {H1} s1 k hk =>
      ⟨h, R, a, l, c, rfl, rep.same s1, s1 _ _ hl, n1, n2, n3, hk, fun H' R' p' e1 e2 e3 rp kp np hp' => q H' R' p' e1 e2 ⟨e3.1, fun i => (e3.2 i).imp id s1.free⟩ rp (fun b o e h1 h2 h3 h4 h5 => kp b o (s1 _ _ e) h1 h2 h3 h4 h5) (s1.free np) hp'⟩
    refine ⟨_, rfl, l, _, _, _, rfl, rfl, SqL.of hl, at0, (by show 4 ≤ sizeLine; decide), fun t1 ht1 => ⟨t1, _, rfl, .inr (SqT.of upd_same), rfl, rfl, _, rfl, ?_⟩⟩
    have s1 := Same.new (o := HO.tup [V.int 1, V.int 2, V.int 3, V.int 6]) ht1
    rw [if_neg Bool.false_ne_true, in0]
    refine ite2 (fun h0 => ⟨_, rfl, _, rfl, go s1 0 (by simpa using h0)⟩) fun h0 => ?_
    refine ⟨_, rfl, l, _, _, _, rfl, rfl, SqL.of (s1 _ _ hl), at0, (by show 6 ≤ sizeLine; decide), fun t2 ht2 => ⟨t2, _, rfl, .inr (SqT.of upd_same), rfl, rfl, _, rfl, ?_⟩⟩
    have s2 := s1.trans (Same.new (o := HO.tup [V.int 4, V.int 5, V.int 7, V.int 8, V.int 9, V.int 10]) ht2)
    rw [if_neg Bool.false_ne_true, in1]
    refine ite2 (fun h1 => ⟨_, rfl, _, rfl, go s2 1 (by simpa using h1)⟩) fun h1 => ?_
    refine ⟨_, rfl, l, _, _, _, rfl, rfl, SqL.of (s2 _ _ hl), at0, (by show 5 ≤ sizeLine; decide), fun t3 ht3 => ⟨t3, _, rfl, .inr (SqT.of upd_same), rfl, rfl, _, rfl, ?_⟩⟩
    have s3 := s2.trans (Same.new (o := HO.tup [V.int 11, V.int 12, V.int 13, V.int 14, V.int 15]) ht3)
    rw [if_neg Bool.false_ne_true, in2]
    refine ite2 (fun h2 => ⟨_, rfl, _, rfl, go s3 2 (by simpa using h2)⟩) fun h2 => ?_
    refine ⟨_, rfl, l, _, _, _, rfl, rfl, SqL.of (s3 _ _ hl), at0, (by show 3 ≤ sizeLine; decide), fun t4 ht4 => ⟨t4, _, rfl, .inr (SqT.of upd_same), rfl, rfl, _, rfl, ?_⟩⟩
    have s4 := s3.trans (Same.new (o := HO.tup [V.int 23, V.int 24, V.int 25]) ht4)
    rw [if_neg Bool.false_ne_true, in3]
    refine ite2 (fun h3 => ⟨_, rfl, _, rfl, go s4 3 (by simpa using h3)⟩) fun h3 => ?_
    exact ⟨_, rfl, _, rfl, go s4 4 (grp4 nb (fun z => h0 (by rw [z]; rfl)) (fun z => h1 (by rw [z]; rfl)) (fun z => h2 (by rw [z]; rfl)) (fun z => h3 (by rw [z]; rfl)))⟩
end
end Rt
end

section
set_option Elab.async false
set_option linter.all false
set_option maxRecDepth 100000
set_option maxHeartbeats 2000000
namespace Rt
open PySem PySem.Spec PyProof.Rows L2
open Su69 (Abs)

open Su69 (Call)
theorem ifT {b : Bool} {A B : Prop} (e : b = true) (h : A) : if b = true then A else B := by rw [if_pos e]; exact h
theorem ifF {b : Bool} {A B : Prop} (e : b = false) (h : B) : if b = true then A else B := by rw [if_neg (by rw [e]; exact Bool.false_ne_true)]; exact h
theorem begin_of {c : Call} (h : opc c = 0) : c = .begin_ := by
  cases c <;> first | rfl | exact absurd h (by simp [opc])
theorem enc_ne (c : Call) : enc c ≠ [] := by cases c <;> (intro z; cases z)
theorem flat_nil {cls : List Call} (h : cls.flatMap enc = []) : cls = [] := by
  cases cls with
  | nil => rfl
  | cons c r =>
    rw [List.flatMap_cons] at h
    exact absurd (List.append_eq_nil_iff.mp h).1 (enc_ne c)
theorem step_begin (s : Option Abs) : Su69.step s .begin_ = (some Su69.empty, Su69.no 0) := by cases s <;> rfl
theorem step_none {c : Call} (h : c ≠ .begin_) : Su69.step none c = (none, Su69.no (-11)) := by
  cases c <;> first | rfl | exact absurd rfl h
theorem told_cons (s : Option Abs) (c : Call) (r : List Call) : toldOf s (c :: r) = (((ans (Su69.step s c).2).length : Nat) : Int) :: (ans (Su69.step s c).2 ++ toldOf (Su69.step s c).1 r) := by
  rw [toldOf]; rfl
/-- a list of its own is written, the house stays -/
theorem Rep.off {CT CW : Addr} {H H' : Hp} {h : Addr} {R : RD} {a : Abs} {tl : Addr} {xs : List V} (r : Rep CT CW H h R a) (ht : H tl = some (.lst xs)) (n1 : tl ≠ R.ls) (n2 : tl ≠ R.lt) (n3 : tl ≠ R.lr) (n4 : ∀ i, tl ≠ R.ma i)
    (kp : ∀ b o, H b = some o → b ≠ tl → H' b = some o) : Rep CT CW H' h R a where
  good := r.good
  house := by
    obtain ⟨dx, e⟩ := r.house
    exact ⟨dx, kp _ _ e (ne_of e ht (by intro z; cases z))⟩
  sizes := kp _ _ r.sizes n1.symm
  tyres := kp _ _ r.tyres n2.symm
  recd := by
    obtain ⟨ps, e, m⟩ := r.recd
    exact ⟨ps, kp _ _ e n3.symm, Paired.mapP m fun _ _ q => kp _ _ q (ne_of q ht (by intro z; cases z))⟩
  tyre i hi := by
    obtain ⟨dx, e⟩ := r.tyre i hi
    exact ⟨dx, kp _ _ e (ne_of e ht (by intro z; cases z))⟩
  marks i hi := kp _ _ (r.marks i hi) (n4 i).symm
  inj := r.inj
  dist := r.dist
  mne := r.mne
/-- the house so far -/
def HouseAt (CT CW : Addr) (H : Hp) (tl : Addr) (hv : V) : Option Abs → Prop
  | none => hv = .non
  | some a => ∃ (h : Addr) (R : RD), hv = .ref h ∧ Rep CT CW H h R a ∧ tl ≠ R.ls ∧ tl ≠ R.lt ∧ tl ≠ R.lr ∧ ∀ i, tl ≠ R.ma i
theorem HouseAt.off {CT CW : Addr} {H H' : Hp} {tl : Addr} {hv : V} {s : Option Abs} {xs : List V} (r : HouseAt CT CW H tl hv s) (ht : H tl = some (.lst xs)) (kp : ∀ b o, H b = some o → b ≠ tl → H' b = some o) : HouseAt CT CW H' tl hv s := by
  cases s with
  | none => exact r
  | some a =>
    obtain ⟨h, R, e, rep, n1, n2, n3, n4⟩ := r
    exact ⟨h, R, e, rep.off ht n1 n2 n3 n4 kp, n1, n2, n3, n4⟩
theorem HouseAt.same {CT CW : Addr} {H H' : Hp} {tl : Addr} {hv : V} {s : Option Abs} (r : HouseAt CT CW H tl hv s) (z : Same H H') : HouseAt CT CW H' tl hv s := by
  cases s with
  | none => exact r
  | some a =>
    obtain ⟨h, R, e, rep, n⟩ := r
    exact ⟨h, R, e, rep.same z, n⟩
theorem Args.off {K : PySem.W.Frag} {H H' : Hp} {l tl : Addr} {zs : List Int} {xs : List V} (a : Args K H l zs) (ht : H tl = some (.lst xs)) (kp : ∀ b o, H b = some o → b ≠ tl → H' b = some o) : Args K H' l zs := by
  rcases a with ⟨o, e⟩ | e
  · exact .inl ⟨o, kp _ _ e (ne_of e ht (by intro z; cases z))⟩
  · exact .inr e
/-- where the round of the calls stands -/
def Loop (K : PySem.W.Frag) (CT CW l : Addr) (zs tot : List Int) (σ : L2.St) (H : Hp) : Prop :=
  ∃ (s : Option Abs) (hv : V) (tl : Addr) (p : Nat) (e v : Option V) (out : List Int) (cls : List Call), σ = [some (.ref l), some hv, some (.ref tl), some (iv p), e, v] ∧ HouseAt CT CW H tl hv s ∧ Args K H l zs ∧ zs.drop p = cls.flatMap enc ∧ p ≤ zs.length ∧ H tl = some (.lst (out.map V.int)) ∧ out ++ toldOf s cls = tot
def left (n : Nat) (σ : L2.St) : Nat := match σ with
  | [_, _, _, some (.int z), _, _] => n - z.toNat
  | _ => 0
theorem loop_next {K : PySem.W.Frag} {CT CW l tl : Addr} {zs tot out : List Int} {H : Hp} {hv : V} {s : Option Abs} {p : Nat} {c : Call} {cls : List Call} {e v : Option V} {ys : List V} {e0 v0 : Option V} {hv0 : V}
    (hH : HouseAt CT CW H tl hv (Su69.step s c).1) (ha : Args K H l zs) (hz : zs.drop p = (c :: cls).flatMap enc) (hp : p ≤ zs.length) (ht : H tl = some (.lst (out.map V.int))) (ho : out ++ toldOf s (c :: cls) = tot)
    (hy : ys = (out ++ ((((ans (Su69.step s c).2).length : Nat) : Int) :: ans (Su69.step s c).2)).map V.int) {H' : Hp} (kp : ∀ b o, H b = some o → b ≠ tl → H' b = some o) (ht' : H' tl = some (.lst ys)) :
    Loop K CT CW l zs tot [some (.ref l), some hv, some (.ref tl), some (iv (p + (enc c).length)), e, v] H' ∧ left zs.length [some (.ref l), some hv, some (.ref tl), some (iv (p + (enc c).length)), e, v] < left zs.length [some (.ref l), some hv0, some (.ref tl), some (iv p), e0, v0] := by
  have hl : (enc c).length + (cls.flatMap enc).length = zs.length - p := by
    rw [← List.length_drop, hz, List.flatMap_cons, List.length_append]
  have h1 : 0 < (enc c).length := List.length_pos_iff.mpr (enc_ne c)
  refine ⟨⟨(Su69.step s c).1, hv, tl, p + (enc c).length, e, v, _, cls, rfl, hH.off ht kp, ha.off ht kp, ?_, by omega, by rw [ht', hy], ?_⟩, ?_⟩
  · rw [← List.drop_drop, hz, List.flatMap_cons, List.drop_left]
  · rw [← ho, told_cons, List.append_assoc]; rfl
  · show zs.length - (((p + (enc c).length : Nat) : Int)).toNat < zs.length - ((p : Nat) : Int).toNat
    omega
def spAnswers (K : PySem.W.Frag) : Sp := fun vs H Q _ => ∃ (l : Addr) (zs : List Int), vs = [.ref l] ∧ Args K H l zs ∧ PySu69.answers_asked zs = true ∧ ∀ (H' : Hp) (p : Addr), H' p = some (.lst ((PySu69.answers zs).map V.int)) → Q (.ref p) H'
section
variable {P : Program} {w : World} {K : PySem.W.Frag} {mg : Str → Option Value} {base : Heap} {CT CW fT fW : Addr}
theorem sc_answers : FnScope ["calls", "house", "told", "start", "end", "answer"] ["calls"] (defScope s_answers) := ⟨rfl, rfl, rfl, by decide +kernel, rfl, by decide +kernel, by decide +kernel⟩
theorem ok_answers (T : Txt K mg CT CW fT fW) {f : Addr} {fd : FuncData} (F : Fun K "answers" "answers" s_answers f fd) : FnOk P w K mg base CX0 9 f fd ["calls"] (spAnswers K) := by
  refine F.ok sc_answers (fun vs H Q E h => ?_) (fun cdv A outer s H vs Q E hr h => ?_)
  · obtain ⟨l, zs, rfl, _⟩ := h
    rfl
  · obtain ⟨l, zs, rfl, ha0, hask, q⟩ := h
    obtain ⟨fdW, FW, bW⟩ := T.inW
    obtain ⟨cls0, ez, ea, few⟩ := asked_calls hask
    refine ⟨_, (pss_cons (ps_set (i := 1) sc_answers.nd rfl (Or.inl rfl) pe_non) (pss_cons (ps_set (i := 2) sc_answers.nd rfl (Or.inl rfl) (pe_lst pa_nil)) (pss_cons (ps_set (i := 3) sc_answers.nd rfl (Or.inl rfl) pe_int) (pss_cons (ps_while PassesOwn.never (pt_cmpR op_lt (pv 3) (pe_callB call_len_seq (by rfl) T.b_len PySem.boot_len (pa_cons (pv 0) pa_nil)) (nomark _)) (pss_cons (ps_set (i := 4) sc_answers.nd rfl (Or.inl rfl) (pe_callH (ok_call_end T) (hr.mono (by decide)) (by rfl) (pa_cons (pv 0) (pa_cons (pv 3) pa_nil)))) (pss_cons (ps_if (pt_cmpR op_eq (pe_ix ix_list (pv 0) (pv 3) (fun _ _ => rfl)) (pgi T.c_BEGIN (by rfl)) (nomark _)) (pss_cons (ps_set (i := 1) sc_answers.nd rfl (Or.inl rfl) (pe_make0 T.mkW (ok_winit T FW) (hr.mono (by decide)) (by rfl) T.mgW bW .nil pass0)) (pss_one (ps_set (i := 5) sc_answers.nd rfl (Or.inl rfl) (pe_lst (pa_cons pe_int pa_nil))))) (pss_one (ps_if (pt_cmpR op_isN (pv 1) pe_non (nomark _)) (pss_one (ps_set (i := 5) sc_answers.nd rfl (Or.inl rfl) (pe_lst (pa_cons (pgi T.c_NOT_BEGUN (by rfl)) pa_nil)))) (pss_one (ps_set (i := 5) sc_answers.nd rfl (Or.inl rfl) (pe_callH (ok_answer_call T) hr (by rfl) (pa_cons (pv 1) (pa_cons (pe_slice sl_list (pv 0) (po_some (pv 3)) (po_some (pv 4))) pa_nil)))))))) (pss_cons (ps_expr (pe_bm PySem.F.plainAttrs_list PySem.F.slot_list_append PySem.F.type_list_append mt_append (pv 2) (pa_cons (pe_callB call_len_seq (by rfl) T.b_len PySem.boot_len (pa_cons (pv 5) pa_nil)) pa_nil))) (pss_cons (ps_expr (pe_bm PySem.F.plainAttrs_list PySem.F.slot_list_extend PySem.F.type_list_extend mt_extend (pv 2) (pa_cons (pv 5) pa_nil))) (pss_one (ps_set (i := 3) sc_answers.nd rfl (Or.inl rfl) (pv 4)))))))) (pss_one (ps_ret (pv 2))))))), ?_⟩
    refine ⟨(by show 0 ≤ sizeLine; decide), fun tl0 htl0 => while_by (Loop K CT CW l zs (toldOf none cls0)) (fun σ _ => left zs.length σ) ⟨none, .non, tl0, 0, none, none, [], cls0, rfl, rfl, ha0.same (Same.new htl0), ez, Nat.zero_le _, upd_same, rfl⟩ ?_ ?_⟩
    · rintro σ H0 ⟨s, hv, tl, p, ev, av, out, cls, rfl, hH, ha, hz, hp, ht, ho⟩
      refine ⟨_, rfl, _, rfl, l, _, rfl, .inl ha.sq, _, _, rfl, rfl, _, rfl, ?_⟩
      rw [List.length_map, lt_nat]
      refine ite2 (fun hlt => ?_) fun hge => ?_
      · have hlt := of_decide_eq_true hlt
        cases cls with
        | nil =>
          exfalso
          have := congrArg List.length hz
          rw [List.length_drop] at this
          simp at this
          omega
        | cons c cls =>
          have hz1 : zs.drop p = enc c ++ cls.flatMap enc := by rw [hz, List.flatMap_cons]
          have sz : out.length + (1 + (ans (Su69.step s c).2).length) ≤ 10000000 := by
            have := congrArg List.length ho
            rw [List.length_append, told_cons, List.length_cons, List.length_append] at this
            omega
          have line : sizeLine = 16777216 := sizeLine_eq
          have at0 : atI (zs.map V.int) (p : Int) = some (V.int (opc c : Nat)) := atI_nat (by
            rw [List.getElem?_map]
            have := congrArg (·[0]?) hz1
            simp only [List.getElem?_drop, Nat.add_zero] at this
            rw [this, List.getElem?_append_left (List.length_pos_iff.mpr (enc_ne c)), enc_head]
            rfl)
          refine ⟨_, rfl, _, rfl, l, zs, p, c, cls.flatMap enc, rfl, ha.sq, hz1, fun H1 s1 => ?_⟩
          refine ⟨_, rfl, _, rfl, l, _, _, _, rfl, rfl, (ha.same s1).sq, at0, rfl, _, rfl, ?_⟩
          by_cases hb : opc c = 0
          · have hc := begin_of hb
            subst hc
            refine ifY fun x dx nx ndx nex => ⟨x, dx, rfl, upd_same, fun H2 ls lt lr e1 e2 e3 e4 n1 n2 n3 d1 d2 d3 kp => ⟨rfl, (by show 1 ≤ sizeLine; decide), fun la hla => ?_⟩⟩
            have old2 : Same H1 H2 := fun b o e => kp b o (by rw [upd_ne (ne_of_none e nx), upd_ne (ne_of_none e ndx)]; exact e) (ne_of_none e nx)
            have s3 := Same.new (o := HO.lst [V.int 0]) hla
            have s03 := (s1.trans old2).trans s3
            have back : ∀ {y : Addr}, (upd (upd H1 dx (.own x)) x (.ins CW dx [])) y = none → tl ≠ y := fun {y} n z => by
              have e := s1 _ _ ht
              rw [upd_ne (ne_of_none e nx |> fun w => by rw [← z]; exact w), upd_ne (ne_of_none e ndx |> fun w => by rw [← z]; exact w), ← z, e] at n
              cases n
            have rep2 : Rep CT CW H2 x ⟨ls, lt, lr, fun _ => ls, fun _ => ls⟩ Su69.empty :=
              ⟨good_empty, ⟨dx, e1⟩, e2, e3, ⟨[], e4, .nil⟩, fun i hi => absurd hi (Nat.not_lt_zero _), fun i hi => absurd hi (Nat.not_lt_zero _), fun i j hi => absurd hi (Nat.not_lt_zero _), ⟨d1, d2, d3⟩, fun i hi => absurd hi (Nat.not_lt_zero _)⟩
            have hH3 : HouseAt CT CW (upd H2 la (.lst [V.int 0])) tl (.ref x) (Su69.step s .begin_).1 := by
              rw [step_begin]
              exact ⟨x, _, rfl, rep2.same s3, back n1, back n2, back n3, fun _ => back n1⟩
            have ha3 := ha.same s03
            have ht3 := s03 _ _ ht
            have hla3 : (upd H2 la (.lst [V.int 0])) la = some (.lst ((ans (Su69.step s .begin_).2).map V.int)) := by rw [upd_same, step_begin]; rfl
            have hne : la ≠ tl := (ne_of_none ((s1.trans old2) _ _ ht) hla).symm
            refine ⟨_, rfl, .inl ⟨rfl, _, SqL.of ht3⟩, _, rfl, la, _, rfl, .inl (SqL.of hla3), tl, _, _, rfl, rfl, ht3, (by rw [List.length_map]; omega), ?_⟩
            refine ⟨_, rfl, .inl ⟨rfl, _, SqL.of upd_same⟩, _, rfl, tl, la, _, _, rfl, rfl, upd_same, by rw [upd_ne hne]; exact hla3, (by rw [List.length_append, List.length_map, List.length_map, List.length_singleton]; omega), _, rfl, ?_⟩
            refine loop_next hH3 ha3 hz hp ht3 ho ?_ (fun b o e hb => by rw [upd_ne hb, upd_ne hb]; exact e) upd_same
            rw [List.length_map, List.append_assoc, List.map_append]
            rfl
          · have nb : c ≠ .begin_ := fun z => hb (by rw [z]; rfl)
            refine ifN (fun z => hb (by omega)) ?_
            cases s with
            | none =>
              have hH : hv = .non := hH
              subst hH
              refine ⟨_, rfl, rfl, _, rfl, ?_⟩
              refine ifT (decide_eq_true rfl) ?_
              refine ⟨(by show 1 ≤ sizeLine; decide), fun la hla => ?_⟩
              have s3 := Same.new (o := HO.lst [V.int (-11)]) hla
              have s03 := s1.trans s3
              have hH3 : HouseAt CT CW (upd H1 la (.lst [V.int (-11)])) tl .non (Su69.step none c).1 := by
                rw [step_none nb]; rfl
              have ha3 := ha.same s03
              have ht3 := s03 _ _ ht
              have hla3 : (upd H1 la (.lst [V.int (-11)])) la = some (.lst ((ans (Su69.step none c).2).map V.int)) := by rw [upd_same, step_none nb]; rfl
              have hne : la ≠ tl := (ne_of_none (s1 _ _ ht) hla).symm
              refine ⟨_, rfl, .inl ⟨rfl, _, SqL.of ht3⟩, _, rfl, la, _, rfl, .inl (SqL.of hla3), tl, _, _, rfl, rfl, ht3, (by rw [List.length_map]; omega), ?_⟩
              refine ⟨_, rfl, .inl ⟨rfl, _, SqL.of upd_same⟩, _, rfl, tl, la, _, _, rfl, rfl, upd_same, by rw [upd_ne hne]; exact hla3, (by rw [List.length_append, List.length_map, List.length_map, List.length_singleton]; omega), _, rfl, ?_⟩
              refine loop_next hH3 ha3 hz hp ht3 ho ?_ (fun b o e hb => by rw [upd_ne hb, upd_ne hb]; exact e) upd_same
              rw [List.length_map, List.append_assoc, List.map_append]
              rfl
            | some a =>
              obtain ⟨h, R, rfl, rep, m1, m2, m3, m4⟩ := hH
              refine ⟨_, rfl, rfl, _, rfl, ?_⟩
              refine ifF (decide_eq_false (by intro z; cases z)) ?_
              refine ⟨_, rfl, _, rfl, _, rfl, _, rfl, _, rfl, _, rfl, l, _, rfl, (ha.same s1).sq, fun lc hlc => ?_⟩
              have ecut : cutV (zs.map V.int) (some (p : Int)) (some ((p + (enc c).length : Nat) : Int)) = (enc c).map V.int := by
                have hl : (enc c).length + (cls.flatMap enc).length = zs.length - p := by
                  rw [← List.length_drop, hz1, List.length_append]
                rw [cut_mid _ _ _ (by omega) (by rw [List.length_map]; omega), ← List.map_drop, hz1, ← List.map_take, Nat.add_sub_cancel_left, List.take_left]
              rw [ecut]
              have s2 := s1.trans (Same.new (o := HO.lst ((enc c).map V.int)) hlc)
              have rep2 := rep.same s2
              have rep1 := rep.same s1
              obtain ⟨ps, hps, _⟩ := rep1.recd
              refine ⟨h, R, a, lc, c, rfl, rep2, upd_same, (ne_of_none rep1.sizes hlc).symm, (ne_of_none rep1.tyres hlc).symm, (ne_of_none hps hlc).symm, nb, fun H3 R' la e1 e2 e3 rep3 kp3 nla hla => ?_⟩
              have ht2 := s2 _ _ ht
              obtain ⟨dh, hh2⟩ := rep2.house
              have ht3 : H3 tl = some (.lst (out.map V.int)) := kp3 _ _ ht2 (ne_of ht2 hh2 (by intro z; cases z)) m1 m2 m3 (fun i hi => by
                obtain ⟨dx, q⟩ := rep2.tyre i hi
                exact ne_of ht2 q (by intro z; cases z))
              have ha3 : Args K H3 l zs := (ha.same s2).keep rep2 kp3
              have hH3 : HouseAt CT CW H3 tl (.ref h) (Su69.step (some a) c).1 :=
                ⟨h, R', rfl, rep3, by rw [e1]; exact m1, by rw [e2]; exact m2, by rw [e3.1]; exact m3, fun i => (e3.2 i).elim (fun e => by rw [e]; exact m4 i) fun e => ne_of_none ht2 e⟩
              have hla3 : H3 la = some (.lst ((ans (Su69.step (some a) c).2).map V.int)) := hla
              have hne : la ≠ tl := (ne_of_none ht2 nla).symm
              refine ⟨_, rfl, .inl ⟨rfl, _, SqL.of ht3⟩, _, rfl, la, _, rfl, .inl (SqL.of hla3), tl, _, _, rfl, rfl, ht3, (by rw [List.length_map]; omega), ?_⟩
              refine ⟨_, rfl, .inl ⟨rfl, _, SqL.of upd_same⟩, _, rfl, tl, la, _, _, rfl, rfl, upd_same, by rw [upd_ne hne]; exact hla3, (by rw [List.length_append, List.length_map, List.length_map, List.length_singleton]; omega), _, rfl, ?_⟩
              refine loop_next hH3 ha3 hz hp ht3 ho ?_ (fun b o e hb => by rw [upd_ne hb, upd_ne hb]; exact e) upd_same
              rw [List.length_map, List.append_assoc, List.map_append]
              rfl
      · have hge : ¬ p < zs.length := fun z => hge (decide_eq_true z)
        rw [List.drop_eq_nil_of_le (by omega)] at hz
        have := flat_nil hz.symm
        subst this
        refine ⟨_, rfl, q _ tl ?_⟩
        rw [ht, ea, ← ho]
        show _ = some (HO.lst ((out ++ []).map V.int))
        rw [List.append_nil]
    · intro σ H Q Q' hq hc
      obtain ⟨x1, y1, x2, y2, x3, x4, y3, y4, x5, x6, y5, y6, x7, y7, qq⟩ := hc
      exact ⟨x1, y1, x2, y2, x3, x4, y3, y4, x5, x6, y5, y6, x7, y7, hq _ _ qq⟩
end
end Rt
end

section
set_option Elab.async false
set_option linter.all false
set_option maxRecDepth 100000
set_option maxHeartbeats 2000000
namespace Rt
open PySem PySem.Spec PyProof.Rows L2
/-! ### what the top has written -/
def valsB : List Int → List Value → Bool
  | [], [] => true
  | n :: r, u :: us => Value.isInt n u && valsB r us
  | _, _ => false
theorem vals_of : ∀ {ns : List Int} {us : List Value}, valsB ns us = true → Vals (ns.map V.int) us
  | [], [], _ => .nil
  | [], u :: us, h => by cases h
  | n :: r, [], h => by cases h
  | n :: r, u :: us, h => by
    unfold valsB at h
    rw [Bool.and_eq_true] at h
    obtain ⟨t, e⟩ := Value.isInt_shape (k := n) (v := u) h.1
    exact .cons ⟨t, e⟩ (vals_of h.2)
theorem d1_mk {K : PySem.W.Frag} {h : Heap} {mg : Str → Option Value} {x : Str} {st : Stmt} {ps : List Str} {f : Addr} {oc : Value} {od an : Option Addr} {osl : Array (Option Value)} {kV doc pm cdv ct : Value} (X : K.In h) (G : h.Ns mainGlobals mg)
    (b : ∀ (kV doc pm : Value) (an : Option Addr) (cdv ct : Value) (us : List Value), us.length = ps.length → bindArgs (PySem.W.fnOf x x (defArgs st) (defBody st) (defScope st) .none kV doc pm an cdv ct) ⟨us, []⟩ = pure (ps.zip us))
    (a : PySem.W.nsIn K mainGlobals x = some (some (.ref f))) (l : K.lookup f = some ⟨oc, od, .func (PySem.W.fnOf x x (defArgs st) (defBody st) (defScope st) .none kV doc pm an cdv ct), osl⟩)
    (c : PySem.W.codeIn K cdv x = true) (k : PySem.W.keepIn K (.ref f) = true) : D1 K mg x st ps :=
  ⟨f, _, fun_mk (st := st) l c k, (fun_mk (st := st) l c k).binds b, PySem.W.mg_of X G a⟩
theorem gi_mk {K : PySem.W.Frag} {h : Heap} {mg : Str → Option Value} {x : Str} {i : Int} {t} (X : K.In h) (G : h.Ns mainGlobals mg) (a : PySem.W.nsIn K mainGlobals x = some (some (.int i t))) : GI mg x i := ⟨t, PySem.W.mg_of X G a⟩
theorem in_mk {K : PySem.W.Frag} {q : Str} {st : Stmt} {ps : List Str} {f : Addr} {oc : Value} {od an : Option Addr} {osl : Array (Option Value)} {kV doc pm cdv ct : Value}
    (b : ∀ (kV doc pm : Value) (an : Option Addr) (cdv ct : Value) (us : List Value), us.length = ps.length → bindArgs (PySem.W.fnOf "__init__" q (defArgs st) (defBody st) (defScope st) .none kV doc pm an cdv ct) ⟨us, []⟩ = pure (ps.zip us))
    (l : K.lookup f = some ⟨oc, od, .func (PySem.W.fnOf "__init__" q (defArgs st) (defBody st) (defScope st) .none kV doc pm an cdv ct), osl⟩)
    (c : PySem.W.codeIn K cdv q = true) (k : PySem.W.keepIn K (.ref f) = true) : ∃ fd, Fun K "__init__" q st f fd ∧ Binds K fd ps [] :=
  ⟨_, fun_mk (st := st) l c k, (fun_mk (st := st) l c k).binds b⟩
theorem args_mk {K : PySem.W.Frag} {h : Heap} {mg : Str → Option Value} {a : Addr} {od : Option Addr} {its : Array Value} {n : Nat} {osl : Array (Option Value)} (X : K.In h) (G : h.Ns mainGlobals mg) (e : PySem.W.nsIn K mainGlobals "ARGUMENTS" = some (some (.ref a)))
    (l : K.lookup a = some ⟨.type "tuple", od, .seq its n, osl⟩) (v : valsB [0, 1, 1, 2, 2, 3, 1, 1, 1, 2, 2, 0, 0, 0, 2, 1, 2, 0, 0, 1, 2, 1, 0, 1, 0, 0] its.toList = true) (z : Nat.ble its.size sizeLine = true) : ∃ a, mg "ARGUMENTS" = some (.ref a) ∧ ∀ H : Hp, SqT K H a argsV :=
  ⟨a, PySem.W.mg_of X G e, fun _ => .inr ⟨_, its, n, l, rfl, rfl, Nat.le_of_ble_eq_true z, vals_of v⟩⟩
theorem bd_lacks_rack (kV doc pm : Value) (an : Option Addr) (cdv ct : Value) (us : List Value) (hl : us.length = (["house", "rack_number"] : List Str).length) : bindArgs (PySem.W.fnOf "lacks_rack" "lacks_rack" (defArgs s_lacks_rack) (defBody s_lacks_rack) (defScope s_lacks_rack) .none kV doc pm an cdv ct) ⟨us, []⟩ = pure ((["house", "rack_number"] : List Str).zip us) := match us, hl with | [_, _], _ => rfl
theorem bd_lacks_tyre (kV doc pm : Value) (an : Option Addr) (cdv ct : Value) (us : List Value) (hl : us.length = (["house", "number"] : List Str).length) : bindArgs (PySem.W.fnOf "lacks_tyre" "lacks_tyre" (defArgs s_lacks_tyre) (defBody s_lacks_tyre) (defScope s_lacks_tyre) .none kV doc pm an cdv ct) ⟨us, []⟩ = pure ((["house", "number"] : List Str).zip us) := match us, hl with | [_, _], _ => rfl
theorem bd_is_no_mark (kV doc pm : Value) (an : Option Addr) (cdv ct : Value) (us : List Value) (hl : us.length = (["place", "value"] : List Str).length) : bindArgs (PySem.W.fnOf "is_no_mark" "is_no_mark" (defArgs s_is_no_mark) (defBody s_is_no_mark) (defScope s_is_no_mark) .none kV doc pm an cdv ct) ⟨us, []⟩ = pure ((["place", "value"] : List Str).zip us) := match us, hl with | [_, _], _ => rfl
theorem bd_has_mark (kV doc pm : Value) (an : Option Addr) (cdv ct : Value) (us : List Value) (hl : us.length = (["tyre", "place", "value"] : List Str).length) : bindArgs (PySem.W.fnOf "has_mark" "has_mark" (defArgs s_has_mark) (defBody s_has_mark) (defScope s_has_mark) .none kV doc pm an cdv ct) ⟨us, []⟩ = pure ((["tyre", "place", "value"] : List Str).zip us) := match us, hl with | [_, _, _], _ => rfl
theorem bd_has_any (kV doc pm : Value) (an : Option Addr) (cdv ct : Value) (us : List Value) (hl : us.length = (["tyre", "marks"] : List Str).length) : bindArgs (PySem.W.fnOf "has_any" "has_any" (defArgs s_has_any) (defBody s_has_any) (defScope s_has_any) .none kV doc pm an cdv ct) ⟨us, []⟩ = pure ((["tyre", "marks"] : List Str).zip us) := match us, hl with | [_, _], _ => rfl
theorem bd_is_recalled (kV doc pm : Value) (an : Option Addr) (cdv ct : Value) (us : List Value) (hl : us.length = (["house", "tyre"] : List Str).length) : bindArgs (PySem.W.fnOf "is_recalled" "is_recalled" (defArgs s_is_recalled) (defBody s_is_recalled) (defScope s_is_recalled) .none kV doc pm an cdv ct) ⟨us, []⟩ = pure ((["house", "tyre"] : List Str).zip us) := match us, hl with | [_, _], _ => rfl
theorem bd_tyres_with (kV doc pm : Value) (an : Option Addr) (cdv ct : Value) (us : List Value) (hl : us.length = (["house", "place", "value"] : List Str).length) : bindArgs (PySem.W.fnOf "tyres_with" "tyres_with" (defArgs s_tyres_with) (defBody s_tyres_with) (defScope s_tyres_with) .none kV doc pm an cdv ct) ⟨us, []⟩ = pure ((["house", "place", "value"] : List Str).zip us) := match us, hl with | [_, _, _], _ => rfl
theorem bd_count_at_stage (kV doc pm : Value) (an : Option Addr) (cdv ct : Value) (us : List Value) (hl : us.length = (["tyres", "stage"] : List Str).length) : bindArgs (PySem.W.fnOf "count_at_stage" "count_at_stage" (defArgs s_count_at_stage) (defBody s_count_at_stage) (defScope s_count_at_stage) .none kV doc pm an cdv ct) ⟨us, []⟩ = pure ((["tyres", "stage"] : List Str).zip us) := match us, hl with | [_, _], _ => rfl
theorem bd_claimed_tyres (kV doc pm : Value) (an : Option Addr) (cdv ct : Value) (us : List Value) (hl : us.length = (["house"] : List Str).length) : bindArgs (PySem.W.fnOf "claimed_tyres" "claimed_tyres" (defArgs s_claimed_tyres) (defBody s_claimed_tyres) (defScope s_claimed_tyres) .none kV doc pm an cdv ct) ⟨us, []⟩ = pure ((["house"] : List Str).zip us) := match us, hl with | [_], _ => rfl
theorem bd_was_sent (kV doc pm : Value) (an : Option Addr) (cdv ct : Value) (us : List Value) (hl : us.length = (["tyre"] : List Str).length) : bindArgs (PySem.W.fnOf "was_sent" "was_sent" (defArgs s_was_sent) (defBody s_was_sent) (defScope s_was_sent) .none kV doc pm an cdv ct) ⟨us, []⟩ = pure ((["tyre"] : List Str).zip us) := match us, hl with | [_], _ => rfl
theorem bd_tyres_held (kV doc pm : Value) (an : Option Addr) (cdv ct : Value) (us : List Value) (hl : us.length = (["house", "stage", "holder"] : List Str).length) : bindArgs (PySem.W.fnOf "tyres_held" "tyres_held" (defArgs s_tyres_held) (defBody s_tyres_held) (defScope s_tyres_held) .none kV doc pm an cdv ct) ⟨us, []⟩ = pure ((["house", "stage", "holder"] : List Str).zip us) := match us, hl with | [_, _, _], _ => rfl
theorem bd_room_left (kV doc pm : Value) (an : Option Addr) (cdv ct : Value) (us : List Value) (hl : us.length = (["house", "rack_number"] : List Str).length) : bindArgs (PySem.W.fnOf "room_left" "room_left" (defArgs s_room_left) (defBody s_room_left) (defScope s_room_left) .none kV doc pm an cdv ct) ⟨us, []⟩ = pure ((["house", "rack_number"] : List Str).zip us) := match us, hl with | [_, _], _ => rfl
theorem bd_marks_of (kV doc pm : Value) (an : Option Addr) (cdv ct : Value) (us : List Value) (hl : us.length = (["tyres"] : List Str).length) : bindArgs (PySem.W.fnOf "marks_of" "marks_of" (defArgs s_marks_of) (defBody s_marks_of) (defScope s_marks_of) .none kV doc pm an cdv ct) ⟨us, []⟩ = pure ((["tyres"] : List Str).zip us) := match us, hl with | [_], _ => rfl
theorem bd_have_all (kV doc pm : Value) (an : Option Addr) (cdv ct : Value) (us : List Value) (hl : us.length = (["tyres", "place", "value"] : List Str).length) : bindArgs (PySem.W.fnOf "have_all" "have_all" (defArgs s_have_all) (defBody s_have_all) (defScope s_have_all) .none kV doc pm an cdv ct) ⟨us, []⟩ = pure ((["tyres", "place", "value"] : List Str).zip us) := match us, hl with | [_, _, _], _ => rfl
theorem bd_shared_marks (kV doc pm : Value) (an : Option Addr) (cdv ct : Value) (us : List Value) (hl : us.length = (["tyres"] : List Str).length) : bindArgs (PySem.W.fnOf "shared_marks" "shared_marks" (defArgs s_shared_marks) (defBody s_shared_marks) (defScope s_shared_marks) .none kV doc pm an cdv ct) ⟨us, []⟩ = pure ((["tyres"] : List Str).zip us) := match us, hl with | [_], _ => rfl
theorem bd_common_marks (kV doc pm : Value) (an : Option Addr) (cdv ct : Value) (us : List Value) (hl : us.length = (["house"] : List Str).length) : bindArgs (PySem.W.fnOf "common_marks" "common_marks" (defArgs s_common_marks) (defBody s_common_marks) (defScope s_common_marks) .none kV doc pm an cdv ct) ⟨us, []⟩ = pure ((["house"] : List Str).zip us) := match us, hl with | [_], _ => rfl
theorem bd_count_with (kV doc pm : Value) (an : Option Addr) (cdv ct : Value) (us : List Value) (hl : us.length = (["house", "mark"] : List Str).length) : bindArgs (PySem.W.fnOf "count_with" "count_with" (defArgs s_count_with) (defBody s_count_with) (defScope s_count_with) .none kV doc pm an cdv ct) ⟨us, []⟩ = pure ((["house", "mark"] : List Str).zip us) := match us, hl with | [_, _], _ => rfl
theorem bd_narrowest_mark (kV doc pm : Value) (an : Option Addr) (cdv ct : Value) (us : List Value) (hl : us.length = (["house"] : List Str).length) : bindArgs (PySem.W.fnOf "narrowest_mark" "narrowest_mark" (defArgs s_narrowest_mark) (defBody s_narrowest_mark) (defScope s_narrowest_mark) .none kV doc pm an cdv ct) ⟨us, []⟩ = pure ((["house"] : List Str).zip us) := match us, hl with | [_], _ => rfl
theorem bd_second_marks (kV doc pm : Value) (an : Option Addr) (cdv ct : Value) (us : List Value) (hl : us.length = (["claimed", "first"] : List Str).length) : bindArgs (PySem.W.fnOf "second_marks" "second_marks" (defArgs s_second_marks) (defBody s_second_marks) (defScope s_second_marks) .none kV doc pm an cdv ct) ⟨us, []⟩ = pure ((["claimed", "first"] : List Str).zip us) := match us, hl with | [_, _], _ => rfl
theorem bd_explaining_pairs (kV doc pm : Value) (an : Option Addr) (cdv ct : Value) (us : List Value) (hl : us.length = (["claimed"] : List Str).length) : bindArgs (PySem.W.fnOf "explaining_pairs" "explaining_pairs" (defArgs s_explaining_pairs) (defBody s_explaining_pairs) (defScope s_explaining_pairs) .none kV doc pm an cdv ct) ⟨us, []⟩ = pure ((["claimed"] : List Str).zip us) := match us, hl with | [_], _ => rfl
theorem bd_count_with_either (kV doc pm : Value) (an : Option Addr) (cdv ct : Value) (us : List Value) (hl : us.length = (["house", "pair"] : List Str).length) : bindArgs (PySem.W.fnOf "count_with_either" "count_with_either" (defArgs s_count_with_either) (defBody s_count_with_either) (defScope s_count_with_either) .none kV doc pm an cdv ct) ⟨us, []⟩ = pure ((["house", "pair"] : List Str).zip us) := match us, hl with | [_, _], _ => rfl
theorem bd_explaining_marks (kV doc pm : Value) (an : Option Addr) (cdv ct : Value) (us : List Value) (hl : us.length = (["house"] : List Str).length) : bindArgs (PySem.W.fnOf "explaining_marks" "explaining_marks" (defArgs s_explaining_marks) (defBody s_explaining_marks) (defScope s_explaining_marks) .none kV doc pm an cdv ct) ⟨us, []⟩ = pure ((["house"] : List Str).zip us) := match us, hl with | [_], _ => rfl
theorem bd_hand_over (kV doc pm : Value) (an : Option Addr) (cdv ct : Value) (us : List Value) (hl : us.length = (["house", "tyre", "customer"] : List Str).length) : bindArgs (PySem.W.fnOf "hand_over" "hand_over" (defArgs s_hand_over) (defBody s_hand_over) (defScope s_hand_over) .none kV doc pm an cdv ct) ⟨us, []⟩ = pure ((["house", "tyre", "customer"] : List Str).zip us) := match us, hl with | [_, _, _], _ => rfl
theorem bd_send_tyre (kV doc pm : Value) (an : Option Addr) (cdv ct : Value) (us : List Value) (hl : us.length = (["house", "number", "customer"] : List Str).length) : bindArgs (PySem.W.fnOf "send_tyre" "send_tyre" (defArgs s_send_tyre) (defBody s_send_tyre) (defScope s_send_tyre) .none kV doc pm an cdv ct) ⟨us, []⟩ = pure ((["house", "number", "customer"] : List Str).zip us) := match us, hl with | [_, _, _], _ => rfl
theorem bd_sendable_tyres (kV doc pm : Value) (an : Option Addr) (cdv ct : Value) (us : List Value) (hl : us.length = (["house"] : List Str).length) : bindArgs (PySem.W.fnOf "sendable_tyres" "sendable_tyres" (defArgs s_sendable_tyres) (defBody s_sendable_tyres) (defScope s_sendable_tyres) .none kV doc pm an cdv ct) ⟨us, []⟩ = pure ((["house"] : List Str).zip us) := match us, hl with | [_], _ => rfl
theorem bd_oldest_tyre (kV doc pm : Value) (an : Option Addr) (cdv ct : Value) (us : List Value) (hl : us.length = (["tyres"] : List Str).length) : bindArgs (PySem.W.fnOf "oldest_tyre" "oldest_tyre" (defArgs s_oldest_tyre) (defBody s_oldest_tyre) (defScope s_oldest_tyre) .none kV doc pm an cdv ct) ⟨us, []⟩ = pure ((["tyres"] : List Str).zip us) := match us, hl with | [_], _ => rfl
theorem bd_send_oldest (kV doc pm : Value) (an : Option Addr) (cdv ct : Value) (us : List Value) (hl : us.length = (["house", "place", "value", "customer"] : List Str).length) : bindArgs (PySem.W.fnOf "send_oldest" "send_oldest" (defArgs s_send_oldest) (defBody s_send_oldest) (defScope s_send_oldest) .none kV doc pm an cdv ct) ⟨us, []⟩ = pure ((["house", "place", "value", "customer"] : List Str).zip us) := match us, hl with | [_, _, _, _], _ => rfl
theorem bd_claim_tyre (kV doc pm : Value) (an : Option Addr) (cdv ct : Value) (us : List Value) (hl : us.length = (["house", "number"] : List Str).length) : bindArgs (PySem.W.fnOf "claim_tyre" "claim_tyre" (defArgs s_claim_tyre) (defBody s_claim_tyre) (defScope s_claim_tyre) .none kV doc pm an cdv ct) ⟨us, []⟩ = pure ((["house", "number"] : List Str).zip us) := match us, hl with | [_, _], _ => rfl
theorem bd_take_back (kV doc pm : Value) (an : Option Addr) (cdv ct : Value) (us : List Value) (hl : us.length = (["house", "number"] : List Str).length) : bindArgs (PySem.W.fnOf "take_back" "take_back" (defArgs s_take_back) (defBody s_take_back) (defScope s_take_back) .none kV doc pm an cdv ct) ⟨us, []⟩ = pure ((["house", "number"] : List Str).zip us) := match us, hl with | [_, _], _ => rfl
theorem bd_recall_mark (kV doc pm : Value) (an : Option Addr) (cdv ct : Value) (us : List Value) (hl : us.length = (["house", "place", "value"] : List Str).length) : bindArgs (PySem.W.fnOf "recall_mark" "recall_mark" (defArgs s_recall_mark) (defBody s_recall_mark) (defScope s_recall_mark) .none kV doc pm an cdv ct) ⟨us, []⟩ = pure ((["house", "place", "value"] : List Str).zip us) := match us, hl with | [_, _, _], _ => rfl
theorem bd_lift_mark (kV doc pm : Value) (an : Option Addr) (cdv ct : Value) (us : List Value) (hl : us.length = (["house", "place", "value"] : List Str).length) : bindArgs (PySem.W.fnOf "lift_mark" "lift_mark" (defArgs s_lift_mark) (defBody s_lift_mark) (defScope s_lift_mark) .none kV doc pm an cdv ct) ⟨us, []⟩ = pure ((["house", "place", "value"] : List Str).zip us) := match us, hl with | [_, _, _], _ => rfl
theorem bd_numbers_of (kV doc pm : Value) (an : Option Addr) (cdv ct : Value) (us : List Value) (hl : us.length = (["tyres"] : List Str).length) : bindArgs (PySem.W.fnOf "numbers_of" "numbers_of" (defArgs s_numbers_of) (defBody s_numbers_of) (defScope s_numbers_of) .none kV doc pm an cdv ct) ⟨us, []⟩ = pure ((["tyres"] : List Str).zip us) := match us, hl with | [_], _ => rfl
theorem bd_counted (kV doc pm : Value) (an : Option Addr) (cdv ct : Value) (us : List Value) (hl : us.length = (["numbers"] : List Str).length) : bindArgs (PySem.W.fnOf "counted" "counted" (defArgs s_counted) (defBody s_counted) (defScope s_counted) .none kV doc pm an cdv ct) ⟨us, []⟩ = pure ((["numbers"] : List Str).zip us) := match us, hl with | [_], _ => rfl
theorem bd_list_customers (kV doc pm : Value) (an : Option Addr) (cdv ct : Value) (us : List Value) (hl : us.length = (["house", "place", "value"] : List Str).length) : bindArgs (PySem.W.fnOf "list_customers" "list_customers" (defArgs s_list_customers) (defBody s_list_customers) (defScope s_list_customers) .none kV doc pm an cdv ct) ⟨us, []⟩ = pure ((["house", "place", "value"] : List Str).zip us) := match us, hl with | [_, _, _], _ => rfl
theorem bd_list_recalled (kV doc pm : Value) (an : Option Addr) (cdv ct : Value) (us : List Value) (hl : us.length = (["house", "stage"] : List Str).length) : bindArgs (PySem.W.fnOf "list_recalled" "list_recalled" (defArgs s_list_recalled) (defBody s_list_recalled) (defScope s_list_recalled) .none kV doc pm an cdv ct) ⟨us, []⟩ = pure ((["house", "stage"] : List Str).zip us) := match us, hl with | [_, _], _ => rfl
theorem bd_list_rack (kV doc pm : Value) (an : Option Addr) (cdv ct : Value) (us : List Value) (hl : us.length = (["house", "rack_number"] : List Str).length) : bindArgs (PySem.W.fnOf "list_rack" "list_rack" (defArgs s_list_rack) (defBody s_list_rack) (defScope s_list_rack) .none kV doc pm an cdv ct) ⟨us, []⟩ = pure ((["house", "rack_number"] : List Str).zip us) := match us, hl with | [_, _], _ => rfl
theorem bd_list_with (kV doc pm : Value) (an : Option Addr) (cdv ct : Value) (us : List Value) (hl : us.length = (["house", "place", "value"] : List Str).length) : bindArgs (PySem.W.fnOf "list_with" "list_with" (defArgs s_list_with) (defBody s_list_with) (defScope s_list_with) .none kV doc pm an cdv ct) ⟨us, []⟩ = pure ((["house", "place", "value"] : List Str).zip us) := match us, hl with | [_, _, _], _ => rfl
theorem bd_list_sent_to (kV doc pm : Value) (an : Option Addr) (cdv ct : Value) (us : List Value) (hl : us.length = (["house", "customer"] : List Str).length) : bindArgs (PySem.W.fnOf "list_sent_to" "list_sent_to" (defArgs s_list_sent_to) (defBody s_list_sent_to) (defScope s_list_sent_to) .none kV doc pm an cdv ct) ⟨us, []⟩ = pure ((["house", "customer"] : List Str).zip us) := match us, hl with | [_, _], _ => rfl
theorem bd_tell_next (kV doc pm : Value) (an : Option Addr) (cdv ct : Value) (us : List Value) (hl : us.length = (["house"] : List Str).length) : bindArgs (PySem.W.fnOf "tell_next" "tell_next" (defArgs s_tell_next) (defBody s_tell_next) (defScope s_tell_next) .none kV doc pm an cdv ct) ⟨us, []⟩ = pure ((["house"] : List Str).zip us) := match us, hl with | [_], _ => rfl
theorem bd_look_at_tyre (kV doc pm : Value) (an : Option Addr) (cdv ct : Value) (us : List Value) (hl : us.length = (["house", "number"] : List Str).length) : bindArgs (PySem.W.fnOf "look_at_tyre" "look_at_tyre" (defArgs s_look_at_tyre) (defBody s_look_at_tyre) (defScope s_look_at_tyre) .none kV doc pm an cdv ct) ⟨us, []⟩ = pure ((["house", "number"] : List Str).zip us) := match us, hl with | [_, _], _ => rfl
theorem bd_tell_sums (kV doc pm : Value) (an : Option Addr) (cdv ct : Value) (us : List Value) (hl : us.length = (["house"] : List Str).length) : bindArgs (PySem.W.fnOf "tell_sums" "tell_sums" (defArgs s_tell_sums) (defBody s_tell_sums) (defScope s_tell_sums) .none kV doc pm an cdv ct) ⟨us, []⟩ = pure ((["house"] : List Str).zip us) := match us, hl with | [_], _ => rfl
theorem bd_tell_state (kV doc pm : Value) (an : Option Addr) (cdv ct : Value) (us : List Value) (hl : us.length = (["house"] : List Str).length) : bindArgs (PySem.W.fnOf "tell_state" "tell_state" (defArgs s_tell_state) (defBody s_tell_state) (defScope s_tell_state) .none kV doc pm an cdv ct) ⟨us, []⟩ = pure ((["house"] : List Str).zip us) := match us, hl with | [_], _ => rfl
theorem bd_mark_counts (kV doc pm : Value) (an : Option Addr) (cdv ct : Value) (us : List Value) (hl : us.length = (["house", "place", "value"] : List Str).length) : bindArgs (PySem.W.fnOf "mark_counts" "mark_counts" (defArgs s_mark_counts) (defBody s_mark_counts) (defScope s_mark_counts) .none kV doc pm an cdv ct) ⟨us, []⟩ = pure ((["house", "place", "value"] : List Str).zip us) := match us, hl with | [_, _, _], _ => rfl
theorem bd_rate_of_mark (kV doc pm : Value) (an : Option Addr) (cdv ct : Value) (us : List Value) (hl : us.length = (["house", "place", "value"] : List Str).length) : bindArgs (PySem.W.fnOf "rate_of_mark" "rate_of_mark" (defArgs s_rate_of_mark) (defBody s_rate_of_mark) (defScope s_rate_of_mark) .none kV doc pm an cdv ct) ⟨us, []⟩ = pure ((["house", "place", "value"] : List Str).zip us) := match us, hl with | [_, _, _], _ => rfl
theorem bd_rated_marks (kV doc pm : Value) (an : Option Addr) (cdv ct : Value) (us : List Value) (hl : us.length = (["house", "least"] : List Str).length) : bindArgs (PySem.W.fnOf "rated_marks" "rated_marks" (defArgs s_rated_marks) (defBody s_rated_marks) (defScope s_rated_marks) .none kV doc pm an cdv ct) ⟨us, []⟩ = pure ((["house", "least"] : List Str).zip us) := match us, hl with | [_, _], _ => rfl
theorem bd_worst_mark (kV doc pm : Value) (an : Option Addr) (cdv ct : Value) (us : List Value) (hl : us.length = (["house", "least"] : List Str).length) : bindArgs (PySem.W.fnOf "worst_mark" "worst_mark" (defArgs s_worst_mark) (defBody s_worst_mark) (defScope s_worst_mark) .none kV doc pm an cdv ct) ⟨us, []⟩ = pure ((["house", "least"] : List Str).zip us) := match us, hl with | [_, _], _ => rfl
theorem bd_add_rack (kV doc pm : Value) (an : Option Addr) (cdv ct : Value) (us : List Value) (hl : us.length = (["house", "size"] : List Str).length) : bindArgs (PySem.W.fnOf "add_rack" "add_rack" (defArgs s_add_rack) (defBody s_add_rack) (defScope s_add_rack) .none kV doc pm an cdv ct) ⟨us, []⟩ = pure ((["house", "size"] : List Str).zip us) := match us, hl with | [_, _], _ => rfl
theorem bd_are_five_marks (kV doc pm : Value) (an : Option Addr) (cdv ct : Value) (us : List Value) (hl : us.length = (["values"] : List Str).length) : bindArgs (PySem.W.fnOf "are_five_marks" "are_five_marks" (defArgs s_are_five_marks) (defBody s_are_five_marks) (defScope s_are_five_marks) .none kV doc pm an cdv ct) ⟨us, []⟩ = pure ((["values"] : List Str).zip us) := match us, hl with | [_], _ => rfl
theorem bd_put_tyre (kV doc pm : Value) (an : Option Addr) (cdv ct : Value) (us : List Value) (hl : us.length = (["house", "rack_number", "values"] : List Str).length) : bindArgs (PySem.W.fnOf "put_tyre" "put_tyre" (defArgs s_put_tyre) (defBody s_put_tyre) (defScope s_put_tyre) .none kV doc pm an cdv ct) ⟨us, []⟩ = pure ((["house", "rack_number", "values"] : List Str).zip us) := match us, hl with | [_, _, _], _ => rfl
theorem bd_move_tyre (kV doc pm : Value) (an : Option Addr) (cdv ct : Value) (us : List Value) (hl : us.length = (["house", "number", "rack_number"] : List Str).length) : bindArgs (PySem.W.fnOf "move_tyre" "move_tyre" (defArgs s_move_tyre) (defBody s_move_tyre) (defScope s_move_tyre) .none kV doc pm an cdv ct) ⟨us, []⟩ = pure ((["house", "number", "rack_number"] : List Str).zip us) := match us, hl with | [_, _, _], _ => rfl
theorem bd_pass_days (kV doc pm : Value) (an : Option Addr) (cdv ct : Value) (us : List Value) (hl : us.length = (["house", "days"] : List Str).length) : bindArgs (PySem.W.fnOf "pass_days" "pass_days" (defArgs s_pass_days) (defBody s_pass_days) (defScope s_pass_days) .none kV doc pm an cdv ct) ⟨us, []⟩ = pure ((["house", "days"] : List Str).zip us) := match us, hl with | [_, _], _ => rfl
theorem bd_call_end (kV doc pm : Value) (an : Option Addr) (cdv ct : Value) (us : List Value) (hl : us.length = (["calls", "start"] : List Str).length) : bindArgs (PySem.W.fnOf "call_end" "call_end" (defArgs s_call_end) (defBody s_call_end) (defScope s_call_end) .none kV doc pm an cdv ct) ⟨us, []⟩ = pure ((["calls", "start"] : List Str).zip us) := match us, hl with | [_, _], _ => rfl
theorem bd_answer_stocking (kV doc pm : Value) (an : Option Addr) (cdv ct : Value) (us : List Value) (hl : us.length = (["house", "call"] : List Str).length) : bindArgs (PySem.W.fnOf "answer_stocking" "answer_stocking" (defArgs s_answer_stocking) (defBody s_answer_stocking) (defScope s_answer_stocking) .none kV doc pm an cdv ct) ⟨us, []⟩ = pure ((["house", "call"] : List Str).zip us) := match us, hl with | [_, _], _ => rfl
theorem bd_answer_sending (kV doc pm : Value) (an : Option Addr) (cdv ct : Value) (us : List Value) (hl : us.length = (["house", "call"] : List Str).length) : bindArgs (PySem.W.fnOf "answer_sending" "answer_sending" (defArgs s_answer_sending) (defBody s_answer_sending) (defScope s_answer_sending) .none kV doc pm an cdv ct) ⟨us, []⟩ = pure ((["house", "call"] : List Str).zip us) := match us, hl with | [_, _], _ => rfl
theorem bd_answer_causes (kV doc pm : Value) (an : Option Addr) (cdv ct : Value) (us : List Value) (hl : us.length = (["house", "call"] : List Str).length) : bindArgs (PySem.W.fnOf "answer_causes" "answer_causes" (defArgs s_answer_causes) (defBody s_answer_causes) (defScope s_answer_causes) .none kV doc pm an cdv ct) ⟨us, []⟩ = pure ((["house", "call"] : List Str).zip us) := match us, hl with | [_, _], _ => rfl
theorem bd_answer_listing (kV doc pm : Value) (an : Option Addr) (cdv ct : Value) (us : List Value) (hl : us.length = (["house", "call"] : List Str).length) : bindArgs (PySem.W.fnOf "answer_listing" "answer_listing" (defArgs s_answer_listing) (defBody s_answer_listing) (defScope s_answer_listing) .none kV doc pm an cdv ct) ⟨us, []⟩ = pure ((["house", "call"] : List Str).zip us) := match us, hl with | [_, _], _ => rfl
theorem bd_answer_looking (kV doc pm : Value) (an : Option Addr) (cdv ct : Value) (us : List Value) (hl : us.length = (["house", "call"] : List Str).length) : bindArgs (PySem.W.fnOf "answer_looking" "answer_looking" (defArgs s_answer_looking) (defBody s_answer_looking) (defScope s_answer_looking) .none kV doc pm an cdv ct) ⟨us, []⟩ = pure ((["house", "call"] : List Str).zip us) := match us, hl with | [_, _], _ => rfl
theorem bd_answer_call (kV doc pm : Value) (an : Option Addr) (cdv ct : Value) (us : List Value) (hl : us.length = (["house", "call"] : List Str).length) : bindArgs (PySem.W.fnOf "answer_call" "answer_call" (defArgs s_answer_call) (defBody s_answer_call) (defScope s_answer_call) .none kV doc pm an cdv ct) ⟨us, []⟩ = pure ((["house", "call"] : List Str).zip us) := match us, hl with | [_, _], _ => rfl
theorem bd_answers (kV doc pm : Value) (an : Option Addr) (cdv ct : Value) (us : List Value) (hl : us.length = (["calls"] : List Str).length) : bindArgs (PySem.W.fnOf "answers" "answers" (defArgs s_answers) (defBody s_answers) (defScope s_answers) .none kV doc pm an cdv ct) ⟨us, []⟩ = pure ((["calls"] : List Str).zip us) := match us, hl with | [_], _ => rfl
theorem bd_tinit (kV doc pm : Value) (an : Option Addr) (cdv ct : Value) (us : List Value) (hl : us.length = (["self", "number", "marks", "rack_number", "day"] : List Str).length) : bindArgs (PySem.W.fnOf "__init__" "Tyre.__init__" (defArgs s_tinit) (defBody s_tinit) (defScope s_tinit) .none kV doc pm an cdv ct) ⟨us, []⟩ = pure ((["self", "number", "marks", "rack_number", "day"] : List Str).zip us) := match us, hl with | [_, _, _, _, _], _ => rfl
theorem bd_winit (kV doc pm : Value) (an : Option Addr) (cdv ct : Value) (us : List Value) (hl : us.length = (["self"] : List Str).length) : bindArgs (PySem.W.fnOf "__init__" "Warehouse.__init__" (defArgs s_winit) (defBody s_winit) (defScope s_winit) .none kV doc pm an cdv ct) ⟨us, []⟩ = pure ((["self"] : List Str).zip us) := match us, hl with | [_], _ => rfl
theorem row_mk {P : Program} {w : World} {K : PySem.W.Frag} {mg : Str → Option Value} {CT CW fT fW fa : Addr} (hfa : mg "answers" = some (.ref fa)) (T : Txt K mg CT CW fT fW) :
    ∃ fd : FuncData, (∀ (s : Shared) (us : List Value), us.length = (["calls"] : List Str).length → BindsTo s fd ⟨us, []⟩ ((["calls"] : List Str).zip us)) ∧ ∀ base : Heap, K.In base → base.Ns mainGlobals mg → FnOk P w K mg base CX0 9 fa fd ["calls"] (spAnswers K) := by
  obtain ⟨f, fd, F, b, m⟩ := T.d_answers
  have e := hfa.symm.trans m
  cases e
  obtain ⟨oc, od, kV, doc, pm, an, cdv, ct, osl, rfl, lk, hcd⟩ := F.ex
  exact ⟨_, fun s us hu => .of_eq (bd_answers _ _ _ _ _ _ us hu), fun base _ _ => ok_answers T F⟩
end Rt
end

section
set_option Elab.async false
set_option linter.all false
set_option maxRecDepth 100000
set_option maxHeartbeats 0
namespace Hx
open PySem PySem.W PyProof.Rows L2
open Rt (top s_tinit s_winit)
/-! ### what the top leaves on the heap, chunk by chunk -/
abbrev pw : Program := PySem.Challenge.pw_recalltyres_s01_answers
noncomputable def ap (l r : List Obj) : List Obj := @List.rec Obj (fun _ => List Obj) r (fun o _ ih => o :: ih) l
noncomputable def fl (l : List (List Obj)) : List Obj := @List.rec (List Obj) (fun _ => List Obj) [] (fun c _ ih => ap c ih) l
noncomputable def nth (l : List Obj) : Nat → Obj := @List.rec Obj (fun _ => Nat → Obj) (fun _ => default) (fun o _ ih i => @Nat.rec (fun _ => Obj) o (fun j _ => ih j) i) l
noncomputable def mkT (f : Nat → Obj) (n k : Nat) : Nat → Nat → BT := @Nat.rec (fun _ => Nat → Nat → BT) (fun _ _ => .nil)
  (fun _ ih a b => @Bool.rec (fun _ => BT) (.node (f b) (ih (Nat.mul 2 a) (Nat.add a b)) (ih (Nat.mul 2 a) (Nat.add (Nat.mul 2 a) b))) .nil (Nat.ble n b)) k
def iv (n : Nat) : Value := .int (Int.ofNat n) 0
def tpO (l : List Value) : Obj := ⟨.type "tuple", none, .seq ⟨l⟩ 0, ⟨[]⟩⟩
def fiO (c : Value) (l : List Value) : Obj := ⟨c, none, .fields ⟨l⟩, ⟨[]⟩⟩
def diO (l : List DictEntry) (n : Nat) : Obj := ⟨.type "dict", none, .dict ⟨l⟩ n, ⟨[]⟩⟩
def en (P : Params) (x : Str) (t : Nat) (v : Value) : DictEntry := ⟨PyData.keyHash P x, .str x t, v⟩
noncomputable def zv (l : List Str) : Nat → List Value := @List.rec Str (fun _ => Nat → List Value) (fun _ => []) (fun x _ ih t => .str x t :: ih (Nat.succ t)) l
noncomputable def zn (l : List Str) : Nat := @List.rec Str (fun _ => Nat) 0 (fun _ _ n => Nat.succ n) l
def frO (a b : Nat) (v : Value) : Obj := ⟨.type "frame", none, .plain, ⟨[some (.ref a), some (.ref 3), some (.ref b), none, some v, none, some (.ref 0)]⟩⟩
def cdO (x q : Str) (t ln na fn a : Nat) (b : Bool) (y z u : Value) (t' : Nat) : Obj := fiO (.type "code") [.str x t, .str q (Nat.add t 1), .str "/claim/cut.py" (Nat.add t 2), iv ln, iv na, iv 0, iv 0, iv fn, .ref a, .bool b, iv 181, .ref (Nat.add a 1), .none, y, z, u, iv t', iv ln, .str "/claim/cut.py" (Nat.add t' 1)]
def cdF (x q : Str) (t ln na a k : Nat) : Obj := cdO x q t ln na 3 a true (.ref (Nat.add a 2)) (.ref (Nat.add a 3)) (.ref (Nat.add a 4)) (Nat.add (Nat.add t 3) k)
def cdG (x q : Str) (t ln na a : Nat) : Obj := cdO x q t ln na 3 a true .none .none (.ref (Nat.add a 2)) (Nat.add t 3)
def fnA (x q : Str) (st : Stmt) : Obj := ⟨.none, none, .func { name := x, qualname := q, params := defArgs st, body := .stmts (defBody st), scope := defScope st, globals := 0, closure := [], defaults := .none, kwdefaults := .none }, ⟨[]⟩⟩
def fnB (x q : Str) (st : Stmt) (m : Value) (c : Nat) : Obj := ⟨.type "function", none, .func (fnOf x q (defArgs st) (defBody st) (defScope st) .none .none .none m none (.ref c) .none), ⟨[]⟩⟩
noncomputable def dfF (x q : Str) (st : Stmt) (m : Value) (t ln na a : Nat) (l : List Str) : List Obj := [tpO [], fiO .none [], tpO (zv l (Nat.add t 3)), tpO [], fnA x q st, cdF x q t ln na a (zn l), fnB x q st m (Nat.add a 5)]
def dfG (x q : Str) (st : Stmt) (m : Value) (t ln na a : Nat) : List Obj := [tpO [], fiO .none [], fnA x q st, cdG x q t ln na a, fnB x q st m (Nat.add a 3)]
def o11 : Obj := tpO []
def o13 : Obj := fiO (.type "code") [.str "<module>" 182, .str "<module>" 183, .str "/claim/cut.py" 184, .int 1 0, .int 0 0, .int 0 0, .int 0 0, .int 0 0, .ref 11, .bool false, .int 181 0, .ref 12, .none, .none, .none, .none, .int 185 0, .int 1 0, .str "/claim/cut.py" 186]
def o14 : Obj := frO 13 3 (.str "__main__" 164)
def o12a : Obj := fiO .none []
def o15 : Obj := tpO []
def o16 : Obj := fiO (.type "builtin_function_or_method") [.builtin "type.__prepare__", .type "type"]
def o17 (P : Params) : Obj := diO [en P "__module__" 237 (.str "recalltyres.warehouse" 214), en P "__qualname__" 239 (.str "Tyre" 238), en P "__firstlineno__" 241 (.int 18 240), en P "__init__" 252 (.ref 28), en P "__static_attributes__" 259 (.ref 29)] 5
def o18 : Obj := tpO []
def o19 : Obj := fiO .none [.int 20 0, .int 4 0, .ref 27]
def o20 : Obj := fiO (.type "code") [.str "Tyre" 232, .str "Tyre" 233, .str "/claim/cut.py" 234, .int 18 0, .int 0 0, .int 0 0, .int 0 0, .int 0 0, .ref 18, .bool false, .int 181 0, .ref 19, .none, .none, .none, .none, .int 235 0, .int 18 0, .str "/claim/cut.py" 236]
def o21 : Obj := frO 20 17 (.str "recalltyres.warehouse" 214)
def m0 : Value := .str "recalltyres.warehouse" 214
def o29 : Obj := tpO [.str "claimed" 253, .str "holder" 254, .str "marks" 255, .str "number" 256, .str "since" 257, .str "stage" 258]
def o30 (P : Params) : Obj := diO [en P "__module__" 237 (.str "recalltyres.warehouse" 214), en P "__firstlineno__" 241 (.int 18 240), en P "__init__" 252 (.ref 28), en P "__static_attributes__" 259 (.ref 29), en P "__dict__" 261 (.ref 32), en P "__weakref__" 263 (.ref 33), en P "__doc__" 264 .none] 4
def o31 : Obj := ⟨.type "type", none, .cls { name := "Tyre", bases := [.type "object"], mro := [.ref 31, .type "object"], ns := 30, qualname := "Tyre" }, ⟨[none, none, some (.str "Tyre" 230), some (.str "Tyre" 238), some (.builtin "object.__new__"), some (.bool true)]⟩⟩
def o32 : Obj := fiO (.type "getset_descriptor") [.str "__dict__" 260, .ref 31, .builtin "function.__dict__", .builtin "function.__dict__#set"]
def o33 : Obj := fiO (.type "getset_descriptor") [.str "__weakref__" 262, .ref 31, .builtin "ExceptionGroup.__weakref__", .none]
def o34 : Obj := fiO (.type "super") [.ref 31, .ref 31, .ref 31]
def o35 : Obj := fiO (.type "builtin_function_or_method") [.builtin "object.__init_subclass__", .ref 31]
def o36 : Obj := tpO []
def o37 : Obj := fiO (.type "builtin_function_or_method") [.builtin "type.__prepare__", .type "type"]
def o38 (P : Params) : Obj := diO [en P "__module__" 274 (.str "recalltyres.warehouse" 214), en P "__qualname__" 276 (.str "Warehouse" 275), en P "__firstlineno__" 278 (.int 27 277), en P "__init__" 285 (.ref 49), en P "__static_attributes__" 290 (.ref 50)] 5
def o39 : Obj := tpO []
def o40 : Obj := fiO .none [.int 29 0, .int 4 0, .ref 48]
def o41 : Obj := fiO (.type "code") [.str "Warehouse" 269, .str "Warehouse" 270, .str "/claim/cut.py" 271, .int 27 0, .int 0 0, .int 0 0, .int 0 0, .int 0 0, .ref 39, .bool false, .int 181 0, .ref 40, .none, .none, .none, .none, .int 272 0, .int 27 0, .str "/claim/cut.py" 273]
def o42 : Obj := frO 41 38 (.str "recalltyres.warehouse" 214)
def o50 : Obj := tpO [.str "day" 286, .str "recalled" 287, .str "sizes" 288, .str "tyres" 289]
def o51 (P : Params) : Obj := diO [en P "__module__" 274 (.str "recalltyres.warehouse" 214), en P "__firstlineno__" 278 (.int 27 277), en P "__init__" 285 (.ref 49), en P "__static_attributes__" 290 (.ref 50), en P "__dict__" 292 (.ref 53), en P "__weakref__" 294 (.ref 54), en P "__doc__" 295 .none] 4
def o52 : Obj := ⟨.type "type", none, .cls { name := "Warehouse", bases := [.type "object"], mro := [.ref 52, .type "object"], ns := 51, qualname := "Warehouse" }, ⟨[none, none, some (.str "Warehouse" 267), some (.str "Warehouse" 275), some (.builtin "object.__new__"), some (.bool true)]⟩⟩
def o53 : Obj := fiO (.type "getset_descriptor") [.str "__dict__" 291, .ref 52, .builtin "function.__dict__", .builtin "function.__dict__#set"]
def o54 : Obj := fiO (.type "getset_descriptor") [.str "__weakref__" 293, .ref 52, .builtin "ExceptionGroup.__weakref__", .none]
def o55 : Obj := fiO (.type "super") [.ref 52, .ref 52, .ref 52]
def o56 : Obj := fiO (.type "builtin_function_or_method") [.builtin "object.__init_subclass__", .ref 52]
def m1 : Value := .str "recalltyres.causes" 390
def m2 : Value := .str "recalltyres.sending" 465
def m3 : Value := .str "recalltyres.listing" 549
def m4 : Value := .str "recalltyres.looking" 610
def m5 : Value := .str "recalltyres.rates" 636
def m6 : Value := .str "recalltyres.stocking" 675
def o378 : Obj := tpO [.int 0 781, .int 1 782, .int 1 783, .int 2 784, .int 2 785, .int 3 786, .int 1 787, .int 1 788, .int 1 789, .int 2 790, .int 2 791, .int 0 792, .int 0 793, .int 0 794, .int 2 795, .int 1 796, .int 2 797, .int 0 798, .int 0 799, .int 1 800, .int 2 801, .int 1 802, .int 0 803, .int 1 804, .int 0 805, .int 0 806]
def m7 : Value := .str "recalltyres.store" 729
noncomputable def c15 (P : Params) : List Obj := [o15, o16, o17 P, o18, o19, o20, o21]
noncomputable def c22 : List Obj := dfF "__init__" "Tyre.__init__" s_tinit m0 242 20 5 22 ["self", "number", "marks", "rack_number", "day"]
noncomputable def c29 (P : Params) : List Obj := [o29, o30 P, o31, o32, o33, o34, o35, o36, o37, o38 P, o39, o40, o41, o42]
noncomputable def c43 : List Obj := dfF "__init__" "Warehouse.__init__" s_winit m0 279 29 1 43 ["self"]
noncomputable def c50 (P : Params) : List Obj := [o50, o51 P, o52, o53, o54, o55, o56]
noncomputable def c57 : List Obj := dfF "lacks_rack" "lacks_rack" (top 19) m0 298 34 2 57 ["house", "rack_number"]
noncomputable def c64 : List Obj := dfF "lacks_tyre" "lacks_tyre" (top 20) m0 306 36 2 64 ["house", "number"]
noncomputable def c71 : List Obj := dfF "is_no_mark" "is_no_mark" (top 21) m0 314 38 2 71 ["place", "value"]
noncomputable def c78 : List Obj := dfF "has_mark" "has_mark" (top 22) m0 322 40 3 78 ["tyre", "place", "value"]
noncomputable def c85 : List Obj := dfG "has_any" "has_any" (top 23) m0 331 42 2 85
noncomputable def c90 : List Obj := dfF "is_recalled" "is_recalled" (top 24) m0 337 44 2 90 ["house", "tyre"]
noncomputable def c97 : List Obj := dfG "tyres_with" "tyres_with" (top 25) m0 345 46 3 97
noncomputable def c102 : List Obj := dfG "count_at_stage" "count_at_stage" (top 26) m0 351 48 2 102
noncomputable def c107 : List Obj := dfG "claimed_tyres" "claimed_tyres" (top 27) m0 357 50 1 107
noncomputable def c112 : List Obj := dfF "was_sent" "was_sent" (top 28) m0 363 52 1 112 ["tyre"]
noncomputable def c119 : List Obj := dfG "tyres_held" "tyres_held" (top 29) m0 370 54 3 119
noncomputable def c124 : List Obj := dfF "room_left" "room_left" (top 30) m0 376 56 2 124 ["house", "rack_number"]
noncomputable def c131 : List Obj := dfG "marks_of" "marks_of" (top 31) m0 384 58 1 131
noncomputable def c136 : List Obj := dfG "have_all" "have_all" (top 33) m1 392 64 3 136
noncomputable def c141 : List Obj := dfG "shared_marks" "shared_marks" (top 34) m1 398 66 1 141
noncomputable def c146 : List Obj := dfF "common_marks" "common_marks" (top 35) m1 404 69 1 146 ["house", "claimed", "shared", "told", "mark"]
noncomputable def c153 : List Obj := dfF "count_with" "count_with" (top 36) m1 415 78 2 153 ["house", "mark"]
noncomputable def c160 : List Obj := dfF "narrowest_mark" "narrowest_mark" (top 37) m1 423 80 1 160 ["house", "claimed", "shared", "best", "mark"]
noncomputable def c167 : List Obj := dfG "second_marks" "second_marks" (top 38) m1 434 92 2 167
noncomputable def c172 : List Obj := dfG "explaining_pairs" "explaining_pairs" (top 39) m1 440 97 1 172
noncomputable def c177 : List Obj := dfG "count_with_either" "count_with_either" (top 40) m1 446 102 2 177
noncomputable def c182 : List Obj := dfF "explaining_marks" "explaining_marks" (top 41) m1 452 104 1 182 ["house", "claimed", "pairs", "best", "fewest", "pair", "count"]
noncomputable def c189 : List Obj := dfF "hand_over" "hand_over" (top 45) m2 471 122 3 189 ["house", "tyre", "customer", "left_rack"]
noncomputable def c196 : List Obj := dfF "send_tyre" "send_tyre" (top 46) m2 481 128 3 196 ["house", "number", "customer", "tyre"]
noncomputable def c203 : List Obj := dfG "sendable_tyres" "sendable_tyres" (top 47) m2 491 139 1 203
noncomputable def c208 : List Obj := dfF "oldest_tyre" "oldest_tyre" (top 48) m2 497 141 1 208 ["tyres", "best", "tyre"]
noncomputable def c215 : List Obj := dfG "send_oldest" "send_oldest" (top 49) m2 506 147 4 215
noncomputable def c220 : List Obj := dfF "claim_tyre" "claim_tyre" (top 50) m2 512 155 2 220 ["house", "number", "tyre"]
noncomputable def c227 : List Obj := dfF "take_back" "take_back" (top 51) m2 521 167 2 227 ["house", "number", "tyre"]
noncomputable def c234 : List Obj := dfF "recall_mark" "recall_mark" (top 52) m2 530 175 3 234 ["house", "place", "value", "affected"]
noncomputable def c241 : List Obj := dfF "lift_mark" "lift_mark" (top 53) m2 540 185 3 241 ["house", "place", "value"]
noncomputable def c248 : List Obj := dfG "numbers_of" "numbers_of" (top 55) m3 551 193 1 248
noncomputable def c253 : List Obj := dfF "counted" "counted" (top 56) m3 557 195 1 253 ["numbers"]
noncomputable def c260 : List Obj := dfG "list_customers" "list_customers" (top 57) m3 564 197 3 260
noncomputable def c265 : List Obj := dfG "list_recalled" "list_recalled" (top 58) m3 570 202 2 265
noncomputable def c270 : List Obj := dfF "list_rack" "list_rack" (top 59) m3 576 204 2 270 ["house", "rack_number"]
noncomputable def c277 : List Obj := dfF "list_with" "list_with" (top 60) m3 584 208 3 277 ["house", "place", "value"]
noncomputable def c284 : List Obj := dfF "list_sent_to" "list_sent_to" (top 61) m3 593 212 2 284 ["house", "customer"]
noncomputable def c291 : List Obj := dfF "tell_next" "tell_next" (top 62) m3 601 216 1 291 ["house", "sendable", "tyre"]
noncomputable def c298 : List Obj := dfF "look_at_tyre" "look_at_tyre" (top 64) m4 612 223 2 298 ["house", "number", "tyre", "claimed", "recalled"]
noncomputable def c305 : List Obj := dfG "tell_sums" "tell_sums" (top 65) m4 623 230 1 305
noncomputable def c310 : List Obj := dfF "tell_state" "tell_state" (top 66) m4 629 233 1 310 ["house"]
noncomputable def c317 : List Obj := dfG "mark_counts" "mark_counts" (top 68) m5 638 236 3 317
noncomputable def c322 : List Obj := dfF "rate_of_mark" "rate_of_mark" (top 69) m5 644 241 3 322 ["house", "place", "value"]
noncomputable def c329 : List Obj := dfF "rated_marks" "rated_marks" (top 70) m5 653 245 2 329 ["house", "least", "rated", "mark", "counts"]
noncomputable def c336 : List Obj := dfF "worst_mark" "worst_mark" (top 71) m5 664 252 2 336 ["house", "least", "rated", "best", "row"]
noncomputable def c343 : List Obj := dfF "add_rack" "add_rack" (top 77) m6 685 268 2 343 ["house", "size"]
noncomputable def c350 : List Obj := dfF "are_five_marks" "are_five_marks" (top 78) m6 693 275 1 350 ["values"]
noncomputable def c357 : List Obj := dfF "put_tyre" "put_tyre" (top 79) m6 700 277 3 357 ["house", "rack_number", "values", "number"]
noncomputable def c364 : List Obj := dfF "move_tyre" "move_tyre" (top 80) m6 710 287 3 364 ["house", "number", "rack_number", "tyre", "left_rack"]
noncomputable def c371 : List Obj := dfF "pass_days" "pass_days" (top 81) m6 721 300 2 371 ["house", "days"]
noncomputable def c378 : List Obj := [o378]
noncomputable def c379 : List Obj := dfF "call_end" "call_end" (top 109) m7 808 332 2 379 ["calls", "start", "number", "end"]
noncomputable def c386 : List Obj := dfF "answer_stocking" "answer_stocking" (top 110) m7 818 338 2 386 ["house", "call"]
noncomputable def c393 : List Obj := dfF "answer_sending" "answer_sending" (top 111) m7 826 346 2 393 ["house", "call"]
noncomputable def c400 : List Obj := dfF "answer_causes" "answer_causes" (top 112) m7 834 358 2 400 ["house", "call"]
noncomputable def c407 : List Obj := dfF "answer_listing" "answer_listing" (top 113) m7 842 368 2 407 ["house", "call"]
noncomputable def c414 : List Obj := dfF "answer_looking" "answer_looking" (top 114) m7 850 382 2 414 ["house", "call"]
noncomputable def c421 : List Obj := dfF "answer_call" "answer_call" (top 115) m7 858 388 2 421 ["house", "call"]
noncomputable def c428 : List Obj := dfF "answers" "answers" (top 116) m7 866 398 1 428 ["calls", "house", "told", "start", "end", "answer"]
def e0 (P : Params) (r : List DictEntry) : List DictEntry := en P "__name__" 165 (.str "recalltyres.store" 729) :: en P "__doc__" 166 .none :: en P "__package__" 167 .none :: en P "__loader__" 168 (.builtin "__main__.__loader__#opaque") :: en P "__spec__" 169 .none :: en P "__annotations__" 170 (.ref 6) :: en P "__builtins__" 171 (.ref 4) :: en P "__file__" 173 (.str "/claim/cut.py" 172) :: en P "__cached__" 174 .none :: en P "NO_SUCH" 189 (.int (-2) 188) :: en P "NONE_THERE" 192 (.int (-6) 191) :: en P "NOT_BEGUN" 195 (.int (-11) 194) :: en P "IS_RECALLED" 198 (.int (-13) 197) :: en P "NOT_SO" 201 (.int (-16) 200) :: en P "SO_ALREADY" 204 (.int (-17) 203) :: en P "OUT_OF_RANGE" 207 (.int (-22) 206) :: r
def e1 (P : Params) (r : List DictEntry) : List DictEntry := en P "TOO_MANY" 210 (.int (-28) 209) :: en P "NONE_FITS" 213 (.int (-33) 212) :: en P "PLACES" 217 (.int 5 216) :: en P "WEEK_PLACE" 219 (.int 4 218) :: en P "HIGHEST_VALUE" 221 (.int 99 220) :: en P "HIGHEST_CUSTOMER" 223 (.int 9 222) :: en P "IN_RACK" 225 (.int 0 224) :: en P "SENT" 227 (.int 1 226) :: en P "COME_BACK" 229 (.int 2 228) :: en P "Tyre" 266 (.ref 31) :: en P "Warehouse" 297 (.ref 52) :: en P "lacks_rack" 305 (.ref 63) :: en P "lacks_tyre" 313 (.ref 70) :: en P "is_no_mark" 321 (.ref 77) :: en P "has_mark" 330 (.ref 84) :: en P "has_any" 336 (.ref 89) :: r
def e2 (P : Params) (r : List DictEntry) : List DictEntry := en P "is_recalled" 344 (.ref 96) :: en P "tyres_with" 350 (.ref 101) :: en P "count_at_stage" 356 (.ref 106) :: en P "claimed_tyres" 362 (.ref 111) :: en P "was_sent" 369 (.ref 118) :: en P "tyres_held" 375 (.ref 123) :: en P "room_left" 383 (.ref 130) :: en P "marks_of" 389 (.ref 135) :: en P "have_all" 397 (.ref 140) :: en P "shared_marks" 403 (.ref 145) :: en P "common_marks" 414 (.ref 152) :: en P "count_with" 422 (.ref 159) :: en P "narrowest_mark" 433 (.ref 166) :: en P "second_marks" 439 (.ref 171) :: en P "explaining_pairs" 445 (.ref 176) :: en P "count_with_either" 451 (.ref 181) :: r
def e3 (P : Params) (r : List DictEntry) : List DictEntry := en P "explaining_marks" 464 (.ref 188) :: en P "MOST_CLAIMS" 468 (.int 20 467) :: en P "MOST_RECALLS" 470 (.int 10 469) :: en P "hand_over" 480 (.ref 195) :: en P "send_tyre" 490 (.ref 202) :: en P "sendable_tyres" 496 (.ref 207) :: en P "oldest_tyre" 505 (.ref 214) :: en P "send_oldest" 511 (.ref 219) :: en P "claim_tyre" 520 (.ref 226) :: en P "take_back" 529 (.ref 233) :: en P "recall_mark" 539 (.ref 240) :: en P "lift_mark" 548 (.ref 247) :: en P "numbers_of" 556 (.ref 252) :: en P "counted" 563 (.ref 259) :: en P "list_customers" 569 (.ref 264) :: en P "list_recalled" 575 (.ref 269) :: r
def e4 (P : Params) (r : List DictEntry) : List DictEntry := en P "list_rack" 583 (.ref 276) :: en P "list_with" 592 (.ref 283) :: en P "list_sent_to" 600 (.ref 290) :: en P "tell_next" 609 (.ref 297) :: en P "look_at_tyre" 622 (.ref 304) :: en P "tell_sums" 628 (.ref 309) :: en P "tell_state" 635 (.ref 316) :: en P "mark_counts" 643 (.ref 321) :: en P "rate_of_mark" 652 (.ref 328) :: en P "rated_marks" 663 (.ref 335) :: en P "worst_mark" 674 (.ref 342) :: en P "MOST_RACKS" 678 (.int 8 677) :: en P "LARGEST_RACK" 680 (.int 60 679) :: en P "MOST_TYRES" 682 (.int 60 681) :: en P "MOST_DAYS" 684 (.int 1000 683) :: en P "add_rack" 692 (.ref 349) :: r
def e5 (P : Params) (r : List DictEntry) : List DictEntry := en P "are_five_marks" 699 (.ref 356) :: en P "put_tyre" 709 (.ref 363) :: en P "move_tyre" 720 (.ref 370) :: en P "pass_days" 728 (.ref 377) :: en P "BEGIN" 732 (.int 0 731) :: en P "RACK" 734 (.int 1 733) :: en P "PUT" 736 (.int 2 735) :: en P "MOVE" 738 (.int 3 737) :: en P "SEND" 740 (.int 4 739) :: en P "OLDEST" 742 (.int 5 741) :: en P "DAYS" 744 (.int 6 743) :: en P "CLAIM" 746 (.int 7 745) :: en P "BACK" 748 (.int 8 747) :: en P "RECALL" 750 (.int 9 749) :: en P "LIFT" 752 (.int 10 751) :: en P "COMMON" 754 (.int 11 753) :: r
def e6 (P : Params) (r : List DictEntry) : List DictEntry := en P "NARROW" 756 (.int 12 755) :: en P "TWO" 758 (.int 13 757) :: en P "RATE" 760 (.int 14 759) :: en P "WORST" 762 (.int 15 761) :: en P "WHO" 764 (.int 16 763) :: en P "LEFT" 766 (.int 17 765) :: en P "BLOCKED" 768 (.int 18 767) :: en P "STOCK" 770 (.int 19 769) :: en P "WITH" 772 (.int 20 771) :: en P "SENT_TO" 774 (.int 21 773) :: en P "LOOK" 776 (.int 23 775) :: en P "SUMS" 778 (.int 24 777) :: en P "STATE" 780 (.int 25 779) :: en P "ARGUMENTS" 807 (.ref 378) :: en P "call_end" 817 (.ref 385) :: en P "answer_stocking" 825 (.ref 392) :: r
def e7 (P : Params) (r : List DictEntry) : List DictEntry := en P "answer_sending" 833 (.ref 399) :: en P "answer_causes" 841 (.ref 406) :: en P "answer_listing" 849 (.ref 413) :: en P "answer_looking" 857 (.ref 420) :: en P "answer_call" 865 (.ref 427) :: en P "answers" 877 (.ref 434) :: r
def o3 (P : Params) : Obj := diO (e0 P (e1 P (e2 P (e3 P (e4 P (e5 P (e6 P (e7 P [])))))))) 118
noncomputable def zt (l : List (Nat × Nat)) : List Value := @List.rec (Nat × Nat) (fun _ => List Value) [] (fun x _ ih => iv x.1 :: iv 0 :: .ref x.2 :: ih) l
noncomputable def o12 : Obj := fiO .none (zt ((18, 20) :: (27, 41) :: (34, 62) :: (36, 69) :: (38, 76) :: (40, 83) :: (42, 88) :: (44, 95) :: (46, 100) :: (48, 105) :: (50, 110) :: (52, 117) :: (54, 122) :: (56, 129) :: (58, 134) :: (64, 139) :: (66, 144) :: (69, 151) :: (78, 158) :: (80, 165) :: (92, 170) :: (97, 175) :: (102, 180) :: (104, 187) :: (122, 194) :: (128, 201) :: (139, 206) :: (141, 213) :: (147, 218) :: (155, 225) :: (167, 232) :: (175, 239) :: (185, 246) :: (193, 251) :: (195, 258) :: (197, 263) :: (202, 268) :: (204, 275) :: (208, 282) :: (212, 289) :: (216, 296) :: (223, 303) :: (230, 308) :: (233, 315) :: (236, 320) :: (241, 327) :: (245, 334) :: (252, 341) :: (268, 348) :: (275, 355) :: (277, 362) :: (287, 369) :: (300, 376) :: (332, 384) :: (338, 391) :: (346, 398) :: (358, 405) :: (368, 412) :: (382, 419) :: (388, 426) :: (398, 433) :: []))
noncomputable def bo (P : Params) : List Obj := [boot_o_0 P, boot_o_1 P, boot_o_2 P]
noncomputable def bp (P : Params) : List Obj := [boot_o_4 P, boot_o_5 P, boot_o_6 P, boot_o_7 P, boot_o_8 P, boot_o_9 P, boot_o_10 P, o11]
noncomputable def obA (P : Params) : List Obj := ap (bo P) (boot_o_3 P :: ap (bp P) [o12a, o13, o14])
noncomputable def g0 (P : Params) (r : List Obj) : List Obj := ap (c15 P) (ap c22 (ap (c29 P) (ap c43 (ap (c50 P) (ap c57 (ap c64 (ap c71 r)))))))
noncomputable def g1 (P : Params) (r : List Obj) : List Obj := ap c78 (ap c85 (ap c90 (ap c97 (ap c102 (ap c107 (ap c112 (ap c119 r)))))))
noncomputable def g2 (P : Params) (r : List Obj) : List Obj := ap c124 (ap c131 (ap c136 (ap c141 (ap c146 (ap c153 (ap c160 (ap c167 r)))))))
noncomputable def g3 (P : Params) (r : List Obj) : List Obj := ap c172 (ap c177 (ap c182 (ap c189 (ap c196 (ap c203 (ap c208 (ap c215 r)))))))
noncomputable def g4 (P : Params) (r : List Obj) : List Obj := ap c220 (ap c227 (ap c234 (ap c241 (ap c248 (ap c253 (ap c260 (ap c265 r)))))))
noncomputable def g5 (P : Params) (r : List Obj) : List Obj := ap c270 (ap c277 (ap c284 (ap c291 (ap c298 (ap c305 (ap c310 (ap c317 r)))))))
noncomputable def g6 (P : Params) (r : List Obj) : List Obj := ap c322 (ap c329 (ap c336 (ap c343 (ap c350 (ap c357 (ap c364 (ap c371 r)))))))
noncomputable def g7 (P : Params) (r : List Obj) : List Obj := ap c378 (ap c379 (ap c386 (ap c393 (ap c400 (ap c407 (ap c414 (ap c421 r)))))))
noncomputable def g8 (P : Params) (r : List Obj) : List Obj := ap c428 r
noncomputable def obF (P : Params) : List Obj := ap (bo P) (o3 P :: ap (bp P) (o12 :: o13 :: o14 :: g0 P (g1 P (g2 P (g3 P (g4 P (g5 P (g6 P (g7 P (g8 P []))))))))))
noncomputable def heA (P : Params) : Heap := ⟨⟨obA P⟩, {}⟩
noncomputable def heF (P : Params) : Heap := ⟨⟨obF P⟩, {}⟩
noncomputable def trA (P : Params) : BT := mkT (nth (obA P)) 15 10 1 0
noncomputable def trF (P : Params) : BT := mkT (nth (obF P)) 435 10 1 0
noncomputable def KK (P : Params) : Frag := (nat_lit 2, boot_o_2 P) :: (nat_lit 3, o3 P) :: (nat_lit 27, cdF "__init__" "Tyre.__init__" 242 20 5 22 5) :: (nat_lit 28, fnB "__init__" "Tyre.__init__" s_tinit m0 27) :: (nat_lit 29, o29) :: (nat_lit 30, o30 P) :: (nat_lit 31, o31) :: (nat_lit 32, o32) :: (nat_lit 33, o33) :: (nat_lit 48, cdF "__init__" "Warehouse.__init__" 279 29 1 43 1) :: (nat_lit 49, fnB "__init__" "Warehouse.__init__" s_winit m0 48) :: (nat_lit 50, o50) :: (nat_lit 51, o51 P) :: (nat_lit 52, o52) :: (nat_lit 53, o53) :: (nat_lit 54, o54) :: (nat_lit 62, cdF "lacks_rack" "lacks_rack" 298 34 2 57 2) :: (nat_lit 63, fnB "lacks_rack" "lacks_rack" (top 19) m0 62) :: (nat_lit 69, cdF "lacks_tyre" "lacks_tyre" 306 36 2 64 2) :: (nat_lit 70, fnB "lacks_tyre" "lacks_tyre" (top 20) m0 69) :: (nat_lit 76, cdF "is_no_mark" "is_no_mark" 314 38 2 71 2) :: (nat_lit 77, fnB "is_no_mark" "is_no_mark" (top 21) m0 76) :: (nat_lit 83, cdF "has_mark" "has_mark" 322 40 3 78 3) :: (nat_lit 84, fnB "has_mark" "has_mark" (top 22) m0 83) :: (nat_lit 88, cdG "has_any" "has_any" 331 42 2 85) :: (nat_lit 89, fnB "has_any" "has_any" (top 23) m0 88) :: (nat_lit 95, cdF "is_recalled" "is_recalled" 337 44 2 90 2) :: (nat_lit 96, fnB "is_recalled" "is_recalled" (top 24) m0 95) :: (nat_lit 100, cdG "tyres_with" "tyres_with" 345 46 3 97) :: (nat_lit 101, fnB "tyres_with" "tyres_with" (top 25) m0 100) :: (nat_lit 105, cdG "count_at_stage" "count_at_stage" 351 48 2 102) :: (nat_lit 106, fnB "count_at_stage" "count_at_stage" (top 26) m0 105) :: (nat_lit 110, cdG "claimed_tyres" "claimed_tyres" 357 50 1 107) :: (nat_lit 111, fnB "claimed_tyres" "claimed_tyres" (top 27) m0 110) :: (nat_lit 117, cdF "was_sent" "was_sent" 363 52 1 112 1) :: (nat_lit 118, fnB "was_sent" "was_sent" (top 28) m0 117) :: (nat_lit 122, cdG "tyres_held" "tyres_held" 370 54 3 119) :: (nat_lit 123, fnB "tyres_held" "tyres_held" (top 29) m0 122) :: (nat_lit 129, cdF "room_left" "room_left" 376 56 2 124 2) :: (nat_lit 130, fnB "room_left" "room_left" (top 30) m0 129) :: (nat_lit 134, cdG "marks_of" "marks_of" 384 58 1 131) :: (nat_lit 135, fnB "marks_of" "marks_of" (top 31) m0 134) :: (nat_lit 139, cdG "have_all" "have_all" 392 64 3 136) :: (nat_lit 140, fnB "have_all" "have_all" (top 33) m1 139) :: (nat_lit 144, cdG "shared_marks" "shared_marks" 398 66 1 141) :: (nat_lit 145, fnB "shared_marks" "shared_marks" (top 34) m1 144) :: (nat_lit 151, cdF "common_marks" "common_marks" 404 69 1 146 5) :: (nat_lit 152, fnB "common_marks" "common_marks" (top 35) m1 151) :: (nat_lit 158, cdF "count_with" "count_with" 415 78 2 153 2) :: (nat_lit 159, fnB "count_with" "count_with" (top 36) m1 158) :: (nat_lit 165, cdF "narrowest_mark" "narrowest_mark" 423 80 1 160 5) :: (nat_lit 166, fnB "narrowest_mark" "narrowest_mark" (top 37) m1 165) :: (nat_lit 170, cdG "second_marks" "second_marks" 434 92 2 167) :: (nat_lit 171, fnB "second_marks" "second_marks" (top 38) m1 170) :: (nat_lit 175, cdG "explaining_pairs" "explaining_pairs" 440 97 1 172) :: (nat_lit 176, fnB "explaining_pairs" "explaining_pairs" (top 39) m1 175) :: (nat_lit 180, cdG "count_with_either" "count_with_either" 446 102 2 177) :: (nat_lit 181, fnB "count_with_either" "count_with_either" (top 40) m1 180) :: (nat_lit 187, cdF "explaining_marks" "explaining_marks" 452 104 1 182 7) :: (nat_lit 188, fnB "explaining_marks" "explaining_marks" (top 41) m1 187) :: (nat_lit 194, cdF "hand_over" "hand_over" 471 122 3 189 4) :: (nat_lit 195, fnB "hand_over" "hand_over" (top 45) m2 194) :: (nat_lit 201, cdF "send_tyre" "send_tyre" 481 128 3 196 4) :: (nat_lit 202, fnB "send_tyre" "send_tyre" (top 46) m2 201) :: (nat_lit 206, cdG "sendable_tyres" "sendable_tyres" 491 139 1 203) :: (nat_lit 207, fnB "sendable_tyres" "sendable_tyres" (top 47) m2 206) :: (nat_lit 213, cdF "oldest_tyre" "oldest_tyre" 497 141 1 208 3) :: (nat_lit 214, fnB "oldest_tyre" "oldest_tyre" (top 48) m2 213) :: (nat_lit 218, cdG "send_oldest" "send_oldest" 506 147 4 215) :: (nat_lit 219, fnB "send_oldest" "send_oldest" (top 49) m2 218) :: (nat_lit 225, cdF "claim_tyre" "claim_tyre" 512 155 2 220 3) :: (nat_lit 226, fnB "claim_tyre" "claim_tyre" (top 50) m2 225) :: (nat_lit 232, cdF "take_back" "take_back" 521 167 2 227 3) :: (nat_lit 233, fnB "take_back" "take_back" (top 51) m2 232) :: (nat_lit 239, cdF "recall_mark" "recall_mark" 530 175 3 234 4) :: (nat_lit 240, fnB "recall_mark" "recall_mark" (top 52) m2 239) :: (nat_lit 246, cdF "lift_mark" "lift_mark" 540 185 3 241 3) :: (nat_lit 247, fnB "lift_mark" "lift_mark" (top 53) m2 246) :: (nat_lit 251, cdG "numbers_of" "numbers_of" 551 193 1 248) :: (nat_lit 252, fnB "numbers_of" "numbers_of" (top 55) m3 251) :: (nat_lit 258, cdF "counted" "counted" 557 195 1 253 1) :: (nat_lit 259, fnB "counted" "counted" (top 56) m3 258) :: (nat_lit 263, cdG "list_customers" "list_customers" 564 197 3 260) :: (nat_lit 264, fnB "list_customers" "list_customers" (top 57) m3 263) :: (nat_lit 268, cdG "list_recalled" "list_recalled" 570 202 2 265) :: (nat_lit 269, fnB "list_recalled" "list_recalled" (top 58) m3 268) :: (nat_lit 275, cdF "list_rack" "list_rack" 576 204 2 270 2) :: (nat_lit 276, fnB "list_rack" "list_rack" (top 59) m3 275) :: (nat_lit 282, cdF "list_with" "list_with" 584 208 3 277 3) :: (nat_lit 283, fnB "list_with" "list_with" (top 60) m3 282) :: (nat_lit 289, cdF "list_sent_to" "list_sent_to" 593 212 2 284 2) :: (nat_lit 290, fnB "list_sent_to" "list_sent_to" (top 61) m3 289) :: (nat_lit 296, cdF "tell_next" "tell_next" 601 216 1 291 3) :: (nat_lit 297, fnB "tell_next" "tell_next" (top 62) m3 296) :: (nat_lit 303, cdF "look_at_tyre" "look_at_tyre" 612 223 2 298 5) :: (nat_lit 304, fnB "look_at_tyre" "look_at_tyre" (top 64) m4 303) :: (nat_lit 308, cdG "tell_sums" "tell_sums" 623 230 1 305) :: (nat_lit 309, fnB "tell_sums" "tell_sums" (top 65) m4 308) :: (nat_lit 315, cdF "tell_state" "tell_state" 629 233 1 310 1) :: (nat_lit 316, fnB "tell_state" "tell_state" (top 66) m4 315) :: (nat_lit 320, cdG "mark_counts" "mark_counts" 638 236 3 317) :: (nat_lit 321, fnB "mark_counts" "mark_counts" (top 68) m5 320) :: (nat_lit 327, cdF "rate_of_mark" "rate_of_mark" 644 241 3 322 3) :: (nat_lit 328, fnB "rate_of_mark" "rate_of_mark" (top 69) m5 327) :: (nat_lit 334, cdF "rated_marks" "rated_marks" 653 245 2 329 5) :: (nat_lit 335, fnB "rated_marks" "rated_marks" (top 70) m5 334) :: (nat_lit 341, cdF "worst_mark" "worst_mark" 664 252 2 336 5) :: (nat_lit 342, fnB "worst_mark" "worst_mark" (top 71) m5 341) :: (nat_lit 348, cdF "add_rack" "add_rack" 685 268 2 343 2) :: (nat_lit 349, fnB "add_rack" "add_rack" (top 77) m6 348) :: (nat_lit 355, cdF "are_five_marks" "are_five_marks" 693 275 1 350 1) :: (nat_lit 356, fnB "are_five_marks" "are_five_marks" (top 78) m6 355) :: (nat_lit 362, cdF "put_tyre" "put_tyre" 700 277 3 357 4) :: (nat_lit 363, fnB "put_tyre" "put_tyre" (top 79) m6 362) :: (nat_lit 369, cdF "move_tyre" "move_tyre" 710 287 3 364 5) :: (nat_lit 370, fnB "move_tyre" "move_tyre" (top 80) m6 369) :: (nat_lit 376, cdF "pass_days" "pass_days" 721 300 2 371 2) :: (nat_lit 377, fnB "pass_days" "pass_days" (top 81) m6 376) :: (nat_lit 378, o378) :: (nat_lit 384, cdF "call_end" "call_end" 808 332 2 379 4) :: (nat_lit 385, fnB "call_end" "call_end" (top 109) m7 384) :: (nat_lit 391, cdF "answer_stocking" "answer_stocking" 818 338 2 386 2) :: (nat_lit 392, fnB "answer_stocking" "answer_stocking" (top 110) m7 391) :: (nat_lit 398, cdF "answer_sending" "answer_sending" 826 346 2 393 2) :: (nat_lit 399, fnB "answer_sending" "answer_sending" (top 111) m7 398) :: (nat_lit 405, cdF "answer_causes" "answer_causes" 834 358 2 400 2) :: (nat_lit 406, fnB "answer_causes" "answer_causes" (top 112) m7 405) :: (nat_lit 412, cdF "answer_listing" "answer_listing" 842 368 2 407 2) :: (nat_lit 413, fnB "answer_listing" "answer_listing" (top 113) m7 412) :: (nat_lit 419, cdF "answer_looking" "answer_looking" 850 382 2 414 2) :: (nat_lit 420, fnB "answer_looking" "answer_looking" (top 114) m7 419) :: (nat_lit 426, cdF "answer_call" "answer_call" 858 388 2 421 2) :: (nat_lit 427, fnB "answer_call" "answer_call" (top 115) m7 426) :: (nat_lit 433, cdF "answers" "answers" 866 398 1 428 6) :: (nat_lit 434, fnB "answers" "answers" (top 116) m7 433) :: []
def KA : List Addr := nat_lit 2 :: nat_lit 3 :: nat_lit 27 :: nat_lit 28 :: nat_lit 29 :: nat_lit 30 :: nat_lit 31 :: nat_lit 32 :: nat_lit 33 :: nat_lit 48 :: nat_lit 49 :: nat_lit 50 :: nat_lit 51 :: nat_lit 52 :: nat_lit 53 :: nat_lit 54 :: nat_lit 62 :: nat_lit 63 :: nat_lit 69 :: nat_lit 70 :: nat_lit 76 :: nat_lit 77 :: nat_lit 83 :: nat_lit 84 :: nat_lit 88 :: nat_lit 89 :: nat_lit 95 :: nat_lit 96 :: nat_lit 100 :: nat_lit 101 :: nat_lit 105 :: nat_lit 106 :: nat_lit 110 :: nat_lit 111 :: nat_lit 117 :: nat_lit 118 :: nat_lit 122 :: nat_lit 123 :: nat_lit 129 :: nat_lit 130 :: nat_lit 134 :: nat_lit 135 :: nat_lit 139 :: nat_lit 140 :: nat_lit 144 :: nat_lit 145 :: nat_lit 151 :: nat_lit 152 :: nat_lit 158 :: nat_lit 159 :: nat_lit 165 :: nat_lit 166 :: nat_lit 170 :: nat_lit 171 :: nat_lit 175 :: nat_lit 176 :: nat_lit 180 :: nat_lit 181 :: nat_lit 187 :: nat_lit 188 :: nat_lit 194 :: nat_lit 195 :: nat_lit 201 :: nat_lit 202 :: nat_lit 206 :: nat_lit 207 :: nat_lit 213 :: nat_lit 214 :: nat_lit 218 :: nat_lit 219 :: nat_lit 225 :: nat_lit 226 :: nat_lit 232 :: nat_lit 233 :: nat_lit 239 :: nat_lit 240 :: nat_lit 246 :: nat_lit 247 :: nat_lit 251 :: nat_lit 252 :: nat_lit 258 :: nat_lit 259 :: nat_lit 263 :: nat_lit 264 :: nat_lit 268 :: nat_lit 269 :: nat_lit 275 :: nat_lit 276 :: nat_lit 282 :: nat_lit 283 :: nat_lit 289 :: nat_lit 290 :: nat_lit 296 :: nat_lit 297 :: nat_lit 303 :: nat_lit 304 :: nat_lit 308 :: nat_lit 309 :: nat_lit 315 :: nat_lit 316 :: nat_lit 320 :: nat_lit 321 :: nat_lit 327 :: nat_lit 328 :: nat_lit 334 :: nat_lit 335 :: nat_lit 341 :: nat_lit 342 :: nat_lit 348 :: nat_lit 349 :: nat_lit 355 :: nat_lit 356 :: nat_lit 362 :: nat_lit 363 :: nat_lit 369 :: nat_lit 370 :: nat_lit 376 :: nat_lit 377 :: nat_lit 378 :: nat_lit 384 :: nat_lit 385 :: nat_lit 391 :: nat_lit 392 :: nat_lit 398 :: nat_lit 399 :: nat_lit 405 :: nat_lit 406 :: nat_lit 412 :: nat_lit 413 :: nat_lit 419 :: nat_lit 420 :: nat_lit 426 :: nat_lit 427 :: nat_lit 433 :: nat_lit 434 :: []
theorem KA_eq (P : Params) : KA = (KK P).map (·.1) := by kernel_rfl
def qq : Program := { pw with main := { pw.main with body := top 0 :: top 1 :: top 2 :: top 3 :: top 4 :: top 5 :: top 6 :: top 7 :: top 8 :: top 10 :: top 11 :: top 12 :: top 13 :: top 14 :: top 15 :: top 16 :: top 17 :: top 18 :: top 19 :: top 20 :: top 21 :: top 22 :: top 23 :: top 24 :: top 25 :: top 26 :: top 27 :: top 28 :: top 29 :: top 30 :: top 31 :: top 33 :: top 34 :: top 35 :: top 36 :: top 37 :: top 38 :: top 39 :: top 40 :: top 41 :: top 43 :: top 44 :: top 45 :: top 46 :: top 47 :: top 48 :: top 49 :: top 50 :: top 51 :: top 52 :: top 53 :: top 55 :: top 56 :: top 57 :: top 58 :: top 59 :: top 60 :: top 61 :: top 62 :: top 64 :: top 65 :: top 66 :: top 68 :: top 69 :: top 70 :: top 71 :: top 73 :: top 74 :: top 75 :: top 76 :: top 77 :: top 78 :: top 79 :: top 80 :: top 81 :: top 83 :: top 84 :: top 85 :: top 86 :: top 87 :: top 88 :: top 89 :: top 90 :: top 91 :: top 92 :: top 93 :: top 94 :: top 95 :: top 96 :: top 97 :: top 98 :: top 99 :: top 100 :: top 101 :: top 102 :: top 103 :: top 104 :: top 105 :: top 106 :: top 107 :: top 108 :: top 109 :: top 110 :: top 111 :: top 112 :: top 113 :: top 114 :: top 115 :: top 116 :: [] } }
end Hx
end

section
set_option Elab.async false
set_option linter.all false
set_option maxRecDepth 100000
set_option maxHeartbeats 0
namespace Hx
open PySem PySem.W PyProof.Rows L2
/-! ### the top's run, by the quick twins -/
def ev : Env := { scope := pw.main.scope, locals := mainNs, globals := mainNs, cells := [], code := .ref 13, frame := some 14 }
def cB : Code := .body (behindTheImports pw) ev
abbrev z0 : Pos := ⟨0, 0, 0, 0⟩
abbrev z1 : Pos := ⟨398, 0, 414, 15⟩
noncomputable abbrev sA (w : World) (os : OsState) : SharedT := ⟨trA w.params, 15, {}, ⟨[]⟩, {}, 187, os⟩
noncomputable abbrev sF (w : World) (os : OsState) : SharedT := ⟨trF w.params, 435, {}, ⟨[]⟩, {}, 878, os⟩
noncomputable abbrev hF (w : World) (os : OsState) : Shared := ⟨heF w.params, ⟨[]⟩, {}, 878, os⟩
noncomputable abbrev hA (w : World) (os : OsState) : Shared := ⟨heA w.params, ⟨[]⟩, {}, 187, os⟩
noncomputable def preL (w : World) (os : OsState) := topGo treeTable pw w 11 (some (.ref 6)) 12 (⟨boot_heap w.params, ⟨[]⟩, boot_drawn, boot_toks, os⟩ : Shared) (topStub pw)
noncomputable def preR (w : World) (os : OsState) : Option (Shared × Thread) := some (hA w os, ⟨denote treeTable cB, cB, z0, [topFrame z0]⟩)
noncomputable def blkL (w : World) (os : OsState) := segRun treeTable pw w 11 (some (.ref 6)) 1 1 (hA w os) (blockOf (behindTheImports pw) ev cB z0 [topFrame z0])
noncomputable def blkR (w : World) (os : OsState) : Option (Flow × Shared × Code × Pos) := some (.next, (sA w os).abs, cB, z0)
noncomputable def runL (w : World) (os : OsState) := segRunT treeTable pw w 11 (some (.ref 6)) 1 2770 (sA w os) (piecesOf (behindTheImports pw) ev cB z0 [topFrame z0])
noncomputable def runR (w : World) (os : OsState) : Option (Flow × SharedT × Code × Pos) := some (.next, sF w os, cB, z1)
noncomputable def finL (w : World) (os : OsState) := topRun treeTable pw w 11 (some (.ref 6)) 2 (sF w os).abs ⟨doneF .next, cB, z1, [topFrame z0]⟩
noncomputable def finR (w : World) (os : OsState) : Option Shared := some (hF w os)
noncomputable def sizL (w : World) := ((boot_heap w.params).isNs mainGlobals && (⟨[]⟩ : Array GenState).size == 0, (boot_heap w.params).objs.size, (boot_heap w.params).nsMap mainGlobals "__annotations__")
noncomputable def loaL (w : World) (os : OsState) := (staticsOk (importedModules pw.main.body) (boot_heap w.params) (heF w.params) && namesBound pw (heF w.params) && gensDone (hF w os) && laidKept (boot_heap w.params) (heF w.params))
noncomputable def lobL (w : World) (os : OsState) := openSeen qq [] (importedModules pw.main.body) (fun s => xlAt qq [] s && recOk [] s) true (hF w os)
def r0 := expectedOf qq
def r4 := pinGoodD (drecsOf qq)
def r5 := plainGoodE qq (looseW qq [])
def r6 := plainGoodD qq []
def r7 := wideGood qq
def r8 := clsGoodW qq []
lay_quick Hx.preL Hx.preR
lay_quick Hx.blkL Hx.blkR
lay_quick Hx.runL Hx.runR
lay_quick Hx.finL Hx.finR
lay_quick Hx.sizL
lay_quick Hx.loaL Hx.lobL Hx.r0 Hx.r4 Hx.r5 Hx.r6 Hx.r7 Hx.r8
end Hx
end

section
set_option Elab.async false
set_option linter.all false
set_option maxRecDepth 100000
set_option maxHeartbeats 0
namespace Hx
open PySem PySem.W PyProof.Rows L2
theorem pre_q : PySem.W.Fast.tw1509008550803214621 = PySem.W.Fast.tw18149762561257409408 := by kernel_rfl
theorem pre_e : preL = preR := PySem.W.Fast.te1509008550803214621.trans (pre_q.trans PySem.W.Fast.te18149762561257409408.symm)
theorem blk_q : PySem.W.Fast.tw2819257134376118103 = PySem.W.Fast.tw9435446195776036621 := by kernel_rfl
theorem blk_e : blkL = blkR := PySem.W.Fast.te2819257134376118103.trans (blk_q.trans PySem.W.Fast.te9435446195776036621.symm)
theorem run_q : PySem.W.Fast.tw13475007227569429276 = PySem.W.Fast.tw5990402284553328279 := by kernel_rfl
theorem run_e : runL = runR := PySem.W.Fast.te13475007227569429276.trans (run_q.trans PySem.W.Fast.te5990402284553328279.symm)
theorem fin_q : PySem.W.Fast.tw13717605065751652268 = PySem.W.Fast.tw16238109567339334368 := by kernel_rfl
theorem fin_e : finL = finR := PySem.W.Fast.te13717605065751652268.trans (fin_q.trans PySem.W.Fast.te16238109567339334368.symm)
theorem siz_q (w : World) : PySem.W.Fast.tw4200611202982231876 w = (true, 11, some (.ref 6)) := by kernel_rfl
theorem siz_e (w : World) : sizL w = (true, 11, some (.ref 6)) := (congrFun PySem.W.Fast.te4200611202982231876 w).trans (siz_q w)
theorem loa_q (w : World) (os : OsState) : PySem.W.Fast.tw1855555585144722596 w os = true := by kernel_rfl
theorem loa_e (w : World) (os : OsState) : loaL w os = true := (congrFun (congrFun PySem.W.Fast.te1855555585144722596 w) os).trans (loa_q w os)
theorem lob0 (w : World) (os : OsState) : (PySem.W.Fast.tw17884162555591424386 w os).1 = PySem.W.Fast.tw10738365021955634980 := by kernel_rfl
theorem lob1 (w : World) (os : OsState) : (PySem.W.Fast.tw17884162555591424386 w os).2.1 = bltViewBooted := by kernel_rfl
theorem lob2 (w : World) (os : OsState) : (PySem.W.Fast.tw17884162555591424386 w os).2.2.1 = true := by kernel_rfl
theorem lob3 (w : World) (os : OsState) : (PySem.W.Fast.tw17884162555591424386 w os).2.2.2.1 = true := by kernel_rfl
theorem lob4 (w : World) (os : OsState) : (PySem.W.Fast.tw17884162555591424386 w os).2.2.2.2.1 = PySem.W.Fast.tw6246163415468005045 := by kernel_rfl
theorem lob5 (w : World) (os : OsState) : (PySem.W.Fast.tw17884162555591424386 w os).2.2.2.2.2.1 = PySem.W.Fast.tw8317304562312732480 := by kernel_rfl
theorem lob6 (w : World) (os : OsState) : (PySem.W.Fast.tw17884162555591424386 w os).2.2.2.2.2.2.1 = PySem.W.Fast.tw3731540215136192037 := by kernel_rfl
theorem lob7 (w : World) (os : OsState) : (PySem.W.Fast.tw17884162555591424386 w os).2.2.2.2.2.2.2.1 = PySem.W.Fast.tw5422308747838493471 := by kernel_rfl
theorem lob8 (w : World) (os : OsState) : (PySem.W.Fast.tw17884162555591424386 w os).2.2.2.2.2.2.2.2 = PySem.W.Fast.tw10701728776825617757 := by kernel_rfl
theorem lob_e (w : World) (os : OsState) : lobL w os = (r0, bltViewBooted, true, true, r4, r5, r6, r7, r8) := (congrFun (congrFun PySem.W.Fast.te17884162555591424386 w) os).trans (Prod.ext ((lob0 w os).trans PySem.W.Fast.te10738365021955634980.symm) (Prod.ext (lob1 w os) (Prod.ext (lob2 w os) (Prod.ext (lob3 w os) (Prod.ext ((lob4 w os).trans PySem.W.Fast.te6246163415468005045.symm) (Prod.ext ((lob5 w os).trans PySem.W.Fast.te8317304562312732480.symm) (Prod.ext ((lob6 w os).trans PySem.W.Fast.te3731540215136192037.symm) (Prod.ext ((lob7 w os).trans PySem.W.Fast.te5422308747838493471.symm) ((lob8 w os).trans PySem.W.Fast.te10701728776825617757.symm)))))))))
theorem loc_e (w : World) (os : OsState) : KA.map (hF w os).heap.get? = (KK w.params).map fun p => some p.2 := by kernel_rfl
end Hx
end

section
set_option Elab.async false
set_option linter.all false
set_option maxRecDepth 100000
set_option maxHeartbeats 0
namespace Hx
open PySem PySem.W PyProof.Rows L2
theorem pre_t (w : World) (os : OsState) : topGo treeTable pw w 11 (some (.ref 6)) 12 (⟨boot_heap w.params, ⟨[]⟩, boot_drawn, boot_toks, os⟩ : Shared) (topStub pw) = some (hA w os, ⟨denote treeTable cB, cB, z0, [topFrame z0]⟩) := congrFun (congrFun pre_e w) os
theorem blk_t (w : World) (os : OsState) : segRun treeTable pw w 11 (some (.ref 6)) 1 1 (hA w os) (blockOf (behindTheImports pw) ev cB z0 [topFrame z0]) = some (.next, (sA w os).abs, cB, z0) := congrFun (congrFun blk_e w) os
theorem run_t (w : World) (os : OsState) : segRunT treeTable pw w 11 (some (.ref 6)) 1 2770 (sA w os) (piecesOf (behindTheImports pw) ev cB z0 [topFrame z0]) = some (.next, sF w os, cB, z1) := congrFun (congrFun run_e w) os
theorem fin_t (w : World) (os : OsState) : topRun treeTable pw w 11 (some (.ref 6)) 2 (sF w os).abs ⟨doneF .next, cB, z1, [topFrame z0]⟩ = some (hF w os) := congrFun (congrFun fin_e w) os
theorem rest_t (w : World) (os : OsState) : topRun treeTable pw w 11 (some (.ref 6)) (2770 + 2) (sA w os).abs (restOf (behindTheImports pw) ev cB z0 [topFrame z0]) = some (hF w os) := by
  have h := piece_app (rest := []) (segRun_of (run_t w os)) (piece_nil (fin_t w os))
  rw [List.append_nil] at h
  exact h
theorem top_t (w : World) (os : OsState) : topRun treeTable pw w 11 (some (.ref 6)) (12 + (1 + (2770 + 2))) (⟨boot_heap w.params, ⟨[]⟩, boot_drawn, boot_toks, os⟩ : Shared) (topStub pw) = some (hF w os) :=
  go_top (pre_t w os) (piece_block (blk_t w os) (rest_t w os))
theorem op_e : opening pw = plainProg pw.main.scope.names := by kernel_rfl
theorem op_f (s : Shared) : fenceModules? pw s = some s := by kernel_rfl
theorem left : LeftO pw qq [] (fun s => xlAt qq [] s && recOk [] s) (kHook KK KA KA_eq).obs (kHook KK KA KA_eq).val 5664 :=
  LeftO.of_pieces (boot_open op_e (by decide +kernel) op_f) siz_e top_t (by decide +kernel) (fun w => funext fun os => Prod.ext (loa_e w os) (Prod.ext (lob_e w os) (loc_e w os)))
end Hx
end

section
set_option Elab.async false
set_option linter.all false
open PySem PySem.W PyProof.Rows
theorem Rt.na_mk {K : PySem.W.Frag} {C : Addr} {f : Str} (h : PySem.W.findIn K (.ref C) f = some none) : L2.NoAttr K C f := h
set_option maxRecDepth 100000 in
set_option maxHeartbeats 0 in
theorem PySem.Challenge.cw_recalltyres_s01_answers_holds : PySem.Challenge.rw_recalltyres_s01_answers.Holds := by
  refine holds_os (r := PySem.Challenge.rw_recalltyres_s01_answers) (q := Hx.qq) (loose := []) (Xt := fun s => xlAt Hx.qq [] s && recOk [] s) (XP := XL Hx.qq [])
    (Yf := (kHook Hx.KK Hx.KA Hx.KA_eq).obs) (Ya := (kHook Hx.KK Hx.KA Hx.KA_eq).val) (YP := (kHook Hx.KK Hx.KA Hx.KA_eq).says) (N := 5664) Hx.left (kHook Hx.KK Hx.KA Hx.KA_eq).of (kHook Hx.KK Hx.KA Hx.KA_eq).keeps
    (fun s e => xl_of s (Bool.and_eq_true_iff.mp e).1) XL.keeps (by rfl) (by rfl) (by rfl) (fun s e => recFacts_of (Bool.and_eq_true_iff.mp e).2) os_shapes (by decide +kernel) (by decide +kernel)
    ⟨rfl, rfl, rfl, rfl, rfl, by decide +kernel⟩ ⟨[.list [.int 0]], by decide +kernel, by decide +kernel⟩ ?hc
  k_fillS
  refine L2.walk_specK (r := PySem.Challenge.rw_recalltyres_s01_answers) (k := 9) (CX := L2.CX0) (ps := ["calls"]) (sp := Rt.spAnswers) (by decide +kernel) rfl rfl ⟨rfl, by decide, by decide⟩ (fun w h Y => PySem.W.kIn_of Y) ?F ?S (fun _ _ _ _ z => z)
  case S =>
    intro K H xs a hO hwi hask hx
    cases hx with
    | cons h1 h2 =>
      cases h2
      cases h1 with
      | @lst ad _ _ hs ha =>
        have e := L2.ints_dw a.1 _ ha
        subst e
        have ar : Rt.Args K H ad a.1 := by
          rcases hs with (e | ⟨o, e⟩) | e
          · rcases hO ad with n | ⟨o, u, n⟩
            · rw [n] at e; cases e
            · rw [n] at e; cases e
          · exact .inl ⟨o, e⟩
          · exact .inr e
        exact ⟨_, a.1, rfl, ar, hask, fun H' p hp => .lst (L2.SqL.of hp) (L2.dw_ints _)⟩
  case F =>
    intro w mg fa h Y KX G hmg
    refine' Rt.row_mk hmg (Rt.Txt.mk ⟨?pgT, ?hdT, ?poT, ?saT⟩ ⟨?pgW, ?hdW, ?poW, ?saW⟩ (Rt.na_mk ?nT_number) (Rt.na_mk ?nT_marks) (Rt.na_mk ?nT_stage) (Rt.na_mk ?nT_holder) (Rt.na_mk ?nT_since) (Rt.na_mk ?nT_claimed) (Rt.na_mk ?nW_day) (Rt.na_mk ?nW_sizes) (Rt.na_mk ?nW_tyres) (Rt.na_mk ?nW_recalled) (PySem.W.mg_of KX G ?aT) (PySem.W.mg_of KX G ?aW) ⟨?mkT, ?i1, ?fnT, ?kpT⟩ ⟨?mkW, ?i2, ?fnW, ?kpW⟩ (Rt.in_mk Rt.bd_tinit ?lT ?cT ?kT) (Rt.in_mk Rt.bd_winit ?lW ?cW ?kW) (PySem.W.mg_none_of KX G ?b_len) (PySem.W.mg_none_of KX G ?b_any) (PySem.W.mg_none_of KX G ?b_all) (PySem.W.mg_none_of KX G ?b_max) (PySem.W.mg_none_of KX G ?b_list) (PySem.W.mg_none_of KX G ?b_set) (PySem.W.mg_none_of KX G ?b_sorted) (PySem.W.mg_none_of KX G ?b_range) (Rt.gi_mk KX G ?c_NO_SUCH) (Rt.gi_mk KX G ?c_NONE_THERE) (Rt.gi_mk KX G ?c_NOT_BEGUN) (Rt.gi_mk KX G ?c_IS_RECALLED) (Rt.gi_mk KX G ?c_NOT_SO) (Rt.gi_mk KX G ?c_SO_ALREADY) (Rt.gi_mk KX G ?c_OUT_OF_RANGE) (Rt.gi_mk KX G ?c_TOO_MANY) (Rt.gi_mk KX G ?c_NONE_FITS) (Rt.gi_mk KX G ?c_PLACES) (Rt.gi_mk KX G ?c_WEEK_PLACE) (Rt.gi_mk KX G ?c_HIGHEST_VALUE) (Rt.gi_mk KX G ?c_HIGHEST_CUSTOMER) (Rt.gi_mk KX G ?c_IN_RACK) (Rt.gi_mk KX G ?c_SENT) (Rt.gi_mk KX G ?c_COME_BACK) (Rt.gi_mk KX G ?c_MOST_CLAIMS) (Rt.gi_mk KX G ?c_MOST_RECALLS) (Rt.gi_mk KX G ?c_MOST_RACKS) (Rt.gi_mk KX G ?c_LARGEST_RACK) (Rt.gi_mk KX G ?c_MOST_TYRES) (Rt.gi_mk KX G ?c_MOST_DAYS) (Rt.gi_mk KX G ?c_BEGIN) (Rt.gi_mk KX G ?c_RACK) (Rt.gi_mk KX G ?c_PUT) (Rt.gi_mk KX G ?c_MOVE) (Rt.gi_mk KX G ?c_SEND) (Rt.gi_mk KX G ?c_OLDEST) (Rt.gi_mk KX G ?c_DAYS) (Rt.gi_mk KX G ?c_CLAIM) (Rt.gi_mk KX G ?c_BACK) (Rt.gi_mk KX G ?c_RECALL) (Rt.gi_mk KX G ?c_LIFT) (Rt.gi_mk KX G ?c_COMMON) (Rt.gi_mk KX G ?c_NARROW) (Rt.gi_mk KX G ?c_TWO) (Rt.gi_mk KX G ?c_RATE) (Rt.gi_mk KX G ?c_WORST) (Rt.gi_mk KX G ?c_WHO) (Rt.gi_mk KX G ?c_LEFT) (Rt.gi_mk KX G ?c_BLOCKED) (Rt.gi_mk KX G ?c_STOCK) (Rt.gi_mk KX G ?c_WITH) (Rt.gi_mk KX G ?c_SENT_TO) (Rt.gi_mk KX G ?c_LOOK) (Rt.gi_mk KX G ?c_SUMS) (Rt.gi_mk KX G ?c_STATE) (Rt.args_mk KX G ?aA ?lA ?vA ?zA) (Rt.d1_mk KX G Rt.bd_lacks_rack ?a_lacks_rack ?l_lacks_rack ?c_lacks_rack_ ?k_lacks_rack) (Rt.d1_mk KX G Rt.bd_lacks_tyre ?a_lacks_tyre ?l_lacks_tyre ?c_lacks_tyre_ ?k_lacks_tyre) (Rt.d1_mk KX G Rt.bd_is_no_mark ?a_is_no_mark ?l_is_no_mark ?c_is_no_mark_ ?k_is_no_mark) (Rt.d1_mk KX G Rt.bd_has_mark ?a_has_mark ?l_has_mark ?c_has_mark_ ?k_has_mark) (Rt.d1_mk KX G Rt.bd_has_any ?a_has_any ?l_has_any ?c_has_any_ ?k_has_any) (Rt.d1_mk KX G Rt.bd_is_recalled ?a_is_recalled ?l_is_recalled ?c_is_recalled_ ?k_is_recalled) (Rt.d1_mk KX G Rt.bd_tyres_with ?a_tyres_with ?l_tyres_with ?c_tyres_with_ ?k_tyres_with) (Rt.d1_mk KX G Rt.bd_count_at_stage ?a_count_at_stage ?l_count_at_stage ?c_count_at_stage_ ?k_count_at_stage) (Rt.d1_mk KX G Rt.bd_claimed_tyres ?a_claimed_tyres ?l_claimed_tyres ?c_claimed_tyres_ ?k_claimed_tyres) (Rt.d1_mk KX G Rt.bd_was_sent ?a_was_sent ?l_was_sent ?c_was_sent_ ?k_was_sent) (Rt.d1_mk KX G Rt.bd_tyres_held ?a_tyres_held ?l_tyres_held ?c_tyres_held_ ?k_tyres_held) (Rt.d1_mk KX G Rt.bd_room_left ?a_room_left ?l_room_left ?c_room_left_ ?k_room_left) (Rt.d1_mk KX G Rt.bd_marks_of ?a_marks_of ?l_marks_of ?c_marks_of_ ?k_marks_of) (Rt.d1_mk KX G Rt.bd_have_all ?a_have_all ?l_have_all ?c_have_all_ ?k_have_all) (Rt.d1_mk KX G Rt.bd_shared_marks ?a_shared_marks ?l_shared_marks ?c_shared_marks_ ?k_shared_marks) (Rt.d1_mk KX G Rt.bd_common_marks ?a_common_marks ?l_common_marks ?c_common_marks_ ?k_common_marks) (Rt.d1_mk KX G Rt.bd_count_with ?a_count_with ?l_count_with ?c_count_with_ ?k_count_with) (Rt.d1_mk KX G Rt.bd_narrowest_mark ?a_narrowest_mark ?l_narrowest_mark ?c_narrowest_mark_ ?k_narrowest_mark) (Rt.d1_mk KX G Rt.bd_second_marks ?a_second_marks ?l_second_marks ?c_second_marks_ ?k_second_marks) (Rt.d1_mk KX G Rt.bd_explaining_pairs ?a_explaining_pairs ?l_explaining_pairs ?c_explaining_pairs_ ?k_explaining_pairs) (Rt.d1_mk KX G Rt.bd_count_with_either ?a_count_with_either ?l_count_with_either ?c_count_with_either_ ?k_count_with_either) (Rt.d1_mk KX G Rt.bd_explaining_marks ?a_explaining_marks ?l_explaining_marks ?c_explaining_marks_ ?k_explaining_marks) (Rt.d1_mk KX G Rt.bd_hand_over ?a_hand_over ?l_hand_over ?c_hand_over_ ?k_hand_over) (Rt.d1_mk KX G Rt.bd_send_tyre ?a_send_tyre ?l_send_tyre ?c_send_tyre_ ?k_send_tyre) (Rt.d1_mk KX G Rt.bd_sendable_tyres ?a_sendable_tyres ?l_sendable_tyres ?c_sendable_tyres_ ?k_sendable_tyres) (Rt.d1_mk KX G Rt.bd_oldest_tyre ?a_oldest_tyre ?l_oldest_tyre ?c_oldest_tyre_ ?k_oldest_tyre) (Rt.d1_mk KX G Rt.bd_send_oldest ?a_send_oldest ?l_send_oldest ?c_send_oldest_ ?k_send_oldest) (Rt.d1_mk KX G Rt.bd_claim_tyre ?a_claim_tyre ?l_claim_tyre ?c_claim_tyre_ ?k_claim_tyre) (Rt.d1_mk KX G Rt.bd_take_back ?a_take_back ?l_take_back ?c_take_back_ ?k_take_back) (Rt.d1_mk KX G Rt.bd_recall_mark ?a_recall_mark ?l_recall_mark ?c_recall_mark_ ?k_recall_mark) (Rt.d1_mk KX G Rt.bd_lift_mark ?a_lift_mark ?l_lift_mark ?c_lift_mark_ ?k_lift_mark) (Rt.d1_mk KX G Rt.bd_numbers_of ?a_numbers_of ?l_numbers_of ?c_numbers_of_ ?k_numbers_of) (Rt.d1_mk KX G Rt.bd_counted ?a_counted ?l_counted ?c_counted_ ?k_counted) (Rt.d1_mk KX G Rt.bd_list_customers ?a_list_customers ?l_list_customers ?c_list_customers_ ?k_list_customers) (Rt.d1_mk KX G Rt.bd_list_recalled ?a_list_recalled ?l_list_recalled ?c_list_recalled_ ?k_list_recalled) (Rt.d1_mk KX G Rt.bd_list_rack ?a_list_rack ?l_list_rack ?c_list_rack_ ?k_list_rack) (Rt.d1_mk KX G Rt.bd_list_with ?a_list_with ?l_list_with ?c_list_with_ ?k_list_with) (Rt.d1_mk KX G Rt.bd_list_sent_to ?a_list_sent_to ?l_list_sent_to ?c_list_sent_to_ ?k_list_sent_to) (Rt.d1_mk KX G Rt.bd_tell_next ?a_tell_next ?l_tell_next ?c_tell_next_ ?k_tell_next) (Rt.d1_mk KX G Rt.bd_look_at_tyre ?a_look_at_tyre ?l_look_at_tyre ?c_look_at_tyre_ ?k_look_at_tyre) (Rt.d1_mk KX G Rt.bd_tell_sums ?a_tell_sums ?l_tell_sums ?c_tell_sums_ ?k_tell_sums) (Rt.d1_mk KX G Rt.bd_tell_state ?a_tell_state ?l_tell_state ?c_tell_state_ ?k_tell_state) (Rt.d1_mk KX G Rt.bd_mark_counts ?a_mark_counts ?l_mark_counts ?c_mark_counts_ ?k_mark_counts) (Rt.d1_mk KX G Rt.bd_rate_of_mark ?a_rate_of_mark ?l_rate_of_mark ?c_rate_of_mark_ ?k_rate_of_mark) (Rt.d1_mk KX G Rt.bd_rated_marks ?a_rated_marks ?l_rated_marks ?c_rated_marks_ ?k_rated_marks) (Rt.d1_mk KX G Rt.bd_worst_mark ?a_worst_mark ?l_worst_mark ?c_worst_mark_ ?k_worst_mark) (Rt.d1_mk KX G Rt.bd_add_rack ?a_add_rack ?l_add_rack ?c_add_rack_ ?k_add_rack) (Rt.d1_mk KX G Rt.bd_are_five_marks ?a_are_five_marks ?l_are_five_marks ?c_are_five_marks_ ?k_are_five_marks) (Rt.d1_mk KX G Rt.bd_put_tyre ?a_put_tyre ?l_put_tyre ?c_put_tyre_ ?k_put_tyre) (Rt.d1_mk KX G Rt.bd_move_tyre ?a_move_tyre ?l_move_tyre ?c_move_tyre_ ?k_move_tyre) (Rt.d1_mk KX G Rt.bd_pass_days ?a_pass_days ?l_pass_days ?c_pass_days_ ?k_pass_days) (Rt.d1_mk KX G Rt.bd_call_end ?a_call_end ?l_call_end ?c_call_end_ ?k_call_end) (Rt.d1_mk KX G Rt.bd_answer_stocking ?a_answer_stocking ?l_answer_stocking ?c_answer_stocking_ ?k_answer_stocking) (Rt.d1_mk KX G Rt.bd_answer_sending ?a_answer_sending ?l_answer_sending ?c_answer_sending_ ?k_answer_sending) (Rt.d1_mk KX G Rt.bd_answer_causes ?a_answer_causes ?l_answer_causes ?c_answer_causes_ ?k_answer_causes) (Rt.d1_mk KX G Rt.bd_answer_listing ?a_answer_listing ?l_answer_listing ?c_answer_listing_ ?k_answer_listing) (Rt.d1_mk KX G Rt.bd_answer_looking ?a_answer_looking ?l_answer_looking ?c_answer_looking_ ?k_answer_looking) (Rt.d1_mk KX G Rt.bd_answer_call ?a_answer_call ?l_answer_call ?c_answer_call_ ?k_answer_call) (Rt.d1_mk KX G Rt.bd_answers ?a_answers ?l_answers ?c_answers_ ?k_answers))
    (case aT => k_is)
    (case aW => k_is)
    (case i1 => k_is)
    (case i2 => k_is)
    (case pgT => k_is)
    (case hdT => k_is)
    (case poT => k_is)
    (case saT => k_is)
    (case mkT => k_is)
    (case fnT => k_is)
    (case kpT => k_is)
    (case lT => k_is)
    (case cT => k_is)
    (case kT => k_is)
    (case pgW => k_is)
    (case hdW => k_is)
    (case poW => k_is)
    (case saW => k_is)
    (case mkW => k_is)
    (case fnW => k_is)
    (case kpW => k_is)
    (case lW => k_is)
    (case cW => k_is)
    (case kW => k_is)
    (case nT_number => k_is)
    (case nT_marks => k_is)
    (case nT_stage => k_is)
    (case nT_holder => k_is)
    (case nT_since => k_is)
    (case nT_claimed => k_is)
    (case nW_day => k_is)
    (case nW_sizes => k_is)
    (case nW_tyres => k_is)
    (case nW_recalled => k_is)
    (case b_len => k_is)
    (case b_any => k_is)
    (case b_all => k_is)
    (case b_max => k_is)
    (case b_list => k_is)
    (case b_set => k_is)
    (case b_sorted => k_is)
    (case b_range => k_is)
    (case c_NO_SUCH => k_is)
    (case c_NONE_THERE => k_is)
    (case c_NOT_BEGUN => k_is)
    (case c_IS_RECALLED => k_is)
    (case c_NOT_SO => k_is)
    (case c_SO_ALREADY => k_is)
    (case c_OUT_OF_RANGE => k_is)
    (case c_TOO_MANY => k_is)
    (case c_NONE_FITS => k_is)
    (case c_PLACES => k_is)
    (case c_WEEK_PLACE => k_is)
    (case c_HIGHEST_VALUE => k_is)
    (case c_HIGHEST_CUSTOMER => k_is)
    (case c_IN_RACK => k_is)
    (case c_SENT => k_is)
    (case c_COME_BACK => k_is)
    (case c_MOST_CLAIMS => k_is)
    (case c_MOST_RECALLS => k_is)
    (case c_MOST_RACKS => k_is)
    (case c_LARGEST_RACK => k_is)
    (case c_MOST_TYRES => k_is)
    (case c_MOST_DAYS => k_is)
    (case c_BEGIN => k_is)
    (case c_RACK => k_is)
    (case c_PUT => k_is)
    (case c_MOVE => k_is)
    (case c_SEND => k_is)
    (case c_OLDEST => k_is)
    (case c_DAYS => k_is)
    (case c_CLAIM => k_is)
    (case c_BACK => k_is)
    (case c_RECALL => k_is)
    (case c_LIFT => k_is)
    (case c_COMMON => k_is)
    (case c_NARROW => k_is)
    (case c_TWO => k_is)
    (case c_RATE => k_is)
    (case c_WORST => k_is)
    (case c_WHO => k_is)
    (case c_LEFT => k_is)
    (case c_BLOCKED => k_is)
    (case c_STOCK => k_is)
    (case c_WITH => k_is)
    (case c_SENT_TO => k_is)
    (case c_LOOK => k_is)
    (case c_SUMS => k_is)
    (case c_STATE => k_is)
    (case aA => k_is)
    (case lA => k_is)
    (case a_lacks_rack => k_is)
    (case l_lacks_rack => k_is)
    (case c_lacks_rack_ => k_is)
    (case k_lacks_rack => k_is)
    (case a_lacks_tyre => k_is)
    (case l_lacks_tyre => k_is)
    (case c_lacks_tyre_ => k_is)
    (case k_lacks_tyre => k_is)
    (case a_is_no_mark => k_is)
    (case l_is_no_mark => k_is)
    (case c_is_no_mark_ => k_is)
    (case k_is_no_mark => k_is)
    (case a_has_mark => k_is)
    (case l_has_mark => k_is)
    (case c_has_mark_ => k_is)
    (case k_has_mark => k_is)
    (case a_has_any => k_is)
    (case l_has_any => k_is)
    (case c_has_any_ => k_is)
    (case k_has_any => k_is)
    (case a_is_recalled => k_is)
    (case l_is_recalled => k_is)
    (case c_is_recalled_ => k_is)
    (case k_is_recalled => k_is)
    (case a_tyres_with => k_is)
    (case l_tyres_with => k_is)
    (case c_tyres_with_ => k_is)
    (case k_tyres_with => k_is)
    (case a_count_at_stage => k_is)
    (case l_count_at_stage => k_is)
    (case c_count_at_stage_ => k_is)
    (case k_count_at_stage => k_is)
    (case a_claimed_tyres => k_is)
    (case l_claimed_tyres => k_is)
    (case c_claimed_tyres_ => k_is)
    (case k_claimed_tyres => k_is)
    (case a_was_sent => k_is)
    (case l_was_sent => k_is)
    (case c_was_sent_ => k_is)
    (case k_was_sent => k_is)
    (case a_tyres_held => k_is)
    (case l_tyres_held => k_is)
    (case c_tyres_held_ => k_is)
    (case k_tyres_held => k_is)
    (case a_room_left => k_is)
    (case l_room_left => k_is)
    (case c_room_left_ => k_is)
    (case k_room_left => k_is)
    (case a_marks_of => k_is)
    (case l_marks_of => k_is)
    (case c_marks_of_ => k_is)
    (case k_marks_of => k_is)
    (case a_have_all => k_is)
    (case l_have_all => k_is)
    (case c_have_all_ => k_is)
    (case k_have_all => k_is)
    (case a_shared_marks => k_is)
    (case l_shared_marks => k_is)
    (case c_shared_marks_ => k_is)
    (case k_shared_marks => k_is)
    (case a_common_marks => k_is)
    (case l_common_marks => k_is)
    (case c_common_marks_ => k_is)
    (case k_common_marks => k_is)
    (case a_count_with => k_is)
    (case l_count_with => k_is)
    (case c_count_with_ => k_is)
    (case k_count_with => k_is)
    (case a_narrowest_mark => k_is)
    (case l_narrowest_mark => k_is)
    (case c_narrowest_mark_ => k_is)
    (case k_narrowest_mark => k_is)
    (case a_second_marks => k_is)
    (case l_second_marks => k_is)
    (case c_second_marks_ => k_is)
    (case k_second_marks => k_is)
    (case a_explaining_pairs => k_is)
    (case l_explaining_pairs => k_is)
    (case c_explaining_pairs_ => k_is)
    (case k_explaining_pairs => k_is)
    (case a_count_with_either => k_is)
    (case l_count_with_either => k_is)
    (case c_count_with_either_ => k_is)
    (case k_count_with_either => k_is)
    (case a_explaining_marks => k_is)
    (case l_explaining_marks => k_is)
    (case c_explaining_marks_ => k_is)
    (case k_explaining_marks => k_is)
    (case a_hand_over => k_is)
    (case l_hand_over => k_is)
    (case c_hand_over_ => k_is)
    (case k_hand_over => k_is)
    (case a_send_tyre => k_is)
    (case l_send_tyre => k_is)
    (case c_send_tyre_ => k_is)
    (case k_send_tyre => k_is)
    (case a_sendable_tyres => k_is)
    (case l_sendable_tyres => k_is)
    (case c_sendable_tyres_ => k_is)
    (case k_sendable_tyres => k_is)
    (case a_oldest_tyre => k_is)
    (case l_oldest_tyre => k_is)
    (case c_oldest_tyre_ => k_is)
    (case k_oldest_tyre => k_is)
    (case a_send_oldest => k_is)
    (case l_send_oldest => k_is)
    (case c_send_oldest_ => k_is)
    (case k_send_oldest => k_is)
    (case a_claim_tyre => k_is)
    (case l_claim_tyre => k_is)
    (case c_claim_tyre_ => k_is)
    (case k_claim_tyre => k_is)
    (case a_take_back => k_is)
    (case l_take_back => k_is)
    (case c_take_back_ => k_is)
    (case k_take_back => k_is)
    (case a_recall_mark => k_is)
    (case l_recall_mark => k_is)
    (case c_recall_mark_ => k_is)
    (case k_recall_mark => k_is)
    (case a_lift_mark => k_is)
    (case l_lift_mark => k_is)
    (case c_lift_mark_ => k_is)
    (case k_lift_mark => k_is)
    (case a_numbers_of => k_is)
    (case l_numbers_of => k_is)
    (case c_numbers_of_ => k_is)
    (case k_numbers_of => k_is)
    (case a_counted => k_is)
    (case l_counted => k_is)
    (case c_counted_ => k_is)
    (case k_counted => k_is)
    (case a_list_customers => k_is)
    (case l_list_customers => k_is)
    (case c_list_customers_ => k_is)
    (case k_list_customers => k_is)
    (case a_list_recalled => k_is)
    (case l_list_recalled => k_is)
    (case c_list_recalled_ => k_is)
    (case k_list_recalled => k_is)
    (case a_list_rack => k_is)
    (case l_list_rack => k_is)
    (case c_list_rack_ => k_is)
    (case k_list_rack => k_is)
    (case a_list_with => k_is)
    (case l_list_with => k_is)
    (case c_list_with_ => k_is)
    (case k_list_with => k_is)
    (case a_list_sent_to => k_is)
    (case l_list_sent_to => k_is)
    (case c_list_sent_to_ => k_is)
    (case k_list_sent_to => k_is)
    (case a_tell_next => k_is)
    (case l_tell_next => k_is)
    (case c_tell_next_ => k_is)
    (case k_tell_next => k_is)
    (case a_look_at_tyre => k_is)
    (case l_look_at_tyre => k_is)
    (case c_look_at_tyre_ => k_is)
    (case k_look_at_tyre => k_is)
    (case a_tell_sums => k_is)
    (case l_tell_sums => k_is)
    (case c_tell_sums_ => k_is)
    (case k_tell_sums => k_is)
    (case a_tell_state => k_is)
    (case l_tell_state => k_is)
    (case c_tell_state_ => k_is)
    (case k_tell_state => k_is)
    (case a_mark_counts => k_is)
    (case l_mark_counts => k_is)
    (case c_mark_counts_ => k_is)
    (case k_mark_counts => k_is)
    (case a_rate_of_mark => k_is)
    (case l_rate_of_mark => k_is)
    (case c_rate_of_mark_ => k_is)
    (case k_rate_of_mark => k_is)
    (case a_rated_marks => k_is)
    (case l_rated_marks => k_is)
    (case c_rated_marks_ => k_is)
    (case k_rated_marks => k_is)
    (case a_worst_mark => k_is)
    (case l_worst_mark => k_is)
    (case c_worst_mark_ => k_is)
    (case k_worst_mark => k_is)
    (case a_add_rack => k_is)
    (case l_add_rack => k_is)
    (case c_add_rack_ => k_is)
    (case k_add_rack => k_is)
    (case a_are_five_marks => k_is)
    (case l_are_five_marks => k_is)
    (case c_are_five_marks_ => k_is)
    (case k_are_five_marks => k_is)
    (case a_put_tyre => k_is)
    (case l_put_tyre => k_is)
    (case c_put_tyre_ => k_is)
    (case k_put_tyre => k_is)
    (case a_move_tyre => k_is)
    (case l_move_tyre => k_is)
    (case c_move_tyre_ => k_is)
    (case k_move_tyre => k_is)
    (case a_pass_days => k_is)
    (case l_pass_days => k_is)
    (case c_pass_days_ => k_is)
    (case k_pass_days => k_is)
    (case a_call_end => k_is)
    (case l_call_end => k_is)
    (case c_call_end_ => k_is)
    (case k_call_end => k_is)
    (case a_answer_stocking => k_is)
    (case l_answer_stocking => k_is)
    (case c_answer_stocking_ => k_is)
    (case k_answer_stocking => k_is)
    (case a_answer_sending => k_is)
    (case l_answer_sending => k_is)
    (case c_answer_sending_ => k_is)
    (case k_answer_sending => k_is)
    (case a_answer_causes => k_is)
    (case l_answer_causes => k_is)
    (case c_answer_causes_ => k_is)
    (case k_answer_causes => k_is)
    (case a_answer_listing => k_is)
    (case l_answer_listing => k_is)
    (case c_answer_listing_ => k_is)
    (case k_answer_listing => k_is)
    (case a_answer_looking => k_is)
    (case l_answer_looking => k_is)
    (case c_answer_looking_ => k_is)
    (case k_answer_looking => k_is)
    (case a_answer_call => k_is)
    (case l_answer_call => k_is)
    (case c_answer_call_ => k_is)
    (case k_answer_call => k_is)
    (case a_answers => k_is)
    (case l_answers => k_is)
    (case c_answers_ => k_is)
    (case k_answers => k_is)
    (case vA => first | decide +kernel | exact rfl)
    (case zA => first | decide +kernel | exact rfl)
#print axioms PySem.Challenge.cw_recalltyres_s01_answers_holds
end

