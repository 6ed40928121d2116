import PyProof.Rows.All
import Wide.All
import OpenK.AllK
import Wide.FinOn
import PyProof.EqAt
import PyProof.EqKinds
import PyProof.TupleCall
import KE.BitLaws
import PyProof.StationsW
import PyProof.InstStoreFacts
import PyProof.ExcInit
import PyProof.ExcAttrAll.Exception
import PyProof.WalkInts
import PyProof.FactsAll.tuple_2
import PyProof.FactsAll.tuple_3
import KE.KTops
import PyProof.Rows.CallKwBuiltin
import PyProof.Rows.FactsN_isinstance
import KE.OsGo
import PyProof.ListRange
import PyProof.FactsAll.list_3
import Sa57Spec
import PySa57
import PySem.Challenge.RW0_armstold_s03_bl_draw
import PyProof.Rows.FactsN_abs
import PySem.Challenge.RW_armstold_s03_bl_draw
set_option Elab.async false
set_option linter.all false
set_option maxRecDepth 100000
/-! THE HAND LAYER, for ints, bools, texts, own classes, lists, tuples, dicts, comprehensions, walks over dicts, enumerate, zip, reversed, texts, calls, loops. Paste it whole ahead of your own text; what your proof does not reach may be deleted. -/
namespace L2
open PySem PySem.Spec PyProof.Rows

/-- a key: an int or a str -/
abbrev Key := Sum Int Str
def keyIs : Key → Value → Bool
  | .inl k, v => Value.isInt k v
  | .inr x, v => Value.isStrOf x v
def keyH (w : World) : Key → Int
  | .inl k => hashInt k
  | .inr x => hashStr w x
theorem keyIs_shape : ∀ {k : Key} {v : Value}, keyIs k v = true → (∃ i t, k = Sum.inl i ∧ v = Value.int i t) ∨ (∃ x t, k = Sum.inr x ∧ v = Value.str x t)
  | .inl i, v, h => by
    obtain ⟨t, e⟩ := Value.isInt_shape (k := i) (v := v) h
    exact .inl ⟨i, t, rfl, e⟩
  | .inr x, v, h => by
    obtain ⟨t, e⟩ := Value.isStrOf_shape (x := x) (v := v) h
    exact .inr ⟨x, t, rfl, e⟩
theorem key_ll (a b : Int) : decide ((Sum.inl a : Key) = Sum.inl b) = (a == b) := by
  by_cases e : a = b
  · subst e; simp
  · have h : ¬ (Sum.inl a : Key) = Sum.inl b := fun q => e (Sum.inl.inj q)
    rw [decide_eq_false h]
    exact (beq_eq_false_iff_ne.mpr e).symm
theorem key_rr (a b : Str) : decide ((Sum.inr a : Key) = Sum.inr b) = decide (a = b) := by
  by_cases e : a = b
  · subst e; simp
  · have h : ¬ (Sum.inr a : Key) = Sum.inr b := fun q => e (Sum.inr.inj q)
    rw [decide_eq_false h, decide_eq_false e]
theorem key_lr (a : Int) (b : Str) : decide ((Sum.inl a : Key) = Sum.inr b) = false := decide_eq_false (fun q => nomatch q)
theorem key_rl (a : Str) (b : Int) : decide ((Sum.inr a : Key) = Sum.inl b) = false := decide_eq_false (fun q => nomatch q)

def mixKind (prog : Program) (w : World) : PySem.KeyKind prog w Key where
  is := keyIs
  hash := keyH w
  inj := fun v a b ha hb => by
    rcases keyIs_shape ha with ⟨i, t, rfl, rfl⟩ | ⟨x, t, rfl, rfl⟩
    · rcases keyIs_shape hb with ⟨j, u, rfl, e⟩ | ⟨y, u, rfl, e⟩
      · injection e with e1 _; rw [e1]
      · exact nomatch e
    · rcases keyIs_shape hb with ⟨j, u, rfl, e⟩ | ⟨y, u, rfl, e⟩
      · exact nomatch e
      · injection e with e1 _; rw [e1]
  byValue := fun k v h => by
    rcases keyIs_shape h with ⟨i, t, rfl, rfl⟩ | ⟨x, t, rfl, rfl⟩ <;> rfl
  pyHash := fun hv h => by
    rcases keyIs_shape hv with ⟨i, t, rfl, rfl⟩ | ⟨x, t, rfl, rfl⟩
    · exact wpAny_pyHash_int h
    · exact wpAny_pyHash_str h
  eqBool := fun hu hv h => by
    rcases keyIs_shape hu with ⟨i, t, rfl, rfl⟩ | ⟨x, t, rfl, rfl⟩
    · rcases keyIs_shape hv with ⟨j, u, rfl, rfl⟩ | ⟨y, u, rfl, rfl⟩
      · rw [key_ll] at h; exact wpAny_eqBool_int h
      · rw [key_lr] at h; exact SeqAt.EqAt.int_str i t y u _ _ _ _ h
    · rcases keyIs_shape hv with ⟨j, u, rfl, rfl⟩ | ⟨y, u, rfl, rfl⟩
      · rw [key_rl] at h; exact SeqAt.EqAt.str_int x t j u _ _ _ _ h
      · rw [key_rr] at h; exact wpAny_eqBool_str h
  «strs» := fun k x t v h => by
    rcases keyIs_shape h with ⟨i, u, rfl, e⟩ | ⟨y, u, rfl, e⟩
    · exact nomatch e
    · injection e with e1 _
      subst e1
      cases v <;> rfl

end L2

namespace L2
open PySem PySem.Spec PyProof.Rows

/-- a value, without the heap -/
inductive V where
  | non | bl (b : Bool) | int (i : Int) | str (x : Str) | byt (b : Array UInt8) | flt (b : UInt64) | ref (a : Addr) | ty (n : String)
  deriving DecidableEq

def RelV : V → Value → Prop
  | .non, u => u = Value.none
  | .bl b, u => u = Value.bool b
  | .int i, u => ∃ t, u = Value.int i t
  | .str x, u => ∃ t, u = Value.str x t
  | .byt b, u => ∃ t, u = Value.bytes b t
  | .flt b, u => ∃ t, u = Value.float b t
  | .ref a, u => u = Value.ref a
  | .ty n, u => u = Value.type n

abbrev Vals : List V → List Value → Prop := Paired RelV
theorem Vals.length {xs : List V} {us : List Value} (r : Vals xs us) : xs.length = us.length := Paired.length r
theorem Vals.get : ∀ {xs : List V} {us : List Value} {i : Nat} {x : V}, Vals xs us → xs[i]? = some x → ∃ u, us[i]? = some u ∧ RelV x u
  | _, _, _, _, .nil, e => by simp at e
  | _, _, 0, _, .cons r _, e => by simp at e; subst e; exact ⟨_, rfl, r⟩
  | _, _, i + 1, x, .cons _ t, e => by
    obtain ⟨u, h1, h2⟩ := Vals.get (i := i) (x := x) t (by simpa using e)
    exact ⟨u, by simpa using h1, h2⟩
theorem Vals.append : ∀ {xs ys : List V} {us ws : List Value}, Vals xs us → Vals ys ws → Vals (xs ++ ys) (us ++ ws)
  | _, _, _, _, .nil, s => s
  | _, _, _, _, .cons r t, s => .cons r (Vals.append t s)
theorem Vals.take : ∀ {xs : List V} {us : List Value} (n : Nat), Vals xs us → Vals (xs.take n) (us.take n)
  | _, _, 0, _ => .nil
  | _, _, _ + 1, .nil => .nil
  | _, _, n + 1, .cons r t => .cons r (Vals.take n t)
theorem Vals.drop : ∀ {xs : List V} {us : List Value} (n : Nat), Vals xs us → Vals (xs.drop n) (us.drop n)
  | _, _, 0, r => r
  | _, _, _ + 1, .nil => .nil
  | _, _, n + 1, .cons _ t => Vals.drop n t

def RelO : Option V → Option Value → Prop
  | some v, some u => RelV v u
  | none, none => True
  | _, _ => False
def KV {κ : Type} : List (κ × V) → List (κ × Value) → Prop := Paired fun (p : κ × V) (q : κ × Value) => p.1 = q.1 ∧ RelV p.2 q.2

/-- a key of a dict (00_mix): an int or a text -/
def kV : Key → V
  | .inl i => .int i
  | .inr x => .str x

/-- what stands at a tracked address -/
inductive HO where
  /-- a list -/
  | lst (xs : List V)
  /-- a tuple (never changes) -/
  | tup (xs : List V)
  /-- a dict whose keys are ints and texts; one whose keys are tuples of ints and texts (the empty one is both) -/
  | dK (kvs : List (Key × V)) | dT (kvs : List (List Key × V))
  /-- a set of ints: its members, its size -/
  | set (S : Int → Bool) (n : Nat)
  /-- an instance of the class at C, its dict at dx, its attributes -/
  | ins (C dx : Addr) (fs : List (Str × V))
  /-- the dict of the instance at x -/
  | own (x : Addr)
  /-- the dict of an exception -/
  | xd (fs : List (Str × V))
  /-- a bound method, f of x -/
  | met (f x : Addr)
  /-- a range object lo, lo + 1, .. below hi -/
  | rng (lo hi : Int)
  /-- a thing that is known to the object (the script; a dict while a loop walks it): read, never written while it is so -/
  | frz (o : Obj) (u : HO)
  /-- a code object's table -/
  | tbl (ps : Array Value)
  /-- any other thing, by what is true of its one object (a def of one's own: SetO a S n := HO.ext fun h => ..) -/
  | ext (φ : Heap → Prop)

abbrev Hp := Addr → Option HO
def upd (H : Hp) (a : Addr) (o : HO) : Hp := fun b => if b = a then some o else H b
theorem upd_same {H : Hp} {a : Addr} {o : HO} : upd H a o a = some o := by unfold upd; rw [if_pos rfl]
theorem upd_ne {H : Hp} {a b : Addr} {o : HO} (h : b ≠ a) : upd H a o b = H b := by unfold upd; rw [if_neg h]
/-- two objects of different content stand apart -/
theorem ne_of {H : Hp} {a b : Addr} {o u : HO} (h : H a = some o) (h' : H b = some u) (d : o ≠ u) : a ≠ b := by
  intro e; subst e; rw [h] at h'; exact d (Option.some.inj h')
theorem ne_of_none {H : Hp} {a b : Addr} {o : HO} (h : H a = some o) (h' : H b = none) : a ≠ b := by
  intro e; subst e; rw [h] at h'; cases h'

section
variable (P : Program) (w : World)
def ObjOk (H : Hp) (h : Heap) (a : Addr) : HO → Prop
  | .lst xs => xs.length ≤ sizeLine ∧ ∃ (its : List Value) (n : Nat), Vals xs its ∧ h.get? a = some { cls := .type "list", data := .seq its.toArray n }
  | .tup xs => xs.length ≤ sizeLine ∧ ∃ its : List Value, Vals xs its ∧ IsTup h a its.toArray
  | .dK kvs => kvs.length ≤ sizeLine ∧ (a == sysModules) = false ∧ ∃ vs, KV kvs vs ∧ h.DictOf (mixKind P w) a vs
  | .dT kvs => kvs.length ≤ sizeLine ∧ (a == sysModules) = false ∧ ∃ xs : List (List Key × Addr × Value),
      Paired (fun (p : List Key × V) (q : List Key × Addr × Value) => p.1 = q.1 ∧ H q.2.1 = some (.tup (p.1.map kV)) ∧ RelV p.2 q.2.2) kvs xs ∧
      ∃ o es ep, h.get? a = some o ∧ o.ExactDict ∧ o.data = .dict es ep ∧ es.toList = xs.map (entryOfKey (tupleKind (mixKind P w))) ∧ (xs.map (·.1)).Nodup
  | .set S n => h.SetOf (intKind P w) a S n
  | .ins C dx fs => H dx = some (.own a) ∧ fs.length ≤ 1000 ∧ dx ≠ a ∧ h.get? a = some (PySem.W.instObj C dx) ∧
      ∃ mA, h.Ns1 dx mA ∧ (∀ f, RelO (fs.lookup f) (mA f)) ∧ PySem.Within mA (fs.map (·.1))
  | .own _ => ∃ o, h.get? a = some o
  | .xd fs => ∃ mA, h.Ns1 a mA ∧ ∀ f, RelO (fs.lookup f) (mA f)
  | .rng lo hi => ∃ t u v, h.get? a = some { cls := .type "range", data := .fields #[.int lo t, .int hi u, .int 1 v] }
  | .frz o u => h.get? a = some o ∧ ObjOk H h a u
  | .tbl ps => h.get? a = some { cls := .none, data := .fields ps }
  | .met f x => h.get? a = some (PySem.W.methodObj (.ref f) (.ref x))
  | .ext φ => φ h ∧ (∃ o, h.get? a = some o) ∧ ∀ h1 h2 : Heap, φ h1 → (∀ o, h1.get? a = some o → h2.get? a = some o) → φ h2
/-- the abstract heap is held -/
def HOk (H : Hp) (h : Heap) : Prop := ∀ a o, H a = some o → ObjOk P w H h a o
end

section
variable {P : Program} {w : World} {H H' : Hp} {h h' : Heap} {a : Addr} {o : HO}
theorem ObjOk.lt (x : ObjOk P w H h a o) : a < h.objs.size := by
  cases o with
  | lst xs => obtain ⟨_, _, _, _, e⟩ := x; exact Heap.lt_size e
  | tup xs => obtain ⟨_, _, _, p⟩ := x; exact p.lt
  | dK kvs => obtain ⟨_, _, _, _, o, _, _, e, _⟩ := x; exact Heap.lt_size e
  | dT kvs => obtain ⟨_, _, _, _, o, _, _, e, _⟩ := x; exact Heap.lt_size e
  | set S n => obtain ⟨o, _, _, _, e, _⟩ := x; exact Heap.lt_size e
  | ins C dx fs => obtain ⟨_, _, _, e, _⟩ := x; exact Heap.lt_size e
  | own y => obtain ⟨_, e⟩ := x; exact Heap.lt_size e
  | xd fs => obtain ⟨_, ⟨_, _, _, e, _⟩, _⟩ := x; exact Heap.lt_size e
  | rng lo hi => obtain ⟨_, _, _, e⟩ := x; exact Heap.lt_size e
  | frz ob u => obtain ⟨e, _⟩ := x; exact Heap.lt_size e
  | tbl ps => exact Heap.lt_size (show h.get? a = some _ from x)
  | met f y => exact Heap.lt_size (show h.get? a = some _ from x)
  | ext φ => obtain ⟨_, ⟨_, e⟩, _⟩ := x; exact Heap.lt_size e
theorem Paired.mapP {α β : Type} {F G : α → β → Prop} : ∀ {l₁ : List α} {l₂ : List β}, Paired F l₁ l₂ → (∀ a b, F a b → G a b) → Paired G l₁ l₂
  | _, _, .nil, _ => .nil
  | _, _, .cons r t, f => .cons (f _ _ r) (Paired.mapP t f)
/-- what an object's description leans on: its own object, its own dict, the tuples -/
theorem ObjOk.stay (x : ObjOk P w H h a o) (k : ∀ b u, (b = a ∨ H b = some (.own a)) → h.get? b = some u → h'.get? b = some u)
    (ho : ∀ b, H b = some (.own a) → H' b = some (.own a)) (ht : ∀ b xs, H b = some (.tup xs) → H' b = some (.tup xs)) : ObjOk P w H' h' a o := by
  induction o with
  | lst xs => obtain ⟨z, its, n, r, e⟩ := x; exact ⟨z, its, n, r, k _ _ (.inl rfl) e⟩
  | tup xs => obtain ⟨z, its, r, ob, e, c⟩ := x; exact ⟨z, its, r, ob, k _ _ (.inl rfl) e, c⟩
  | dK kvs => obtain ⟨z, y, vs, r, ob, es, ep, e, c⟩ := x; exact ⟨z, y, vs, r, ob, es, ep, k _ _ (.inl rfl) e, c⟩
  | dT kvs =>
    obtain ⟨z, y, xs, r, ob, es, ep, e, c⟩ := x
    exact ⟨z, y, xs, Paired.mapP r fun p q z => ⟨z.1, ht _ _ z.2.1, z.2.2⟩, ob, es, ep, k _ _ (.inl rfl) e, c⟩
  | set S n => obtain ⟨ob, es, ep, t, e, c⟩ := x; exact ⟨ob, es, ep, t, k _ _ (.inl rfl) e, c⟩
  | ins C dx fs =>
    obtain ⟨d, z, ne, e, mA, ⟨od, es, ep, e2, c⟩, r⟩ := x
    exact ⟨ho _ d, z, ne, k _ _ (.inl rfl) e, mA, ⟨od, es, ep, k _ _ (.inr d) e2, c⟩, r⟩
  | own y => obtain ⟨ob, e⟩ := x; exact ⟨ob, k _ _ (.inl rfl) e⟩
  | xd fs => obtain ⟨mA, ⟨od, es, ep, e, c⟩, r⟩ := x; exact ⟨mA, ⟨od, es, ep, k _ _ (.inl rfl) e, c⟩, r⟩
  | rng lo hi => obtain ⟨t, u, v, e⟩ := x; exact ⟨t, u, v, k _ _ (.inl rfl) e⟩
  | frz ob u ih => obtain ⟨e, q⟩ := x; exact ⟨k _ _ (.inl rfl) e, ih q⟩
  | tbl ps =>
    have e : h.get? a = some { cls := .none, data := .fields ps } := x
    show h'.get? a = some { cls := .none, data := .fields ps }
    exact k a _ (.inl rfl) e
  | met f y =>
    have e : h.get? a = some (PySem.W.methodObj (.ref f) (.ref y)) := x
    show h'.get? a = some (PySem.W.methodObj (.ref f) (.ref y))
    exact k a _ (.inl rfl) e
  | ext φ => obtain ⟨p, ⟨o, e⟩, st⟩ := x; exact ⟨st _ _ p fun o q => k _ _ (.inl rfl) q, ⟨o, k _ _ (.inl rfl) e⟩, st⟩
theorem HOk.lt (x : HOk P w H h) (e : H a = some o) : a < h.objs.size := (x a o e).lt
theorem HOk.fresh (x : HOk P w H h) (e : h.objs.size ≤ a) : H a = none := by
  cases q : H a with
  | none => rfl
  | some u => exact absurd (Nat.lt_of_lt_of_le (x.lt q) e) (Nat.lt_irrefl _)
/-- every object of the heap is kept -/
theorem HOk.kept (x : HOk P w H h) (k : ∀ b u, h.get? b = some u → h'.get? b = some u) : HOk P w H h' := fun a o e =>
  (x a o e).stay (fun b u _ q => k b u q) (fun _ q => q) fun _ _ q => q
/-- a new object is laid and tracked -/
theorem HOk.laid (x : HOk P w H h) (k : ∀ b u, h.get? b = some u → h'.get? b = some u) (hp : h.objs.size ≤ a) (new : ObjOk P w (upd H a o) h' a o) : HOk P w (upd H a o) h' := fun b u e => by
  have hn := x.fresh hp
  by_cases hb : b = a
  · subst hb; rw [upd_same] at e; cases e; exact new
  · rw [upd_ne hb] at e
    exact (x b u e).stay (fun c v _ q => k c v q) (fun c q => by rw [upd_ne (ne_of_none q hn)]; exact q) fun c xs q => by rw [upd_ne (ne_of_none q hn)]; exact q
end

/-- what may be read as u: it is u, or a known u -/
def Rd (H : Hp) (a : Addr) (u : HO) : Prop := H a = some u ∨ ∃ o, H a = some (.frz o u)
theorem Rd.ok {P : Program} {w : World} {H : Hp} {h : Heap} {a : Addr} {u : HO} (r : Rd H a u) (x : HOk P w H h) : ObjOk P w H h a u := by
  rcases r with r | ⟨o, r⟩
  · exact x a u r
  · obtain ⟨_, q⟩ := x a _ r
    exact q
/-- what may be written -/
def Mut : Option HO → Prop
  | some (.lst _) => True
  | some (.dK _) => True
  | some (.dT _) => True
  | some (.set _ _) => True
  | some (.ins _ _ _) => True
  | some (.ext _) => True
  | _ => False
section
variable {P : Program} {w : World} {H : Hp} {h h' : Heap} {x e : Addr} {o' : HO}
/-- the object at e is changed: x itself, or the dict of the instance x -/
theorem HOk.write (ok : HOk P w H h) (mu : Mut (H x)) (he : e = x ∨ H e = some (.own x)) (k : ∀ b u, b ≠ e → h.get? b = some u → h'.get? b = some u) (heo : ∃ u, h'.get? e = some u)
    (new : ObjOk P w (upd H x o') h' x o') : HOk P w (upd H x o') h' := fun b u q => by
  have nown : ∀ c y, H c = some (.own y) → c ≠ x := fun c y r z => by subst z; rw [r] at mu; exact mu
  have ntup : ∀ c xs, H c = some (.tup xs) → c ≠ x := fun c xs r z => by subst z; rw [r] at mu; exact mu
  by_cases hb : b = x
  · subst hb; rw [upd_same] at q; cases q; exact new
  · rw [upd_ne hb] at q
    by_cases hbe : b = e
    · have q' : H b = some (.own x) := by
        rcases he with z | z
        · exact absurd (hbe.trans z) hb
        · rw [hbe]; exact z
      rw [q] at q'; cases q'
      obtain ⟨v, hv⟩ := heo
      exact ⟨v, by rw [hbe]; exact hv⟩
    · refine (ok b u q).stay (fun c v hc r => k c v ?_ r) (fun c r => by rw [upd_ne (nown c b r)]; exact r) fun c xs r => by rw [upd_ne (ntup c xs r)]; exact r
      rcases hc with rfl | hc
      · exact hbe
      · rintro rfl
        rcases he with z | z
        · exact nown c b hc z
        · rw [hc] at z; cases z; exact hb rfl
end

/-! ### kept unless tracked; of the frames at fs (the callers') the slots may change (an exception that passes writes there); of the records at ex (iterators) nothing is said -/
structure Un (fs ex : List Addr) (H H' : Hp) (h h' : Heap) : Prop where
  keep : ∀ b o, h.get? b = some o → H b = none → b ∉ fs → b ∉ ex → h'.get? b = some o
  slot : ∀ b o, h.get? b = some o → H b = none → b ∈ fs → b ∉ ex → ∃ sl, h'.get? b = some { o with slots := sl }
  free : ∀ b o, h.get? b = some o → H b = none → b ∉ ex → H' b = none
  there : ∀ b o, h.get? b = some o → b ∉ ex → ∃ o', h'.get? b = some o'
  tups : ∀ b xs, H b = some (.tup xs) → H' b = some (.tup xs)
  frzs : ∀ b o u, H b = some (.frz o u) → H' b = some (.frz o u)
  tbls : ∀ b ps, H b = some (.tbl ps) → ∃ more, H' b = some (.tbl (ps ++ more))
section
variable {fs fs' ex ex' : List Addr} {H H1 H2 : Hp} {h h1 h2 h' : Heap} {a x e : Addr} {o : HO}
theorem Un.any (u : Un fs ex H H1 h h1) {b : Addr} {ob : Obj} (q : h.get? b = some ob) (n : H b = none) (hx : b ∉ ex) : ∃ sl, h1.get? b = some { ob with slots := sl } := by
  by_cases hb : b ∈ fs
  · exact u.slot b ob q n hb hx
  · exact ⟨ob.slots, u.keep b ob q n hb hx⟩
theorem Un.kept (k : ∀ b u, h.get? b = some u → h'.get? b = some u) : Un fs ex H H h h' :=
  ⟨fun b ob q _ _ _ => k b ob q, fun b ob q _ _ _ => ⟨ob.slots, k b ob q⟩, fun _ _ _ n _ => n, fun b ob q _ => ⟨ob, k b ob q⟩, fun _ _ q => q, fun _ _ _ q => q, fun _ ps q => ⟨#[], by rw [q]; simp⟩⟩
theorem Un.refl : Un fs ex H H h h := Un.kept fun _ _ q => q
theorem Un.laid (k : ∀ b u, h.get? b = some u → h'.get? b = some u) (hp : h.objs.size ≤ a) (hn : H a = none) : Un fs ex H (upd H a o) h h' where
  keep := fun b u q _ _ _ => k b u q
  slot := fun b u q _ _ _ => ⟨u.slots, k b u q⟩
  free := fun b u q n _ => by rw [upd_ne (Nat.ne_of_lt (Nat.lt_of_lt_of_le (Heap.lt_size q) hp))]; exact n
  there := fun b u q _ => ⟨u, k b u q⟩
  tups := fun b xs q => by rw [upd_ne (ne_of_none q hn)]; exact q
  frzs := fun b u xs q => by rw [upd_ne (ne_of_none q hn)]; exact q
  tbls := fun b ps q => ⟨#[], by rw [upd_ne (ne_of_none q hn), q]; simp⟩
theorem Un.write (mu : Mut (H x)) (he : e = x ∨ H e = some (.own x)) (k : ∀ b u, b ≠ e → h.get? b = some u → h'.get? b = some u) (heo : ∃ u, h'.get? e = some u) : Un fs ex H (upd H x o) h h' := by
  have hx : ∀ b, H b = none → b ≠ x := fun b n z => by subst z; rw [n] at mu; exact mu
  have hb : ∀ b, H b = none → b ≠ e := fun b n z => by
    subst z
    rcases he with r | r
    · exact hx b n r
    · rw [n] at r; cases r
  have hm : ∀ b u, H b = some u → ¬ Mut (some u) → b ≠ x := fun b u q nm z => by subst z; rw [q] at mu; exact nm mu
  refine ⟨fun b u q n _ _ => k b u (hb b n) q, fun b u q n _ _ => ⟨u.slots, k b u (hb b n) q⟩, fun b u q n _ => by rw [upd_ne (hx b n)]; exact n, fun b u q _ => ?_,
    fun b xs q => by rw [upd_ne (hm b _ q fun z => z)]; exact q, fun b u xs q => by rw [upd_ne (hm b _ q fun z => z)]; exact q, fun b ps q => ⟨#[], by rw [upd_ne (hm b _ q fun z => z), q]; simp⟩⟩
  by_cases hbe : b = e
  · subst hbe; exact heo
  · exact ⟨u, k b u hbe q⟩
end

/-! ### the heap without what is tracked -/
def trk (h : Heap) (H : Hp) : List Addr := (List.range h.objs.size).filter fun a => (H a).isSome
def hidT (h : Heap) (H : Hp) : Heap := PySem.W.hideAll h (trk h H)
theorem hidT_size (h : Heap) (H : Hp) : (hidT h H).objs.size = h.objs.size := PySem.W.hideAll_size _ _
theorem hidT_get {h : Heap} {H : Hp} {b : Addr} {o : Obj} (e : h.get? b = some o) (n : H b = none) : (hidT h H).get? b = some o :=
  PySem.W.hideAll_get _ e fun hm => by
    have q : (H b).isSome = true := (List.mem_filter.mp hm).2
    rw [n] at q; simp at q
theorem of_hidT {h : Heap} {H : Hp} {b : Addr} {o : Obj} (e : (hidT h H).get? b = some o) : h.get? b = some o ∧ H b = none := by
  have e' : h.get? b = some o := PySem.W.of_hideAll (trk h H) e
  refine ⟨e', ?_⟩
  cases q : H b with
  | none => rfl
  | some x =>
    have hm : b ∈ trk h H := List.mem_filter.mpr ⟨List.mem_range.mpr (Heap.lt_size e'), by simp [q]⟩
    have z : (hidT h H).get? b = none := PySem.W.hideAll_none (trk h H) hm
    rw [z] at e; cases e

/-! ### OpenK's ledger, filled with every new object but one -/
end L2

namespace L2
open PySem PySem.Spec PyProof.Rows

/-- the module's facts, over the base: the heap at the law's entry without what is tracked there -/
structure Mod (K : PySem.W.Frag) (mg : Str → Option Value) (base : Heap) : Prop where
  kin : K.In base
  glob : base.Ns mainGlobals mg
  blt : ∃ mb, base.Ns builtinsNs mb ∧ ∀ x : Str, x ≠ "__name__" → mb x = bootBuiltins x
  nolimit : base.NoLimit

/-- the context: a def's body (or a comprehension's block) running. base: fixed through the whole law; s₀, H₀: the entry; outer: the frames whose slots others may change (a def's callers); stack: all frames that run;
   ex: iterators that were made ahead of the entry and are walked here (a comprehension's); fn: the names whose cells were made at the entry (a def: all; a comprehension's block: its own); calm: not within an except suite; pn: pins that every state bears; xe: what is wanted of an exception that leaves the code -/
structure Cx where
  prog : Program
  w : World
  K : PySem.W.Frag
  mg : Str → Option Value
  base : Heap
  A : Around
  N : List Str
  s₀ : Shared
  H₀ : Hp
  env : Env
  outer : List Env
  stack : List Env
  ex : List Addr
  fn : Str → Bool
  calm : Bool
  pn : List (Addr × Obj)
  xe : Value → Shared → Prop
/-- the callers' frames -/
def frs (l : List Env) : List Addr := l.filterMap (·.frame)
abbrev Cx.fs (X : Cx) : List Addr := frs X.outer

def Vis (sc : Scope) (x : Str) : Prop := sc.names.lookup x = some .local ∨ sc.names.lookup x = some .cell ∨ sc.names.lookup x = some .free
def Loc (sc : Scope) (x : Str) : Prop := sc.names.lookup x = some .local ∨ sc.names.lookup x = some .cell
def Look (env : Env) (h : Heap) (m : Str → Option Value) (x : Str) (u : Value) : Prop :=
  (env.kindOf x = some .local ∧ m x = some u) ∨ ((env.kindOf x = some .cell ∨ env.kindOf x = some .free) ∧ ∃ c, env.cells.lookup x = some c ∧ h.IsCell c (some u))

structure Cx.Ok (X : Cx) : Prop where
  mod : Mod X.K X.mg X.base
  kind : X.env.scope.kind = .function
  glob : X.env.globals = mainGlobals
  blt : X.env.builtins = builtinsNs
  above : X.s₀.heap.objs.size ≤ X.env.locals
  inj : ∀ x y c, X.env.cells.lookup x = some c → X.env.cells.lookup y = some c → x = y
  has : ∀ x, (X.env.kindOf x = some .cell ∨ X.env.kindOf x = some .free) → ∃ c, X.env.cells.lookup x = some c
  cab : ∀ x c, X.fn x = true → X.env.cells.lookup x = some c → X.s₀.heap.objs.size ≤ c
  hd : X.calm = true → X.A.handled = none
  frames : X.A.frames = some X.stack
  stk : X.stack = X.outer ∨ (X.stack = X.env :: X.outer ∧ X.env.frame = some X.env.locals)
  exf : ∀ b ∈ X.ex, b ≠ X.env.locals ∧ ∀ x c, X.env.cells.lookup x = some c → c ≠ b
  bs : ∀ b o, X.base.get? b = some o → X.s₀.heap.get? b = some o ∧ X.H₀ b = none
  bsz : X.base.objs.size ≤ X.s₀.heap.objs.size
  noex : ∀ b o, X.base.get? b = some o → b ∉ X.ex
  exfs : ∀ b ∈ X.ex, b ∉ X.fs
  funs : X.s₀.heap.FunFrames X.base X.outer
  frf : ∀ b ∈ X.fs, X.H₀ b = none

structure Inv (X : Cx) (pins : List (Addr × Obj)) (σ : List (Option V)) (H : Hp) (s : Shared) : Prop where
  ok : X.Ok
  os : s.os = X.s₀.os
  bare : AllBare s.gens
  base : Un X.fs X.ex X.H₀ H X.s₀.heap s.heap
  loc : ∃ m, s.heap.Ns X.env.locals m ∧ ∀ (i : Nat) (x : Str) (v : V), X.N[i]? = some x → σ[i]? = some (some v) → Vis X.env.scope x → ∃ u, RelV v u ∧ Look X.env s.heap m x u
  cell : ∀ x c, X.env.cells.lookup x = some c → ∃ v, s.heap.IsCell c v
  free : H X.env.locals = none
  freeC : ∀ x c, X.env.cells.lookup x = some c → H c = none
  pin : ∀ p ∈ X.pn ++ pins, s.heap.get? p.1 = some p.2 ∧ H p.1 = none ∧ p.1 ≠ X.env.locals ∧ p.1 ∉ X.fs ∧ ∀ v, p.2.data ≠ .cell v
  hok : HOk X.prog X.w H s.heap
  len : σ.length = X.N.length

section
variable {X : Cx} {pins : List (Addr × Obj)} {σ : List (Option V)} {H H' : Hp} {s : Shared} {h' : Heap}

theorem Cx.Ok.nofr (ok : X.Ok) {b : Addr} {o : Obj} (e : X.base.get? b = some o) : b ∉ X.fs := fun hb => by
  have := (ok.funs.mem hb).1
  rw [e] at this; cases this
theorem Inv.bs (I : Inv X pins σ H s) : ∀ b o, X.base.get? b = some o → s.heap.get? b = some o ∧ H b = none := fun b o e =>
  ⟨I.base.keep b o (I.ok.bs b o e).1 (I.ok.bs b o e).2 (I.ok.nofr e) (I.ok.noex b o e), I.base.free b o (I.ok.bs b o e).1 (I.ok.bs b o e).2 (I.ok.noex b o e)⟩
theorem Inv.bk (I : Inv X pins σ H s) : ∀ b o, X.base.get? b = some o → s.heap.get? b = some o := fun b o e => (I.bs b o e).1
theorem Inv.mod (I : Inv X pins σ H s) : Mod X.K X.mg X.base := I.ok.mod
theorem Inv.kIn (I : Inv X pins σ H s) : X.K.In s.heap := I.ok.mod.kin.keeps I.bk
theorem Inv.lt (I : Inv X pins σ H s) : X.env.locals < s.heap.objs.size := let ⟨_, hn, _⟩ := I.loc; hn.lt
theorem Inv.sz (I : Inv X pins σ H s) : X.s₀.heap.objs.size ≤ s.heap.objs.size := Nat.le_trans I.ok.above (Nat.le_of_lt I.lt)
theorem Inv.nofs (I : Inv X pins σ H s) {a : Addr} (h : s.heap.objs.size ≤ a) : a ∉ X.fs := fun hb => by
  obtain ⟨_, o, ho, _⟩ := I.ok.funs.mem hb
  exact absurd (Nat.lt_of_lt_of_le (Heap.lt_size ho) (Nat.le_trans I.sz h)) (Nat.lt_irrefl _)
theorem Inv.cne (I : Inv X pins σ H s) : ∀ x c, X.env.cells.lookup x = some c → c ≠ X.env.locals := fun x c e z => by
  obtain ⟨v, o, ho, hd⟩ := I.cell x c e
  obtain ⟨m, ⟨o', es, ep, ho', hd', _⟩, _⟩ := I.loc
  rw [z, ho'] at ho; cases ho; rw [hd'] at hd; cases hd
theorem Inv.funs (I : Inv X pins σ H s) : s.heap.FunFrames X.base X.outer := by
  have all : ∀ (l : List Env), (∀ b ∈ frs l, b ∈ X.fs) → X.s₀.heap.FunFrames X.base l → s.heap.FunFrames X.base l := by
    intro l
    induction l with
    | nil => intro _ _; trivial
    | cons env r ih =>
      intro hs hl
      obtain ⟨hk, ⟨L, o, hf, hn, ho, hd⟩, hr⟩ := hl
      have hL : L ∈ X.fs := hs L (by unfold frs; rw [List.filterMap_cons, hf]; exact List.mem_cons_self)
      obtain ⟨sl, e⟩ := I.base.slot L o ho (I.ok.frf L hL) hL fun z => I.ok.exfs L z hL
      exact ⟨hk, ⟨L, _, hf, hn, e, hd⟩, ih (fun b hb => hs b (by unfold frs; rw [List.filterMap_cons, hf]; exact List.mem_cons_of_mem _ hb)) hr⟩
  exact all X.outer (fun _ hb => hb) I.ok.funs

/-- the frames that run, for a call -/
theorem Inv.stack (I : Inv X pins σ H s) : s.heap.FunFrames X.base X.stack := by
  rcases I.ok.stk with e | ⟨e, hf⟩
  · rw [e]; exact I.funs
  · rw [e]
    obtain ⟨m, hn, _⟩ := I.loc
    refine .cons (by rw [I.ok.kind]; decide) hf hn ?_ I.funs
    exact Heap.get?_none_of_le (Nat.le_trans I.ok.bsz I.ok.above)
theorem Inv.stkSub (I : Inv X pins σ H s) : ∀ b ∈ frs X.stack, b ∈ X.env.locals :: X.fs := fun b hb => by
  rcases I.ok.stk with e | ⟨e, hf⟩
  · rw [e] at hb; exact List.mem_cons_of_mem _ hb
  · rw [e] at hb
    unfold frs at hb
    rw [List.filterMap_cons, hf] at hb
    exact hb
theorem Inv.stkFree (I : Inv X pins σ H s) : ∀ b ∈ frs X.stack, H b = none := fun b hb => by
  rcases List.mem_cons.mp (I.stkSub b hb) with e | hb
  · rw [e]; exact I.free
  · obtain ⟨_, o, ho, _⟩ := I.ok.funs.mem hb
    exact I.base.free b o ho (I.ok.frf b hb) fun z => I.ok.exfs b z hb

/-- THE STEP: the untracked objects but the frame and the records at ch are kept (the callers' frames up to slots), the frame's map is kept, the new abstract heap is held -/
theorem Inv.step {g' : Array GenState} {t' : Nat} {d' : Drawn} {ch : List Addr} (I : Inv X pins σ H s)
    (hch : ∀ b ∈ ch, (b ∈ X.ex ∨ X.s₀.heap.objs.size ≤ b) ∧ b ≠ X.env.locals ∧ (∀ x c, X.env.cells.lookup x = some c → c ≠ b) ∧ ∀ p ∈ X.pn ++ pins, p.1 ≠ b)
    (keep : ∀ b o, b ≠ X.env.locals → b ∉ X.fs → b ∉ ch → s.heap.get? b = some o → H b = none → h'.get? b = some o)
    (slot : ∀ b o, b ≠ X.env.locals → b ∈ X.fs → b ∉ ch → s.heap.get? b = some o → H b = none → ∃ sl, h'.get? b = some { o with slots := sl }) (free : ∀ b o, b ∉ ch → s.heap.get? b = some o → H b = none → H' b = none)
    (there : ∀ b o, b ∉ ch → s.heap.get? b = some o → ∃ o', h'.get? b = some o')
    (tups : ∀ b xs, H b = some (.tup xs) → H' b = some (.tup xs)) (frzs : ∀ b o u, H b = some (.frz o u) → H' b = some (.frz o u)) (tbls : ∀ b ps, H b = some (.tbl ps) → ∃ more, H' b = some (.tbl (ps ++ more)))
    (ns : ∀ m, s.heap.Ns X.env.locals m → h'.Ns X.env.locals m) (hok : HOk X.prog X.w H' h') (hg : AllBare g') :
    Inv X pins σ H' { s with heap := h', gens := g', drawn := d', toks := t' } := by
  have neL : ∀ b o, X.s₀.heap.get? b = some o → b ≠ X.env.locals := fun b o e => Nat.ne_of_lt (Nat.lt_of_lt_of_le (Heap.lt_size e) I.ok.above)
  have neC : ∀ b o, X.s₀.heap.get? b = some o → b ∉ X.ex → b ∉ ch := fun b o e hx hb => by
    rcases (hch b hb).1 with z | z
    · exact hx z
    · exact absurd (Nat.lt_of_lt_of_le (Heap.lt_size e) z) (Nat.lt_irrefl _)
  have cellK : ∀ x c, X.env.cells.lookup x = some c → ∀ v, s.heap.IsCell c v → h'.IsCell c v := fun x c e v ⟨o, ho, hd⟩ => by
    have nch : c ∉ ch := fun z => (hch c z).2.2.1 x c e rfl
    by_cases hc : c ∈ X.fs
    · obtain ⟨sl, q⟩ := slot c o (I.cne x c e) hc nch ho (I.freeC x c e)
      exact ⟨_, q, hd⟩
    · exact ⟨o, keep c o (I.cne x c e) hc nch ho (I.freeC x c e), hd⟩
  refine ⟨I.ok, I.os, hg, ⟨fun b o e n hb hx => ?_, fun b o e n hb hx => ?_, fun b o e n hx => ?_, fun b o e hx => ?_, fun b xs e => tups b xs (I.base.tups b xs e), fun b o xs e => frzs b o xs (I.base.frzs b o xs e), fun b ps e => ?_⟩, ?_, fun x c e => ?_, ?_, fun x c e => ?_, fun p hp => ?_, hok, I.len⟩
  · exact keep b o (neL b o e) hb (neC b o e hx) (I.base.keep b o e n hb hx) (I.base.free b o e n hx)
  · obtain ⟨sl, e1⟩ := I.base.slot b o e n hb hx
    obtain ⟨sl', e2⟩ := slot b _ (neL b o e) hb (neC b o e hx) e1 (I.base.free b o e n hx)
    exact ⟨sl', e2⟩
  · obtain ⟨o', e1⟩ := I.base.there b o e hx
    exact free b o' (neC b o e hx) e1 (I.base.free b o e n hx)
  · obtain ⟨o', e1⟩ := I.base.there b o e hx
    exact there b o' (neC b o e hx) e1
  · obtain ⟨m1, e1⟩ := I.base.tbls b ps e
    obtain ⟨m2, e2⟩ := tbls b _ e1
    exact ⟨m1 ++ m2, by rw [e2, Array.append_assoc]⟩
  · obtain ⟨m, hn, hl⟩ := I.loc
    refine ⟨m, ns m hn, fun i x v e1 e2 e3 => ?_⟩
    obtain ⟨u, r, l⟩ := hl i x v e1 e2 e3
    refine ⟨u, r, ?_⟩
    rcases l with l | ⟨k, c, e, z⟩
    · exact .inl l
    · exact .inr ⟨k, c, e, cellK x c e _ z⟩
  · obtain ⟨v, z⟩ := I.cell x c e
    exact ⟨v, cellK x c e v z⟩
  · obtain ⟨m, ⟨o, _, _, ho, _⟩, _⟩ := I.loc
    exact free _ o (fun z => (hch _ z).2.1 rfl) ho I.free
  · obtain ⟨v, o, ho, hd⟩ := I.cell x c e
    exact free c o (fun z => (hch c z).2.2.1 x c e rfl) ho (I.freeC x c e)
  · obtain ⟨e, n, ne, nf, d⟩ := I.pin p hp
    have nch : p.1 ∉ ch := fun z => (hch p.1 z).2.2.2 p hp rfl
    exact ⟨keep p.1 p.2 ne nf nch e n, free p.1 p.2 nch e n, ne, nf, d⟩
/-- .. where the frame's own object is kept too -/
theorem Inv.un {t' : Nat} (I : Inv X pins σ H s) (u : Un X.fs [] H H' s.heap h') (hok : HOk X.prog X.w H' h') : Inv X pins σ H' { s with heap := h', toks := t' } := by
  obtain ⟨m, ⟨o, es, ep, ho, r⟩, _⟩ := id I.loc
  obtain ⟨sl, hL⟩ := u.any ho I.free (by simp)
  exact I.step (g' := s.gens) (d' := s.drawn) (ch := []) (fun _ z => nomatch z) (fun b o _ hb _ e n => u.keep b o e n hb (by simp)) (fun b o _ hb _ e n => u.slot b o e n hb (by simp)) (fun b o _ e n => u.free b o e n (by simp)) (fun b o _ e => u.there b o e (by simp)) u.tups u.frzs u.tbls (fun m' hm => by
    obtain ⟨o', es', ep', ho', r'⟩ := hm
    rw [ho] at ho'; cases ho'
    exact ⟨_, es', ep', hL, r'⟩) hok I.bare
/-- behind a call (or a comprehension's block): the slots of this frame may have changed too, the records at ch may have turned -/
theorem Inv.call {g' : Array GenState} {t' : Nat} {d' : Drawn} {ch : List Addr} (I : Inv X pins σ H s) (u : Un (frs X.stack) ch H H' s.heap h') (hok : HOk X.prog X.w H' h') (hg : AllBare g')
    (hch : ∀ b ∈ ch, (b ∈ X.ex ∨ X.s₀.heap.objs.size ≤ b) ∧ b ≠ X.env.locals ∧ (∀ x c, X.env.cells.lookup x = some c → c ≠ b) ∧ ∀ p ∈ X.pn ++ pins, p.1 ≠ b) :
    Inv X pins σ H' { s with heap := h', gens := g', drawn := d', toks := t' } := by
  obtain ⟨m, ⟨o, es, ep, ho, r⟩, _⟩ := id I.loc
  obtain ⟨sl, hL⟩ := u.any ho I.free fun z => (hch _ z).2.1 rfl
  exact I.step (ch := ch) hch (fun b o hL hb hc e n => u.keep b o e n (fun z => (List.mem_cons.mp (I.stkSub b z)).elim hL hb) hc) (fun b o _ _ hc e n => u.any e n hc) (fun b o hc e n => u.free b o e n hc) (fun b o hc e => u.there b o e hc) u.tups u.frzs u.tbls (fun m' hm => by
    obtain ⟨o', es', ep', ho', r'⟩ := hm
    rw [ho] at ho'; cases ho'
    exact ⟨_, es', ep', hL, r'⟩) hok hg
/-- an untracked record of ours (an iterator) has turned -/
theorem Inv.turned {t' : Nat} {it : Addr} (I : Inv X pins σ H s) (k : ∀ b o, b ≠ it → s.heap.get? b = some o → h'.get? b = some o) (hn : H it = none) (hL : it ≠ X.env.locals)
    (h1 : it ∈ X.ex ∨ X.s₀.heap.objs.size ≤ it) (h2 : ∀ x c, X.env.cells.lookup x = some c → c ≠ it) (h3 : ∀ p ∈ X.pn ++ pins, p.1 ≠ it) : Inv X pins σ H { s with heap := h', toks := t' } := by
  have nit : ∀ b u, H b = some u → b ≠ it := fun b u e z => by rw [z, hn] at e; cases e
  refine I.step (g' := s.gens) (d' := s.drawn) (ch := [it]) (fun b hb => ?_) (fun b o _ _ hc e _ => k b o (fun z => hc (by simp [z])) e) (fun b o _ _ hc e _ => ⟨o.slots, k b o (fun z => hc (by simp [z])) e⟩) (fun _ _ _ _ n => n)
    (fun b o hc e => ⟨o, k b o (fun z => hc (by simp [z])) e⟩) (fun _ _ e => e) (fun _ _ _ e => e) (fun b ps e => ⟨#[], by rw [e]; simp⟩) (fun m hm => ?_) (fun b u e => ?_) I.bare
  · have e : b = it := by simpa using hb
    subst e
    exact ⟨h1, hL, h2, h3⟩
  · obtain ⟨o, es, ep, ho, r⟩ := hm
    exact ⟨o, es, ep, k _ o (Ne.symm hL) ho, r⟩
  · refine (I.hok b u e).stay (fun c v hc q => k c v ?_ q) (fun _ q => q) fun _ _ q => q
    rcases hc with z | z
    · rw [z]; exact nit b u e
    · exact nit c _ z
theorem Inv.tok (I : Inv X pins σ H s) (t : Nat) : Inv X pins σ H { s with toks := t } := I.un (h' := s.heap) (t' := t) Un.refl I.hok
/-- all objects kept -/
theorem Inv.kept {t' : Nat} (I : Inv X pins σ H s) (k : ∀ b u, s.heap.get? b = some u → h'.get? b = some u) : Inv X pins σ H { s with heap := h', toks := t' } := I.un (Un.kept k) (I.hok.kept k)
/-- a new object laid and tracked -/
theorem Inv.laid {a : Addr} {o : HO} {t' : Nat} (I : Inv X pins σ H s) (k : ∀ b u, s.heap.get? b = some u → h'.get? b = some u) (hp : s.heap.objs.size ≤ a) (new : ObjOk X.prog X.w (upd H a o) h' a o) :
    Inv X pins σ (upd H a o) { s with heap := h', toks := t' } := I.un (Un.laid k hp (I.hok.fresh hp)) (I.hok.laid k hp new)
/-- an object written -/
theorem Inv.write {x e : Addr} {o : HO} {t' : Nat} (I : Inv X pins σ H s) (mu : Mut (H x)) (he : e = x ∨ H e = some (.own x)) (k : ∀ b u, b ≠ e → s.heap.get? b = some u → h'.get? b = some u) (heo : ∃ u, h'.get? e = some u)
    (new : ObjOk X.prog X.w (upd H x o) h' x o) : Inv X pins σ (upd H x o) { s with heap := h', toks := t' } := I.un (Un.write mu he k heo) (I.hok.write mu he k heo new)
/-- forgetting slots, pins -/
theorem Inv.weak {σ' : List (Option V)} (I : Inv X pins σ H s) (hl : σ'.length = σ.length) (w : ∀ (i : Nat) v, σ'[i]? = some (some v) → σ[i]? = some (some v)) : Inv X pins σ' H s :=
  ⟨I.ok, I.os, I.bare, I.base, let ⟨m, hn, hl'⟩ := I.loc; ⟨m, hn, fun i x v e1 e2 e3 => hl' i x v e1 (w i v e2) e3⟩, I.cell, I.free, I.freeC, I.pin, I.hok, hl.trans I.len⟩
theorem Inv.pins_of {pins' : List (Addr × Obj)} (I : Inv X pins σ H s) (h : ∀ p ∈ pins', s.heap.get? p.1 = some p.2 ∧ H p.1 = none ∧ p.1 ≠ X.env.locals ∧ p.1 ∉ X.fs ∧ ∀ v, p.2.data ≠ .cell v) : Inv X pins' σ H s :=
  ⟨I.ok, I.os, I.bare, I.base, I.loc, I.cell, I.free, I.freeC, fun p hp => (List.mem_append.mp hp).elim (fun z => I.pin p (List.mem_append_left _ z)) (h p), I.hok, I.len⟩

theorem nodup_ix {N : List Str} (hN : N.Nodup) {i j : Nat} {x : Str} (a : N[i]? = some x) (b : N[j]? = some x) : i = j := by
  obtain ⟨h1, e1⟩ := List.getElem?_eq_some_iff.mp a
  obtain ⟨h2, e2⟩ := List.getElem?_eq_some_iff.mp b
  exact (List.getElem_inj hN).mp (e1.trans e2.symm)

/-- a name is stored; what changed -/
theorem store_ok2 {M : Model} {A : Around} {E : Value → Shared → Prop} {i : Nat} {x : Str} {v : V} {u : Value} {Q : Unit → Shared → Prop} (I : Inv X pins σ H s) (hN : X.N.Nodup) (hi : X.N[i]? = some x) (hx : Loc X.env.scope x) (r : RelV v u)
    (h : ∀ s', Inv X pins (σ.set i (some v)) H s' → (∃ a, Heap.SameBut a s.heap s'.heap ∧ (a = X.env.locals ∨ X.env.cells.lookup x = some a)) → Q () s') (hf : X.fn x = true ∨ X.env.scope.names.lookup x = some .local := by first | exact .inl rfl | exact .inr rfl | assumption) : wpAny M A (storeName X.env x u) Q E s := by
  obtain ⟨m, hn, hl⟩ := id I.loc
  have hcls : (X.env.scope.kind == .class || (X.env.scope.kind == .module && X.env.locals != X.env.globals)) = false := by rw [I.ok.kind]; rfl
  have hiσ : i < σ.length := by rw [I.len]; exact (List.getElem?_eq_some_iff.mp hi).1
  have cne := I.cne
  have tracked : ∀ {a : Addr} {h' : Heap}, (∃ o, s.heap.get? a = some o ∧ H a = none) → Heap.SameBut a s.heap h' → HOk X.prog X.w H h' := fun {a h'} ha hs b ob e => by
    obtain ⟨_, _, hfree⟩ := ha
    refine (I.hok b ob e).stay (fun c w' hc q => (hs.2 c ?_).trans q) (fun _ q => q) fun _ _ q => q
    rintro rfl
    rcases hc with rfl | hc
    · rw [hfree] at e; cases e
    · rw [hfree] at hc; cases hc
  rcases hx with hk | hk
  · refine wpAny_storeName_local hk hn (fun h' hn' hs => ?_) hcls
    obtain ⟨oL, _, _, hoL, _⟩ := id hn
    refine h _ ⟨I.ok, I.os, I.bare, ⟨fun b o e n hb hx => ?_, fun b o e n hb hx => ?_, I.base.free, fun b o e hx => ?_, I.base.tups, I.base.frzs, I.base.tbls⟩, ⟨_, hn', fun j y v' e1 e2 e3 => ?_⟩, fun y c e => ?_, I.free, I.freeC, fun p hp => ?_, tracked ⟨oL, hoL, I.free⟩ hs, by simpa using I.len⟩ ⟨_, hs, .inl rfl⟩
    · exact (hs.2 b (Nat.ne_of_lt (Nat.lt_of_lt_of_le (Heap.lt_size e) I.ok.above))).trans (I.base.keep b o e n hb hx)
    · obtain ⟨sl, e1⟩ := I.base.slot b o e n hb hx
      exact ⟨sl, (hs.2 b (Nat.ne_of_lt (Nat.lt_of_lt_of_le (Heap.lt_size e) I.ok.above))).trans e1⟩
    · obtain ⟨o', e1⟩ := I.base.there b o e hx
      exact ⟨o', (hs.2 b (Nat.ne_of_lt (Nat.lt_of_lt_of_le (Heap.lt_size e) I.ok.above))).trans e1⟩
    · by_cases hj : j = i
      · subst hj
        rw [hi] at e1; cases e1
        rw [List.getElem?_set_self hiσ] at e2
        cases e2
        exact ⟨u, r, .inl ⟨hk, by simp⟩⟩
      · rw [List.getElem?_set_ne (Ne.symm hj)] at e2
        obtain ⟨u', r', q⟩ := hl j y v' e1 e2 e3
        refine ⟨u', r', ?_⟩
        rcases q with ⟨k, e⟩ | ⟨k, c, e, z⟩
        · refine .inl ⟨k, ?_⟩
          have : y ≠ x := fun e => hj (nodup_ix hN e1 (e ▸ hi))
          simp [this, e]
        · exact .inr ⟨k, c, e, z.sameBut hs (cne y c e)⟩
    · obtain ⟨w', z⟩ := I.cell y c e
      exact ⟨w', z.sameBut hs (cne y c e)⟩
    · obtain ⟨e, n, ne, nf, d⟩ := I.pin p hp
      exact ⟨(hs.2 p.1 ne).trans e, n, ne, nf, d⟩
  · have hfn : X.fn x = true := by
      rcases hf with z | z
      · exact z
      · rw [z] at hk; cases hk
    obtain ⟨c, hc⟩ := I.ok.has x (.inl hk)
    obtain ⟨w', z⟩ := I.cell x c hc
    refine wpAny_storeName_cell I.ok.kind hk hc z (fun h' hc' hs => ?_)
    obtain ⟨oc, hoc, hocd⟩ := id z
    refine h { s with heap := h' } ⟨I.ok, I.os, I.bare, ⟨fun b o e n hb hx => ?_, fun b o e n hb hx => ?_, I.base.free, fun b o e hx => ?_, I.base.tups, I.base.frzs, I.base.tbls⟩, ⟨m, hn.sameBut hs (Ne.symm (cne x c hc)), fun j y v' e1 e2 e3 => ?_⟩, fun y c' e => ?_, I.free, I.freeC, fun p hp => ?_, tracked ⟨oc, hoc, I.freeC x c hc⟩ hs, by simpa using I.len⟩ ⟨c, hs, .inr hc⟩
    · exact (hs.2 b (Nat.ne_of_lt (Nat.lt_of_lt_of_le (Heap.lt_size e) (I.ok.cab x c hfn hc)))).trans (I.base.keep b o e n hb hx)
    · obtain ⟨sl, e1⟩ := I.base.slot b o e n hb hx
      exact ⟨sl, (hs.2 b (Nat.ne_of_lt (Nat.lt_of_lt_of_le (Heap.lt_size e) (I.ok.cab x c hfn hc)))).trans e1⟩
    · obtain ⟨o', e1⟩ := I.base.there b o e hx
      exact ⟨o', (hs.2 b (Nat.ne_of_lt (Nat.lt_of_lt_of_le (Heap.lt_size e) (I.ok.cab x c hfn hc)))).trans e1⟩
    · by_cases hj : j = i
      · subst hj
        rw [hi] at e1; cases e1
        rw [List.getElem?_set_self hiσ] at e2
        cases e2
        exact ⟨u, r, .inr ⟨.inl hk, c, hc, hc'⟩⟩
      · rw [List.getElem?_set_ne (Ne.symm hj)] at e2
        obtain ⟨u', r', q⟩ := hl j y v' e1 e2 e3
        refine ⟨u', r', ?_⟩
        rcases q with q | ⟨k, c', e, z'⟩
        · exact .inl q
        · refine .inr ⟨k, c', e, z'.sameBut hs ?_⟩
          rintro rfl
          exact hj (nodup_ix hN e1 (I.ok.inj _ _ _ e hc ▸ hi))
    · by_cases hcc : c' = c
      · subst hcc; exact ⟨_, hc'⟩
      · obtain ⟨w2, z2⟩ := I.cell y c' e
        exact ⟨w2, z2.sameBut hs hcc⟩
    · obtain ⟨e, n, ne, nf, d⟩ := I.pin p hp
      refine ⟨(hs.2 p.1 ?_).trans e, n, ne, nf, d⟩
      intro q
      rw [q, hoc] at e
      have q' : oc = p.2 := Option.some.inj e
      exact d w' (by rw [← q']; exact hocd)
theorem store_ok {M : Model} {A : Around} {E : Value → Shared → Prop} {i : Nat} {x : Str} {v : V} {u : Value} {Q : Unit → Shared → Prop} (I : Inv X pins σ H s) (hN : X.N.Nodup) (hi : X.N[i]? = some x) (hx : Loc X.env.scope x) (r : RelV v u)
    (h : ∀ s', Inv X pins (σ.set i (some v)) H s' → Q () s') (hf : X.fn x = true ∨ X.env.scope.names.lookup x = some .local := by first | exact .inl rfl | exact .inr rfl | assumption) : wpAny M A (storeName X.env x u) Q E s :=
  store_ok2 I hN hi hx r (fun s' I' _ => h s' I') hf
/-- behind a call or a block, the state as it is -/
theorem Inv.call' {s' : Shared} {ch : List Addr} (I : Inv X pins σ H s) (ho : s'.os = s.os) (u : Un (frs X.stack) ch H H' s.heap s'.heap) (hok : HOk X.prog X.w H' s'.heap) (hg : AllBare s'.gens)
    (hch : ∀ b ∈ ch, (b ∈ X.ex ∨ X.s₀.heap.objs.size ≤ b) ∧ b ≠ X.env.locals ∧ (∀ x c, X.env.cells.lookup x = some c → c ≠ b) ∧ ∀ p ∈ X.pn ++ pins, p.1 ≠ b) : Inv X pins σ H' s' := by
  obtain ⟨h', g', d', t', o'⟩ := s'
  have e : o' = s.os := ho
  subst e
  exact I.call (g' := g') (t' := t') (d' := d') u hok hg hch
end

/-! ### the judgements -/
/-- an exception: its class, its own dict's address (where it has one), the abstract heap behind it -/
abbrev XK := Value → Option Addr → Hp → Prop
abbrev St := List (Option V)
abbrev VK := V → Hp → Prop
/-- an expression's reading; a test's; an argument list's -/
abbrev TE := St → Hp → VK → Prop
abbrev TT := St → Hp → (Bool → Hp → Prop) → Prop
abbrev TA := St → Hp → (List V → Hp → Prop) → Prop
/-- what is wanted behind a statement -/
structure Ends where
  nx : St → Hp → Prop
  rt : VK
  bk : St → Hp → Prop := fun _ _ => False
  ct : St → Hp → Prop := fun _ _ => False
abbrev TS := Ends → St → Hp → Prop

def EP (X : Cx) (pins : List (Addr × Obj)) (σ : St) (Q : VK) (u : Value) (s' : Shared) : Prop := ∃ v H', Inv X pins σ H' s' ∧ RelV v u ∧ Q v H'
def TP (X : Cx) (pins : List (Addr × Obj)) (σ : St) (Q : Bool → Hp → Prop) (b : Bool) (s' : Shared) : Prop := ∃ H', Inv X pins σ H' s' ∧ Q b H'
def AP (X : Cx) (pins : List (Addr × Obj)) (σ : St) (Q : List V → Hp → Prop) (us : List Value) (s' : Shared) : Prop := ∃ vs H', Inv X pins σ H' s' ∧ Vals vs us ∧ Q vs H'
def SP (X : Cx) (pins : List (Addr × Obj)) (D : Ends) (f : Flow) (s' : Shared) : Prop :=
  match f with
  | .next => ∃ σ' H', Inv X pins σ' H' s' ∧ D.nx σ' H'
  | .brk => ∃ σ' H', Inv X pins σ' H' s' ∧ D.bk σ' H'
  | .cont => ∃ σ' H', Inv X pins σ' H' s' ∧ D.ct σ' H'
  | .ret u => ∃ v σ' H', Inv X pins σ' H' s' ∧ RelV v u ∧ D.rt v H'

def PE (X : Cx) (e : Expr) (t : TE) : Prop :=
  ∀ (pins : List (Addr × Obj)) (s : Shared) (σ : St) (H : Hp) (Q : VK), Inv X pins σ H s → t σ H Q → wpAny (model X.prog X.w) X.A (eval e X.env) (EP X pins σ Q) X.xe s
def PT (X : Cx) (e : Expr) (t : TT) : Prop :=
  ∀ (pins : List (Addr × Obj)) (s : Shared) (σ : St) (H : Hp) (Q : Bool → Hp → Prop), Inv X pins σ H s → t σ H Q → wpAny (model X.prog X.w) X.A (isTrue e X.env (eval e X.env)) (TP X pins σ Q) X.xe s
/-- a test whatever its 'whole' is (and, or) -/
def PW (X : Cx) (e : Expr) (t : TT) : Prop :=
  ∀ (whole : Sem Value) (pins : List (Addr × Obj)) (s : Shared) (σ : St) (H : Hp) (Q : Bool → Hp → Prop), Inv X pins σ H s → t σ H Q → wpAny (model X.prog X.w) X.A (isTrue e X.env whole) (TP X pins σ Q) X.xe s
theorem PW.pt {X : Cx} {e : Expr} {t : TT} (h : PW X e t) : PT X e t := h _
/-- an argument list (no star), from the left -/
def PA (X : Cx) (es : List Expr) (t : TA) : Prop :=
  ∀ (pos : Pos) (pins : List (Addr × Obj)) (s : Shared) (σ : St) (H : Hp) (Q : List V → Hp → Prop), Inv X pins σ H s → t σ H Q → wpAny (model X.prog X.w) X.A (spliced (backTo pos (starEach es X.env))) (AP X pins σ Q) X.xe s
def PS (X : Cx) (st : Stmt) (t : TS) : Prop :=
  ∀ (pins : List (Addr × Obj)) (s : Shared) (σ : St) (H : Hp) (D : Ends), Inv X pins σ H s → t D σ H → wpAny (model X.prog X.w) X.A (exec st X.env) (SP X pins D) X.xe s
def PSs (X : Cx) (st : List Stmt) (t : TS) : Prop :=
  ∀ (pins : List (Addr × Obj)) (s : Shared) (σ : St) (H : Hp) (D : Ends), Inv X pins σ H s → t D σ H → wpAny (model X.prog X.w) X.A (execs st X.env) (SP X pins D) X.xe s
/-- weaken the end -/
theorem thn {α : Type} {t : Sem α} {Q Q' : α → Shared → Prop} {M : Model} {A : Around} {E : Value → Shared → Prop} {s : Shared} (h : wpAny M A t Q E s) (hQ : ∀ a s, Q a s → Q' a s) : wpAny M A t Q' E s := wpAny_mono h hQ fun _ _ x => x
end L2

namespace L2
open PySem PySem.Spec PyProof.Rows
section
variable {X : Cx}

/-! ### names and constants -/
def tVar (i : Nat) : TE := fun σ H Q => ∃ v, σ[i]? = some (some v) ∧ Q v H
def tC (v : V) : TE := fun _ H Q => Q v H
theorem pe_var {i : Nat} {x : Str} {pos : Pos} (hN : X.N[i]? = some x) (hv : Vis X.env.scope x) (hd : (x == ("__debug__" : Str)) = false := by decide) (hcd : (x == ("__classdict__" : Str)) = false := by decide) : PE X (.Name x pos) (tVar i) := by
  intro pins s σ H Q I h
  obtain ⟨v, e, h⟩ := h
  obtain ⟨m, hn, hl⟩ := I.loc
  obtain ⟨u, r, l⟩ := hl i x v hN e hv
  have fin : EP X pins σ Q u s := ⟨v, H, I, r, h⟩
  rcases l with ⟨hk, hm⟩ | ⟨hk, c, hc, hcell⟩
  · exact wpAny_Name (wpAny_loadName_local I.ok.kind hk hn hm fin) hd
  · rcases hk with hk | hk
    · exact wpAny_Name (wpAny_loadName_cell I.ok.kind hk hc hcell fin) hd
    · exact wpAny_Name (wpAny_loadName_free I.ok.kind hk hc hcell fin hcd) hd
theorem pe_int {i j pos} : PE X (.Constant (.int i) j pos) (tC (.int i)) := fun _ _ _ H _ I h => wpAny_Constant_int ⟨.int i, H, I.tok _, ⟨_, rfl⟩, h⟩
theorem pe_str {x j pos} : PE X (.Constant (.str x) j pos) (tC (.str x)) := fun _ _ _ H _ I h => Calls.Constant_str ⟨.str x, H, I.tok _, ⟨_, rfl⟩, h⟩

/-- a global name of the def -/
def Gl (X : Cx) (x : Str) : Prop := X.env.kindOf x = some .globalImplicit
theorem ld_glob {E : Value → Shared → Prop} {pins : List (Addr × Obj)} {s : Shared} {σ : St} {H : Hp} {x : Str} {u : Value} {pos : Pos} {Q : Value → Shared → Prop} (I : Inv X pins σ H s) (hg : Gl X x) (hm : X.mg x = some u) (h : Q u s)
    (hd : (x == ("__debug__" : Str)) = false := by decide) : wpAny (model X.prog X.w) X.A (eval (.Name x pos) X.env) Q E s :=
  Calls.Name_function_global I.ok.kind hg (Calls.loadGlobal_global (by rw [I.ok.glob]; exact I.mod.glob.keeps I.bk) hm h) hd
theorem ld_blt {E : Value → Shared → Prop} {pins : List (Addr × Obj)} {s : Shared} {σ : St} {H : Hp} {x : Str} {u : Value} {pos : Pos} {Q : Value → Shared → Prop} (I : Inv X pins σ H s) (hg : Gl X x) (hm : X.mg x = none) (hv : bootBuiltins x = some u) (h : Q u s)
    (hn : x ≠ "__name__" := by decide) (hd : (x == ("__debug__" : Str)) = false := by decide) : wpAny (model X.prog X.w) X.A (eval (.Name x pos) X.env) Q E s := by
  obtain ⟨mb, h1, h2⟩ := I.mod.blt
  exact Calls.Name_function_global I.ok.kind hg (Calls.loadGlobal_builtin (by rw [I.ok.glob]; exact I.mod.glob.keeps I.bk) hm (by rw [I.ok.blt]; exact h1.keeps I.bk) ((h2 x hn).trans hv) h) hd
/-- a module's constant, a class, a function, as a value -/
theorem pe_glob {x : Str} {v : V} {u : Value} {pos : Pos} (hg : Gl X x) (hm : X.mg x = some u) (r : RelV v u) (hd : (x == ("__debug__" : Str)) = false := by decide) : PE X (.Name x pos) (tC v) :=
  fun _ _ _ H _ I h => ld_glob I hg hm ⟨v, H, I, r, h⟩ hd

/-! ### arithmetic -/
variable {a b : Expr} {ta tb : TE} {pos : Pos}

/-! ### comparisons -/
/-- a comparison as a value, as a test -/
def tB (t : TE) : TT := fun σ H Q => t σ H fun x H1 => ∃ c, x = .bl c ∧ Q c H1
/-- an expression whose value is a bool, as a test -/
theorem pt_val {e : Expr} {t : TE} (h : PE X e t) (he : ∀ whole, isTrue e X.env whole = (do let v ← whole; standAt e.pos; holding [v] (truthy v)) := by intro _; rfl) : PT X e (tB t) := by
  intro pins s σ H Q I hw
  refine isTrue_plain (thn (h pins s σ H _ I hw) fun v s1 ⟨x, H1, I1, r1, q1⟩ => ?_) (he _)
  obtain ⟨d, rfl, q⟩ := q1
  cases r1
  exact wpAny_truthy_bool ⟨H1, I1, q⟩

/-! ### and, or, not -/
variable {tA tB' : TT} {rest : List Expr}
def tAnd (t u : TT) : TT := fun σ H Q => t σ H fun c H1 => if c = true then u σ H1 Q else Q false H1
def tOr (t u : TT) : TT := fun σ H Q => t σ H fun c H1 => if c = true then Q true H1 else u σ H1 Q
def tNot (t : TT) : TT := fun σ H Q => t σ H fun c H1 => Q (!c) H1
theorem pw_and1 (ha : PT X a tA) : PW X (.BoolOp .And [a] pos) tA := by
  intro wh pins s σ H Q I h
  refine isTrue_and (thn (ha pins s σ H Q I h) fun c s1 e => ?_)
  cases c with
  | true => exact isTrue_and_nil e
  | false => exact e
theorem pw_or1 (ha : PT X a tA) : PW X (.BoolOp .Or [a] pos) tA := by
  intro wh pins s σ H Q I h
  refine isTrue_or (thn (ha pins s σ H Q I h) fun c s1 e => ?_)
  cases c with
  | false => exact isTrue_or_nil e
  | true => exact e
theorem pw_and (ha : PT X a tA) (hb : PW X (.BoolOp .And (b :: rest) pos) tB') : PW X (.BoolOp .And (a :: b :: rest) pos) (tAnd tA tB') := by
  intro wh pins s σ H Q I h
  refine isTrue_and (thn (ha pins s σ H _ I h) fun c s1 ⟨H1, I1, q1⟩ => ?_)
  cases c with
  | true => exact hb wh pins s1 σ H1 Q I1 q1
  | false => exact ⟨H1, I1, q1⟩
theorem pw_or (ha : PT X a tA) (hb : PW X (.BoolOp .Or (b :: rest) pos) tB') : PW X (.BoolOp .Or (a :: b :: rest) pos) (tOr tA tB') := by
  intro wh pins s σ H Q I h
  refine isTrue_or (thn (ha pins s σ H _ I h) fun c s1 ⟨H1, I1, q1⟩ => ?_)
  cases c with
  | true => exact ⟨H1, I1, q1⟩
  | false => exact hb wh pins s1 σ H1 Q I1 q1
theorem pt_not (ha : PT X a tA) : PT X (.UnaryOp .Not a pos) (tNot tA) := by
  intro pins s σ H Q I h
  exact isTrue_not (ha pins s σ H (fun c H1 => Q (!c) H1) I h)
/-- a if t else b -/
def tIf (t : TT) (ta tb : TE) : TE := fun σ H Q => t σ H fun c H1 => if c = true then ta σ H1 Q else tb σ H1 Q
theorem pe_ifExp {c : Expr} (hc : PT X c tA) (ha : PE X a ta) (hb : PE X b tb) : PE X (.IfExp c a b pos) (tIf tA ta tb) := by
  intro pins s σ H Q I h
  refine wpAny_IfExp (thn (hc pins s σ H _ I h) fun d s1 ⟨H1, I1, q1⟩ => ?_)
  cases d with
  | true => exact ha pins s1 σ H1 Q I1 q1
  | false => exact hb pins s1 σ H1 Q I1 q1
end
end L2

namespace L2
open PySem PySem.Spec PyProof.Rows

/-! ### a list, a tuple that is read: tracked, frozen, or an object of the module -/
def SqL (K : PySem.W.Frag) (H : Hp) (a : Addr) (xs : List V) : Prop :=
  Rd H a (.lst xs) ∨
    ∃ (o : Obj) (its : Array Value) (n : Nat), K.lookup a = some o ∧ o.cls = .type "list" ∧ o.dict = none ∧ o.data = .seq its n ∧ its.size ≤ sizeLine ∧ Vals xs its.toList
def SqT (K : PySem.W.Frag) (H : Hp) (a : Addr) (xs : List V) : Prop :=
  Rd H a (.tup xs) ∨
    ∃ (o : Obj) (its : Array Value) (n : Nat), K.lookup a = some o ∧ o.cls = .type "tuple" ∧ o.data = .seq its n ∧ its.size ≤ sizeLine ∧ Vals xs its.toList
def absV : Value → Option V
  | .none => some .non
  | .bool b => some (.bl b)
  | .int i _ => some (.int i)
  | .str x _ => some (.str x)
  | .bytes b _ => some (.byt b)
  | .float b _ => some (.flt b)
  | .ref a => some (.ref a)
  | .type n => some (.ty n)
  | _ => none
theorem RelV.abs {x : V} {u : Value} (r : RelV x u) : absV u = some x := by
  cases x with
  | non => cases r; rfl
  | bl _ => cases r; rfl
  | int _ => obtain ⟨t, rfl⟩ := r; rfl
  | str _ => obtain ⟨t, rfl⟩ := r; rfl
  | byt _ => obtain ⟨t, rfl⟩ := r; rfl
  | flt _ => obtain ⟨t, rfl⟩ := r; rfl
  | ref _ => cases r; rfl
  | ty _ => cases r; rfl
theorem RelV.inj {x y : V} {u : Value} (r : RelV x u) (q : RelV y u) : x = y := Option.some.inj (r.abs.symm.trans q.abs)
theorem Vals.inj : ∀ {xs ys : List V} {us : List Value}, Vals xs us → Vals ys us → xs = ys
  | _, _, _, .nil, .nil => rfl
  | _, _, _, .cons r t, .cons r' t' => by rw [r.inj r', Vals.inj t t']
section
variable {X : Cx} {pins : List (Addr × Obj)} {σ : St} {H : Hp} {s : Shared} {a : Addr} {xs ys : List V}
theorem SqL.of {K : PySem.W.Frag} (h : H a = some (.lst xs)) : SqL K H a xs := .inl (.inl h)
theorem SqT.of {K : PySem.W.Frag} (h : H a = some (.tup xs)) : SqT K H a xs := .inl (.inl h)
theorem Inv.list (I : Inv X pins σ H s) (h : SqL X.K H a xs) : ∃ its : List Value, Vals xs its ∧ PlainL s.heap a its.toArray ∧ xs.length ≤ sizeLine := by
  rcases h with h | ⟨o, its, n, hk, hc, hd, hs, hz, r⟩
  · obtain ⟨z, its, n, r, e⟩ := h.ok I.hok
    exact ⟨its, r, ⟨_, n, e, rfl, rfl, rfl⟩, z⟩
  · refine ⟨its.toList, r, ⟨o, n, I.kIn a o hk, hc, hd, by simpa using hs⟩, ?_⟩
    have e := r.length
    simp only [Array.length_toList] at e
    omega
theorem Inv.tuple (I : Inv X pins σ H s) (h : SqT X.K H a xs) : ∃ its : List Value, Vals xs its ∧ IsTup s.heap a its.toArray ∧ xs.length ≤ sizeLine := by
  rcases h with h | ⟨o, its, n, hk, hc, hs, hz, r⟩
  · obtain ⟨z, its, r, p⟩ := h.ok I.hok
    exact ⟨its, r, p, z⟩
  · refine ⟨its.toList, r, ⟨o, I.kIn a o hk, hc, n, by simpa using hs⟩, ?_⟩
    have e := r.length
    simp only [Array.length_toList] at e
    omega
theorem Inv.list_inj (I : Inv X pins σ H s) (h : SqL X.K H a xs) (h' : SqL X.K H a ys) : xs = ys := by
  obtain ⟨its, r, ⟨o, n, e, _, _, d⟩, _⟩ := I.list h
  obtain ⟨its', r', ⟨o', n', e', _, _, d'⟩, _⟩ := I.list h'
  rw [e] at e'; cases e'
  rw [d] at d'
  injection d' with d1 _
  have : its = its' := by simpa using congrArg Array.toList d1
  subst this
  exact r.inj r'
theorem Inv.tuple_inj (I : Inv X pins σ H s) (h : SqT X.K H a xs) (h' : SqT X.K H a ys) : xs = ys := by
  obtain ⟨its, r, ⟨o, e, _, n, d⟩, _⟩ := I.tuple h
  obtain ⟨its', r', ⟨o', e', _, n', d'⟩, _⟩ := I.tuple h'
  rw [e] at e'; cases e'
  rw [d] at d'
  injection d' with d1 _
  have : its = its' := by simpa using congrArg Array.toList d1
  subst this
  exact r.inj r'
end

/-! ### another wish about exceptions -/
abbrev Cx.wish (X : Cx) (E : Value → Shared → Prop) : Cx := { X with xe := E }
/-- no exception leaves -/
abbrev Cx.nox (X : Cx) : Cx := X.wish fun _ _ => False
theorem Cx.Ok.wish {X : Cx} (ok : X.Ok) (E : Value → Shared → Prop) : (X.wish E).Ok :=
  ⟨ok.mod, ok.kind, ok.glob, ok.blt, ok.above, ok.inj, ok.has, ok.cab, ok.hd, ok.frames, ok.stk, ok.exf, ok.bs, ok.bsz, ok.noex, ok.exfs, ok.funs, ok.frf⟩
theorem Cx.Ok.unwish {X : Cx} {E : Value → Shared → Prop} (ok : (X.wish E).Ok) : X.Ok :=
  ⟨ok.mod, ok.kind, ok.glob, ok.blt, ok.above, ok.inj, ok.has, ok.cab, ok.hd, ok.frames, ok.stk, ok.exf, ok.bs, ok.bsz, ok.noex, ok.exfs, ok.funs, ok.frf⟩
section
variable {X : Cx} {pins : List (Addr × Obj)} {σ : St} {H : Hp} {s : Shared} {E : Value → Shared → Prop}
theorem Inv.wish (I : Inv X pins σ H s) (E : Value → Shared → Prop) : Inv (X.wish E) pins σ H s := ⟨I.ok.wish E, I.os, I.bare, I.base, I.loc, I.cell, I.free, I.freeC, I.pin, I.hok, I.len⟩
theorem Inv.unwish (I : Inv (X.wish E) pins σ H s) : Inv X pins σ H s := ⟨I.ok.unwish, I.os, I.bare, I.base, I.loc, I.cell, I.free, I.freeC, I.pin, I.hok, I.len⟩
theorem SP.unwish {D : Ends} {f : Flow} {s' : Shared} (h : SP (X.wish E) pins D f s') : SP X pins D f s' := by
  cases f with
  | next => obtain ⟨σ', H', I, q⟩ := h; exact ⟨σ', H', I.unwish, q⟩
  | brk => obtain ⟨σ', H', I, q⟩ := h; exact ⟨σ', H', I.unwish, q⟩
  | cont => obtain ⟨σ', H', I, q⟩ := h; exact ⟨σ', H', I.unwish, q⟩
  | ret u => obtain ⟨v, σ', H', I, r, q⟩ := h; exact ⟨v, σ', H', I.unwish, r, q⟩
theorem PSs.nox {st : List Stmt} {t : TS} (h : PSs X.nox st t) : PSs X st t := fun pins s σ H D I hw =>
  wpAny_mono (h pins s σ H D (I.wish _) hw) (fun _ _ q => q.unwish) fun _ _ z => False.elim z
end

/-! ### blocks and small statements -/
section
variable {X : Cx} {st : Stmt} {rest : List Stmt} {t u : TS} {e : Expr} {te : TE} {pos : Pos}
def tNext : TS := fun D σ H => D.nx σ H
def tSeq (t u : TS) : TS := fun D σ H => t { D with nx := u D } σ H
theorem pss_nil : PSs X [] tNext := fun _ _ σ H _ I h => wpAny_execs_nil ⟨σ, H, I, h⟩
theorem pss_cons (h1 : PS X st t) (h2 : PSs X rest u) : PSs X (st :: rest) (tSeq t u) := by
  intro pins s σ H D I h
  refine wpAny_execs_cons (thn (h1 pins s σ H { D with nx := u D } I h) fun f s1 q => ?_)
  cases f with
  | next =>
    obtain ⟨σ', H', I', q⟩ := q
    exact h2 pins s1 σ' H' D I' q
  | ret v => exact q
  | brk => exact q
  | cont => exact q
theorem pss_one (h1 : PS X st t) : PSs X [st] t := by
  intro pins s σ H D I h
  refine wpAny_execs_cons (thn (h1 pins s σ H D I h) fun f s1 q => ?_)
  cases f with
  | next => exact wpAny_execs_nil q
  | ret v => exact q
  | brk => exact q
  | cont => exact q
def tCont : TS := fun D σ H => D.ct σ H
theorem ps_continue : PS X (.Continue pos) tCont := fun _ _ σ H _ I h => wpAny_Continue ⟨σ, H, I, h⟩
/-- in a def's body nothing is shown -/
theorem Inv.quiet {pins : List (Addr × Obj)} {σ : St} {H : Hp} {s : Shared} (I : Inv X pins σ H s) : interactive X.env = false := by simp [interactive, I.ok.kind]
/-- an expression whose value is dropped -/
def tDrop (te : TE) : TS := fun D σ H => te σ H fun _ H1 => D.nx σ H1
theorem ps_expr (he : PE X e te) (hs : swapsWith e none pos.line X.env = pure false := by rfl) : PS X (.Expr e pos) (tDrop te) := by
  intro pins s σ H D I h
  exact wpAny_Expr_any (thn (he pins s σ H _ I h) fun v s1 ⟨x, H1, I1, r1, q1⟩ => ⟨σ, H1, I1, q1⟩) I.quiet hs
def tRet (te : TE) : TS := fun D σ H => te σ H D.rt
theorem ps_ret (he : PE X e te) : PS X (.Return (some e) pos) (tRet te) := by
  intro pins s σ H D I h
  exact wpAny_Return_some (thn (he pins s σ H _ I h) fun v s1 ⟨x, H1, I1, r1, q1⟩ => ⟨x, σ, H1, I1, r1, q1⟩)
def tIfS (c : TT) (t u : TS) : TS := fun D σ H => c σ H fun b H1 => if b = true then t D σ H1 else u D σ H1
theorem ps_if {c : Expr} {a b : List Stmt} {tc : TT} (hc : PT X c tc) (ha : PSs X a t) (hb : PSs X b u) : PS X (.If c a b pos) (tIfS tc t u) := by
  intro pins s σ H D I h
  refine wpAny_If (thn (hc pins s σ H _ I h) fun d s1 ⟨H1, I1, q1⟩ => ?_)
  cases d with
  | true => exact ha pins s1 σ H1 D I1 q1
  | false => exact hb pins s1 σ H1 D I1 q1
/-- code that the proof never comes to -/
def tNever : TS := fun _ _ _ => False
theorem pss_never {sts : List Stmt} : PSs X sts tNever := fun _ _ _ _ _ _ h => h.elim
end

/-! ### targets -/
abbrev TG := V → St → Hp → (St → Hp → Prop) → Prop
abbrev TGs := List V → St → Hp → (St → Hp → Prop) → Prop
def PG (X : Cx) (target : Expr) (t : TG) : Prop :=
  ∀ (pins : List (Addr × Obj)) (s : Shared) (σ : St) (H : Hp) (v : V) (u : Value) (Q : St → Hp → Prop), Inv X pins σ H s → RelV v u → t v σ H Q →
    wpAny (model X.prog X.w) X.A (assign target X.env u) (fun _ s' => ∃ σ' H', Inv X pins σ' H' s' ∧ Q σ' H') X.xe s
/-- several targets, one after another -/
def PGs (X : Cx) (ts : List Expr) (t : TGs) : Prop :=
  ∀ (pins : List (Addr × Obj)) (s : Shared) (σ : St) (H : Hp) (vs : List V) (us : List Value) (Q : St → Hp → Prop), Inv X pins σ H s → Vals vs us → t vs σ H Q →
    wpAny (model X.prog X.w) X.A (assignInOrder ((assignEach ts X.env).map (·.2)) us) (fun _ s' => ∃ σ' H', Inv X pins σ' H' s' ∧ Q σ' H') X.xe s
section
variable {X : Cx} {pos : Pos}
def gName (i : Nat) : TG := fun v σ H Q => Q (σ.set i (some v)) H
theorem pg_name {i : Nat} {x : Str} (hN : X.N.Nodup) (hi : X.N[i]? = some x) (hx : Loc X.env.scope x) (hf : X.fn x = true ∨ X.env.scope.names.lookup x = some .local := by first | exact .inl rfl | exact .inr rfl | assumption) : PG X (.Name x pos) (gName i) := by
  intro pins s σ H v u Q I r h
  exact wpAny_assign_Name (store_ok I hN hi hx r (fun s' I' => ⟨_, H, I', h⟩) hf)
def gNil : TGs := fun vs σ H Q => vs = [] ∧ Q σ H
def gCons (t : TG) (u : TGs) : TGs := fun vs σ H Q => ∃ v r, vs = v :: r ∧ t v σ H fun σ' H' => u r σ' H' Q
theorem pgs_nil : PGs X [] gNil := by
  intro pins s σ H vs us Q I r h
  obtain ⟨e, h⟩ := h
  subst e
  cases r
  exact assignInOrder_nil ⟨σ, H, I, h⟩
theorem pgs_cons {e : Expr} {es : List Expr} {t : TG} {u : TGs} (h1 : PG X e t) (h2 : PGs X es u)
    (hs : (assignEach (e :: es) X.env).map (·.2) = assign e X.env :: (assignEach es X.env).map (·.2) := by rfl) : PGs X (e :: es) (gCons t u) := by
  intro pins s σ H vs us Q I r h
  obtain ⟨v, vr, e1, h⟩ := h
  subst e1
  cases r with
  | cons r rr =>
    rw [hs]
    refine assignInOrder_cons (thn (h1 pins s σ H _ _ _ I r h) fun _ s1 ⟨σ1, H1, I1, q1⟩ => ?_)
    exact h2 pins s1 σ1 H1 _ _ Q I1 rr q1
/-- (a, b, ..) = a tuple of that length -/
def gTup (K : PySem.W.Frag) (n : Nat) (t : TGs) : TG := fun v σ H Q => ∃ a xs, v = .ref a ∧ SqT K H a xs ∧ xs.length = n ∧ t xs σ H Q
theorem pg_tup {es : List Expr} {k : Nat} {t : TGs} {n : Nat} (hc : X.calm = true) (h : PGs X es t)
    (hn : (assignEach es X.env).length = n := by rfl) (hst : (assignEach es X.env).findIdx? (·.1) = none := by rfl) : PG X (.Tuple es k pos) (gTup X.K n t) := by
  intro pins s σ H v u Q I r hw
  obtain ⟨a, xs, e1, hq, hl, hw⟩ := hw
  subst e1
  cases r
  obtain ⟨its, rv, ht, hz⟩ := I.tuple hq
  refine assign_Tuple_tuple (I.ok.hd hc) ht (by simp [hn, ← hl, rv.length]) hst fun h' hx => ?_
  have I1 : Inv X pins σ H { s with heap := h' } := I.kept (t' := s.toks) fun b o e => hx b o (Nat.ne_of_lt (Heap.lt_size e)) e
  exact h pins _ σ H xs _ Q I1 (by simpa using rv) hw
/-- target = value -/
def tAsg (te : TE) (g : TG) : TS := fun D σ H => te σ H fun x H1 => g x σ H1 D.nx
/-- name = value -/
theorem ps_set {i : Nat} {x : Str} {e : Expr} {te : TE} {pos' : Pos} (hN : X.N.Nodup) (hi : X.N[i]? = some x) (hx : Loc X.env.scope x) (he : PE X e te) (hs : swapsWith e (some (.Name x pos')) pos.line X.env = pure false := by rfl) (hf : X.fn x = true ∨ X.env.scope.names.lookup x = some .local := by first | exact .inl rfl | exact .inr rfl | assumption) :
    PS X (.Assign [.Name x pos'] e pos) (tAsg te (gName i)) := by
  intro pins s σ H D I h
  refine wpAny_Assign_Name (thn (he pins s σ H _ I h) fun v s1 ⟨y, H1, I1, r1, q1⟩ => ?_) hs
  exact store_ok I1 hN hi hx r1 (fun s2 I2 => ⟨_, H1, I2, q1⟩) hf
end

/-! ### while -/
section
variable {X : Cx} {pos : Pos}
/-- the invariant W with its measure -/
def tWhile (c : TT) (tb : TS) : TS := fun D σ H => ∃ W : Nat → St → Hp → Prop, (∃ m, W m σ H) ∧ ∀ m σ H, W m σ H →
  c σ H fun b H1 => if b = true then ∃ N : St → Hp → Prop, (∀ σ' H', N σ' H' → ∃ m', m' < m ∧ W m' σ' H') ∧ tb { D with nx := N, ct := N, bk := D.nx } σ H1 else D.nx σ H1
theorem ps_while {c : Expr} {body : List Stmt} {tc : TT} {tb : TS} (hp : PassesOwn (model X.prog X.w) X.A X.env X.xe) (hc : PT X c tc) (hb : PSs X body tb) : PS X (.While c body [] pos) (tWhile tc tb) := by
  intro pins s σ H D I h
  obtain ⟨W, ⟨m0, w0⟩, turn⟩ := h
  refine wpAny_While (codeAny_whileLoop (fun n s' => ∃ σ' H', Inv X pins σ' H' s' ∧ W n σ' H') ?_ m0 ⟨σ, H, I, w0⟩)
  rintro n s1 ⟨σ1, H1, I1, w1⟩
  refine wpAny_passesOwn hp (thn (hc pins s1 σ1 H1 _ I1 (turn n σ1 H1 w1)) fun b s2 ⟨H2, I2, q2⟩ => ?_)
  cases b with
  | true =>
    obtain ⟨N, hN, q2⟩ := q2
    rw [if_pos rfl]
    refine wpAny_passesOwn hp (thn (hb pins s2 σ1 H2 _ I2 q2) fun f s3 q3 => ?_)
    cases f with
    | next =>
      obtain ⟨σ3, H3, I3, n3⟩ := q3
      obtain ⟨m', hm, w3⟩ := hN σ3 H3 n3
      exact ⟨m', hm, σ3, H3, I3, w3⟩
    | cont =>
      obtain ⟨σ3, H3, I3, n3⟩ := q3
      obtain ⟨m', hm, w3⟩ := hN σ3 H3 n3
      exact ⟨m', hm, σ3, H3, I3, w3⟩
    | brk => exact q3
    | ret v => exact q3
  | false =>
    rw [if_neg Bool.false_ne_true]
    exact wpAny_execs_nil ⟨σ1, H2, I2, q2⟩
end

/-! ### what a loop or a comprehension walks -/
/-- at turn i: it yields x (the heap may grow), or it stops -/
structure It where
  go : Nat → Hp → Prop
  yld : Nat → Hp → V → Hp → Prop
  stop : Nat → Hp → Prop
/-- the iterator's own objects may turn: they are not the frame's, not pinned, younger than the entry (or a comprehension's own) -/
def FpOk (X : Cx) (pins : List (Addr × Obj)) (H : Hp) (b : Addr) : Prop :=
  H b = none ∧ b ≠ X.env.locals ∧ b ∉ X.fs ∧ (b ∈ X.ex ∨ X.s₀.heap.objs.size ≤ b) ∧ (∀ x c, X.env.cells.lookup x = some c → c ≠ b) ∧ ∀ p ∈ X.pn ++ pins, p.1 ≠ b
theorem Inv.fpOk {X : Cx} {pins : List (Addr × Obj)} {σ : St} {H H' : Hp} {s : Shared} {b : Addr} (I : Inv X pins σ H s) (hb : s.heap.objs.size ≤ b) (hn : H' b = none) : FpOk X pins H' b := by
  refine ⟨hn, Nat.ne_of_gt (Nat.lt_of_lt_of_le I.lt hb), I.nofs hb, .inr (Nat.le_trans I.sz hb), fun x c e z => ?_, fun p hp z => ?_⟩
  · obtain ⟨v, q⟩ := I.cell x c e
    exact absurd (Nat.lt_of_lt_of_le q.lt (by rw [z]; exact hb)) (Nat.lt_irrefl _)
  · exact absurd (Nat.lt_of_lt_of_le (Heap.lt_size (I.pin p hp).1) (by rw [z]; exact hb)) (Nat.lt_irrefl _)
structure Turn (P : Program) (w : World) (K : PySem.W.Frag) (tg : Expr) (J : It) (fp : List Addr) (it : Addr) (tn : Nat → Heap → Prop) : Prop where
  mem : it ∈ fp
  obj : ∀ i h, tn i h → ∀ b ∈ fp, ∃ o, h.get? b = some o ∧ ∀ v, o.data ≠ .cell v
  keep : ∀ i h h', tn i h → (∀ b ∈ fp, ∀ o, h.get? b = some o → h'.get? b = some o) → tn i h'
  item : ∀ (X : Cx), X.prog = P → X.w = w → X.K = K → X.calm = true → ∀ (i : Nat) (pins : List (Addr × Obj)) (s : Shared) (σ : St) (H : Hp) (E : Value → Shared → Prop), Inv X pins σ H s → (∀ b ∈ fp, FpOk X pins H b) → tn i s.heap → J.go i H →
    wpAny (model P w) X.A (pyNext (.ref it)) (fun r s1 => ∃ u, r = some u ∧
      wpAny (model P w) X.A (letOwnedTupleGo tg (.ref it) u) (fun _ s2 => ∃ x H', Inv X pins σ H' s2 ∧ RelV x u ∧ J.yld i H x H' ∧ tn (i + 1) s2.heap ∧ ∀ b ∈ fp, H' b = none) E s1) E s
  done : ∀ (X : Cx), X.prog = P → X.w = w → X.K = K → X.calm = true → ∀ (i : Nat) (pins : List (Addr × Obj)) (s : Shared) (σ : St) (H : Hp) (E : Value → Shared → Prop), Inv X pins σ H s → (∀ b ∈ fp, FpOk X pins H b) → tn i s.heap → J.stop i H →
    wpAny (model P w) X.A (pyNext (.ref it)) (fun r s1 => r = none ∧ Inv X pins σ H s1) E s
  self : ∀ (A : Around) (i : Nat) (s : Shared) (Q : Value → Shared → Prop) (E : Value → Shared → Prop), tn i s.heap → Q (.ref it) s → wpAny (model P w) A (pyIter (.ref it)) Q E s
abbrev TI := St → Hp → (It → Hp → Prop) → Prop
/-- an iterator has come -/
def PIE (X : Cx) (pins : List (Addr × Obj)) (σ : St) (tg : Expr) (R : It → Hp → Prop) (itv : Value) (s2 : Shared) : Prop :=
  ∃ (it : Addr) (fp : List Addr) (tn : Nat → Heap → Prop) (J : It) (H' : Hp), itv = .ref it ∧ Inv X pins σ H' s2 ∧ Turn X.prog X.w X.K tg J fp it tn ∧ tn 0 s2.heap ∧ (∀ b ∈ fp, FpOk X pins H' b) ∧ R J H'
def PI (X : Cx) (tg iter : Expr) (wi : TI) : Prop :=
  ∀ (pins : List (Addr × Obj)) (s : Shared) (σ : St) (H : Hp) (R : It → Hp → Prop), Inv X pins σ H s → wi σ H R →
    wpAny (model X.prog X.w) X.A (eval iter X.env) (fun v s1 => wpAny (model X.prog X.w) X.A (pyIter v) (PIE X pins σ tg R) X.xe s1) X.xe s

/-- the step ahead of the store is nothing for an iterator that keeps no tuple -/
theorem go_of {M : Model} {A : Around} {E : Value → Shared → Prop} {s : Shared} {tg : Expr} {it : Addr} {u : Value} {o : Obj} {n : String} {vs : Array Value} {Q : Unit → Shared → Prop} (ho : s.heap.get? it = some o) (hc : o.cls = .type n) (hd : o.data = .fields vs)
    (hn : ["enumerate", "zip", "dict_itemiterator", "dict_reverseitemiterator", "odict_iterator", "itertools.zip_longest", "itertools.pairwise"].contains n = false) (hQ : Q () s) : wpAny M A (letOwnedTupleGo tg (.ref it) u) Q E s := by
  unfold letOwnedTupleGo
  cases tg <;> first
    | exact wpAny_pure hQ
    | (cases u <;> first
        | exact wpAny_pure hQ
        | (refine wpAny_bind (wpAny_load ho ?_)
           rw [hc, hd]
           show wpAny M A (if (["enumerate", "zip", "dict_itemiterator", "dict_reverseitemiterator", "odict_iterator", "itertools.zip_longest", "itertools.pairwise"].contains n && vs[0]? == some (rawInt _)) = true then _ else _) Q E s
           rw [if_neg (by intro h; rw [hn, Bool.false_and] at h; cases h)]
           exact wpAny_pure hQ))

/-- the list at a, as it stands at each turn (a loop may append to it) -/
def Itl (K : PySem.W.Frag) (a : Addr) : It :=
  ⟨fun i H => ∃ xs x, SqL K H a xs ∧ xs[i]? = some x, fun i H x H' => H' = H ∧ ∀ xs, SqL K H a xs → xs[i]? = some x, fun i H => ∃ xs, SqL K H a xs ∧ xs.length ≤ i⟩
def Itt (K : PySem.W.Frag) (a : Addr) : It :=
  ⟨fun i H => ∃ xs x, SqT K H a xs ∧ xs[i]? = some x, fun i H x H' => H' = H ∧ ∀ xs, SqT K H a xs → xs[i]? = some x, fun i H => ∃ xs, SqT K H a xs ∧ xs.length ≤ i⟩
/-- lo, lo + 1, .. (n of them) -/
def Itr (lo : Int) (n : Nat) : It := ⟨fun i _ => i < n, fun i H x H' => H' = H ∧ x = .int (lo + i), fun i _ => n ≤ i⟩
theorem turn_list {P : Program} {w : World} {K : PySem.W.Frag} {tg : Expr} (a it : Addr) : Turn P w K tg (Itl K a) [it] it (fun i h => h.IsListIter it a i) where
  mem := by simp
  obj := fun i h st b hb => by
    have e : b = it := by simpa using hb
    subst e
    obtain ⟨o, e, c, d⟩ := st
    exact ⟨o, e, fun v z => by rw [d] at z; cases z⟩
  keep := fun i h h' st k => st.at fun o e => k it (by simp) o e
  item := by
    intro X hP hw hK hc i pins s σ H E I hf st hg
    subst hP hw hK
    obtain ⟨xs, x, hq, hx⟩ := hg
    obtain ⟨its, rv, p, hz⟩ := I.list hq
    obtain ⟨u, hu, ru⟩ := rv.get hx
    obtain ⟨f0, f1, f2, f3, f4, f5⟩ := hf it (by simp)
    refine wpAny_pyNext_list_item st p.isList (x := u) (by simpa using hu) fun h' st' sb => ?_
    have I1 : Inv X pins σ H { s with heap := h' } := I.turned (t' := s.toks) (fun b o hb e => (sb.2 b hb).trans e) f0 f1 f3 f4 f5
    obtain ⟨o, e, c, d⟩ := id st'
    exact ⟨u, rfl, go_of (s := { s with heap := h' }) e c d (by decide) ⟨x, H, I1, ru, ⟨rfl, fun ys hy => by rw [I.list_inj hy hq]; exact hx⟩, st', fun b hb => (hf b hb).1⟩⟩
  done := by
    intro X hP hw hK hc i pins s σ H E I hf st hg
    subst hP hw hK
    obtain ⟨xs, hq, hx⟩ := hg
    obtain ⟨its, rv, p, hz⟩ := I.list hq
    obtain ⟨f0, f1, f2, f3, f4, f5⟩ := hf it (by simp)
    have hl := rv.length
    exact wpAny_pyNext_list_end (I.ok.hd hc) st p.isList (by simp; omega) fun h' eb => ⟨rfl, I.turned (t' := s.toks) (fun b o hb e => eb b o hb e) f0 f1 f3 f4 f5⟩
  self := fun _ _ _ _ _ st h => wpAny_pyIter_listiter st h
theorem turn_tuple {P : Program} {w : World} {K : PySem.W.Frag} {tg : Expr} (a it : Addr) : Turn P w K tg (Itt K a) [it] it (fun i h => h.IsTupleIter it a i) where
  mem := by simp
  obj := fun i h st b hb => by
    have e : b = it := by simpa using hb
    subst e
    obtain ⟨o, e, c, d⟩ := st
    exact ⟨o, e, fun v z => by rw [d] at z; cases z⟩
  keep := fun i h h' st k => st.at fun o e => k it (by simp) o e
  item := by
    intro X hP hw hK hc i pins s σ H E I hf st hg
    subst hP hw hK
    obtain ⟨xs, x, hq, hx⟩ := hg
    obtain ⟨its, rv, p, hz⟩ := I.tuple hq
    obtain ⟨u, hu, ru⟩ := rv.get hx
    obtain ⟨f0, f1, f2, f3, f4, f5⟩ := hf it (by simp)
    refine wpAny_pyNext_tuple_item st (show s.heap.IsTuple a its.toArray from p) (x := u) (by simpa using hu) fun h' st' sb => ?_
    have I1 : Inv X pins σ H { s with heap := h' } := I.turned (t' := s.toks) (fun b o hb e => (sb.2 b hb).trans e) f0 f1 f3 f4 f5
    obtain ⟨o, e, c, d⟩ := id st'
    exact ⟨u, rfl, go_of (s := { s with heap := h' }) e c d (by decide) ⟨x, H, I1, ru, ⟨rfl, fun ys hy => by rw [I.tuple_inj hy hq]; exact hx⟩, st', fun b hb => (hf b hb).1⟩⟩
  done := by
    intro X hP hw hK hc i pins s σ H E I hf st hg
    subst hP hw hK
    obtain ⟨xs, hq, hx⟩ := hg
    obtain ⟨its, rv, p, hz⟩ := I.tuple hq
    obtain ⟨f0, f1, f2, f3, f4, f5⟩ := hf it (by simp)
    have hl := rv.length
    exact wpAny_pyNext_tuple_end (I.ok.hd hc) st (show s.heap.IsTuple a its.toArray from p) (by simp; omega) fun h' eb => ⟨rfl, I.turned (t' := s.toks) (fun b o hb e => eb b o hb e) f0 f1 f3 f4 f5⟩
  self := fun _ _ _ _ _ st h => wpAny_pyIter_tupleiter st h
theorem turn_range {P : Program} {w : World} {K : PySem.W.Frag} {tg : Expr} (it : Addr) (lo : Int) (n : Nat) : Turn P w K tg (Itr lo n) [it] it (fun i h => IsRangeIter h it (lo + (i : Nat) * 1) ((n : Int) - (i : Nat)) 1) where
  mem := by simp
  obj := fun i h st b hb => by
    have e : b = it := by simpa using hb
    subst e
    exact ⟨_, st, fun v z => by
      have z' : Data.fields _ = Data.cell v := z
      cases z'⟩
  keep := fun i h h' st k => k it (by simp) _ st
  item := by
    intro X hP hw hK hc i pins s σ H E I hf st hg
    subst hP hw hK
    obtain ⟨f0, f1, f2, f3, f4, f5⟩ := hf it (by simp)
    have W := Walks.range (prog := X.prog) (w := X.w) (I.ok.hd hc) it lo 1 n
    refine W.item i s _ _ hg st fun v h' tk hv st' kk => ?_
    obtain ⟨t, rfl⟩ := hv
    have I1 : Inv X pins σ H { s with heap := h', toks := tk } := I.turned (fun b o hb e => kk b o (by simpa using hb) e) f0 f1 f3 f4 f5
    refine ⟨_, rfl, go_of (s := { s with heap := h', toks := tk }) (n := "range_iterator") st' rfl rfl (by decide) ⟨.int (lo + i), H, I1, ⟨t, ?_⟩, ⟨rfl, rfl⟩, st', fun b hb => (hf b hb).1⟩⟩
    rw [Int.mul_one]
  done := by
    intro X hP hw hK hc i pins s σ H E I hf st hg
    subst hP hw hK
    obtain ⟨f0, f1, f2, f3, f4, f5⟩ := hf it (by simp)
    exact wpAny_pyNext_range_end (I.ok.hd hc) st (by have : n ≤ i := hg; omega) fun h' eb => ⟨rfl, I.turned (t' := s.toks) (fun b o hb e => eb b o hb e) f0 f1 f3 f4 f5⟩
  self := fun _ _ _ _ _ st h => wpAny_pyIter_rangeiter st h
end L2

namespace L2
open PySem PySem.Spec PyProof.Rows
section
variable {X : Cx} {tg : Expr}
def iList (K : PySem.W.Frag) (tl : TE) : TI := fun σ H R => tl σ H fun x H1 => ∃ a, x = .ref a ∧ (∃ xs, SqL K H1 a xs) ∧ R (Itl K a) H1
def iTup (K : PySem.W.Frag) (tl : TE) : TI := fun σ H R => tl σ H fun x H1 => ∃ a, x = .ref a ∧ (∃ xs, SqT K H1 a xs) ∧ R (Itt K a) H1
theorem pi_list {l : Expr} {tl : TE} (hl : PE X l tl) : PI X tg l (iList X.K tl) := by
  intro pins s σ H R I h
  refine thn (hl pins s σ H _ I h) fun v s1 ⟨x, H1, I1, r1, q1⟩ => ?_
  obtain ⟨a, e, ⟨xs, hq⟩, q⟩ := q1
  subst e
  cases r1
  obtain ⟨its, rv, p, hz⟩ := I1.list hq
  refine wpAny_pyIter_list p.isList ?_
  refine ⟨s1.heap.objs.size, [s1.heap.objs.size], _, _, H1, rfl, I1.kept (t' := s1.toks) fun b o e => Heap.get?_push_of_some _ e, turn_list a _, ⟨_, Heap.get?_push_size _ rfl, rfl, rfl⟩, fun b hb => ?_, q⟩
  have e : b = s1.heap.objs.size := by simpa using hb
  subst e
  exact I1.fpOk (Nat.le_refl _) (I1.hok.fresh (Nat.le_refl _))
theorem pi_tup {l : Expr} {tl : TE} (hl : PE X l tl) : PI X tg l (iTup X.K tl) := by
  intro pins s σ H R I h
  refine thn (hl pins s σ H _ I h) fun v s1 ⟨x, H1, I1, r1, q1⟩ => ?_
  obtain ⟨a, e, ⟨xs, hq⟩, q⟩ := q1
  subst e
  cases r1
  obtain ⟨its, rv, p, hz⟩ := I1.tuple hq
  refine wpAny_pyIter_tuple (show s1.heap.IsTuple a its.toArray from p) ?_
  refine ⟨s1.heap.objs.size, [s1.heap.objs.size], _, _, H1, rfl, I1.kept (t' := s1.toks) fun b o e => Heap.get?_push_of_some _ e, turn_tuple a _, ⟨_, Heap.get?_push_size _ rfl, rfl, rfl⟩, fun b hb => ?_, q⟩
  have e : b = s1.heap.objs.size := by simpa using hb
  subst e
  exact I1.fpOk (Nat.le_refl _) (I1.hok.fresh (Nat.le_refl _))
/-- a range object just made, walked -/
theorem range_it {pins : List (Addr × Obj)} {σ : St} {H : Hp} {s : Shared} {R : It → Hp → Prop} {E : Value → Shared → Prop} {lo hi : Int} {t u v : Tok} {tk : Nat} (I : Inv X pins σ H s) (h1 : -(2 ^ 62) ≤ lo) (h2 : lo < 2 ^ 62) (h3 : -(2 ^ 62) ≤ hi) (h4 : hi < 2 ^ 62)
    (q : R (Itr lo (hi - lo).toNat) H) : wpAny (model X.prog X.w) X.A (pyIter (.ref s.heap.objs.size)) (PIE X pins σ tg R) E { s with heap := s.heap.push { cls := .type "range", data := .fields #[.int lo t, .int hi u, .int 1 v] }, toks := tk } := by
  refine wpAny_pyIter_range (IsRange.new ..) (small_one h1 h2 h3 h4) ?_
  have I1 : Inv X pins σ H { s with heap := s.heap.push { cls := .type "range", data := .fields #[.int lo t, .int hi u, .int 1 v] }, toks := tk } := I.kept fun b o e => Heap.get?_push_of_some _ e
  refine ⟨(s.heap.push { cls := .type "range", data := .fields #[.int lo t, .int hi u, .int 1 v] }).objs.size, [(s.heap.push { cls := .type "range", data := .fields #[.int lo t, .int hi u, .int 1 v] }).objs.size], _, _, H, rfl,
    I1.kept (t' := tk) fun b o e => Heap.get?_push_of_some _ e, turn_range _ lo (hi - lo).toNat, ?_, fun b hb => ?_, q⟩
  · have e1 : lo + ((0 : Nat) : Int) * 1 = lo := by simp
    have e2 : (((hi - lo).toNat : Nat) : Int) - ((0 : Nat) : Int) = Builtin.Range.rangeSize lo hi 1 := by rw [rangeSize_one]; split <;> omega
    show IsRangeIter _ _ (lo + ((0 : Nat) : Int) * 1) ((((hi - lo).toNat : Nat) : Int) - ((0 : Nat) : Int)) 1
    rw [e1, e2]
    exact Heap.get?_push_size _ rfl
  · have e : b = (s.heap.push { cls := .type "range", data := .fields #[.int lo t, .int hi u, .int 1 v] }).objs.size := by simpa using hb
    subst e
    exact I1.fpOk (Nat.le_refl _) (I1.hok.fresh (Nat.le_refl _))
def iRng1 (ta : TA) : TI := fun σ H R => ta σ H fun vs H1 => ∃ j : Int, vs = [.int j] ∧ -(2 ^ 62) ≤ j ∧ j < 2 ^ 62 ∧ R (Itr 0 j.toNat) H1
theorem pi_range1 {a : Expr} {ta : TA} {p pos : Pos} (hg : Gl X "range") (hm : X.mg "range" = none) (ha : PA X [a] ta) (hs : starEach [a] X.env = [(false, eval a X.env)] := by rfl) : PI X tg (.Call (.Name "range" p) [a] [] pos) (iRng1 ta) := by
  intro pins s σ H R I h
  refine Call_ (ld_blt I hg hm boot_range (PyProof.Rows.callWith_type1 (thn (ha pos pins s σ H _ I h) fun us s1 ⟨vs, H1, I1, r1, q1⟩ => ?_) hs rfl))
  obtain ⟨j, e, q1, q2, q⟩ := q1
  subst e
  cases r1 with
  | cons r rr =>
    cases rr
    obtain ⟨t, rfl⟩ := r
    exact call_range_1 (range_it I1 (by omega) (by omega) q1 q2 (by simpa using q))

/-! ### for -/
/-- W: the invariant by the turn and a measure; N: what the body is to reach -/
def tFor (wi : TI) (g : TG) (tb : TS) : TS := fun D σ H => wi σ H fun J H1 => ∃ W : Nat → Nat → St → Hp → Prop, (∃ m, W 0 m σ H1) ∧ ∀ i m σ H, W i m σ H →
  (J.stop i H ∧ D.nx σ H) ∨ (J.go i H ∧ ∃ N : St → Hp → Prop, (∀ σ' H', N σ' H' → ∃ m', m' < m ∧ W (i + 1) m' σ' H') ∧ ∀ x H', J.yld i H x H' → g x σ H' fun σ2 H2 => tb { D with nx := N, ct := N, bk := D.nx } σ2 H2)
/-- the records at fp as they stand -/
def pinsAt (fp : List Addr) (h : Heap) : List (Addr × Obj) := fp.filterMap fun b => (h.get? b).map fun o => (b, o)
theorem mem_pinsAt {fp : List Addr} {h : Heap} {b : Addr} {o : Obj} (hb : b ∈ fp) (e : h.get? b = some o) : (b, o) ∈ pinsAt fp h := List.mem_filterMap.mpr ⟨b, hb, by rw [e]; rfl⟩
theorem of_pinsAt {fp : List Addr} {h : Heap} {p : Addr × Obj} (hp : p ∈ pinsAt fp h) : p.1 ∈ fp ∧ h.get? p.1 = some p.2 := by
  obtain ⟨b, hb, e⟩ := List.mem_filterMap.mp hp
  cases q : h.get? b with
  | none => rw [q] at e; cases e
  | some o =>
    rw [q] at e
    have e' : (b, o) = p := Option.some.inj e
    subst e'
    exact ⟨hb, q⟩
theorem Inv.pinned {pins : List (Addr × Obj)} {σ : St} {H : Hp} {s : Shared} {fp : List Addr} (I : Inv X pins σ H s) (hf : ∀ b ∈ fp, FpOk X pins H b) (ho : ∀ b ∈ fp, ∃ o, s.heap.get? b = some o ∧ ∀ v, o.data ≠ .cell v) : Inv X (pins ++ pinsAt fp s.heap) σ H s :=
  I.pins_of fun p hp => (List.mem_append.mp hp).elim (fun z => I.pin p (List.mem_append_right _ z)) fun z => by
    obtain ⟨hb, e⟩ := of_pinsAt z
    obtain ⟨f0, f1, f2, _⟩ := hf p.1 hb
    obtain ⟨o, e', d⟩ := ho p.1 hb
    rw [e] at e'; cases e'
    exact ⟨e, f0, f1, f2, d⟩
theorem Inv.unpinned {pins pl : List (Addr × Obj)} {σ : St} {H : Hp} {s : Shared} (I : Inv X (pins ++ pl) σ H s) : Inv X pins σ H s := I.pins_of fun p hp => I.pin p (List.mem_append_right _ (List.mem_append_left _ hp))
theorem ps_for {iter : Expr} {body : List Stmt} {wi : TI} {g : TG} {tb : TS} {pos : Pos} (hp : PassesOwn (model X.prog X.w) X.A X.env X.xe) (hc : X.calm = true) (hi : PI X tg iter wi) (hg : PG X tg g) (hb : PSs X body tb)
    (hs : ∀ x, foldedSetIterable iter X.env x = pure x := by intro _; rfl) : PS X (.For tg iter body [] pos) (tFor wi g tb) := by
  intro pins s σ H D I h
  refine wpAny_For (thn (hi pins s σ H _ I h) fun v s1 h1 => thn h1 fun itv s2 h2 => ?_) hs
  obtain ⟨it, fp, tn, J, H2, e, I2, T, st2, f2, W, ⟨m0, w0⟩, turn⟩ := h2
  subst e
  -- what stays true of the iterator's objects through the loop
  have stat : ∀ {H' : Hp}, (∀ b ∈ fp, H' b = none) → ∀ b ∈ fp, FpOk X pins H' b := fun hn b hb => ⟨hn b hb, (f2 b hb).2⟩
  refine codeAny_forLoop_any (fun n s' => ∃ i σ' H', Inv X pins σ' H' s' ∧ tn i s'.heap ∧ (∀ b ∈ fp, H' b = none) ∧ W i n σ' H') ?_ m0 ⟨0, σ, H2, I2, st2, fun b hb => (f2 b hb).1, w0⟩
  rintro n s3 ⟨i, σ3, H3, I3, st3, fr3, w3⟩
  rcases turn i n σ3 H3 w3 with ⟨stop, qn⟩ | ⟨go, N, hN, step⟩
  · refine wpAny_passesOwn hp (thn (T.done X rfl rfl rfl hc i pins s3 σ3 H3 X.xe I3 (stat fr3) st3 stop) fun r s4 ⟨hr, I4⟩ => ?_)
    subst hr
    exact wpAny_execs_nil ⟨σ3, H3, I4, qn⟩
  · refine wpAny_passesOwn hp (thn (T.item X rfl rfl rfl hc i pins s3 σ3 H3 X.xe I3 (stat fr3) st3 go) fun r s4 ⟨u, hr, h4⟩ => ?_)
    subst hr
    refine wpAny_passesOwn hp (thn h4 fun _ s5 ⟨x, H5, I5, r5, y5, st5, fr5⟩ => ?_)
    have I5' := I5.pinned (stat fr5) (T.obj _ _ st5)
    refine wpAny_passesOwn hp (thn (hg _ s5 σ3 H5 x u _ I5' r5 (step x H5 y5)) fun _ s6 ⟨σ6, H6, I6, q6⟩ => ?_)
    refine wpAny_passesOwn hp (thn (hb _ s6 σ6 H6 _ I6 q6) fun f s7 q7 => ?_)
    have again : ∀ {σ7 : St} {H7 : Hp}, Inv X (pins ++ pinsAt fp s5.heap) σ7 H7 s7 → N σ7 H7 → ∃ m, m < n ∧ ∃ i σ' H', Inv X pins σ' H' s7 ∧ tn i s7.heap ∧ (∀ b ∈ fp, H' b = none) ∧ W i m σ' H' := fun {σ7 H7} I7 n7 => by
      obtain ⟨m', hm, w7⟩ := hN σ7 H7 n7
      refine ⟨m', hm, i + 1, σ7, H7, I7.unpinned, T.keep _ _ _ st5 fun b hb o e => (I7.pin (b, o) (List.mem_append_right _ (List.mem_append_right _ (mem_pinsAt hb e)))).1, fun b hb => ?_, w7⟩
      obtain ⟨o, e, d⟩ := T.obj _ _ st5 b hb
      exact (I7.pin (b, o) (List.mem_append_right _ (List.mem_append_right _ (mem_pinsAt hb e)))).2.1
    cases f with
    | next => obtain ⟨σ7, H7, I7, n7⟩ := q7; exact again I7 n7
    | cont => obtain ⟨σ7, H7, I7, n7⟩ := q7; exact again I7 n7
    | brk => obtain ⟨σ7, H7, I7, q7⟩ := q7; exact ⟨σ7, H7, I7.unpinned, q7⟩
    | ret v => obtain ⟨x7, σ7, H7, I7, r7, q7⟩ := q7; exact ⟨x7, σ7, H7, I7.unpinned, r7, q7⟩
end

/-! ### the forms one uses -/
/-- over a list that the body leaves as it is -/
theorem for_list {K : PySem.W.Frag} {a : Addr} {xs : List V} {g : TG} {tb : TS} {D : Ends} {σ : St} {H : Hp} (Pv : Nat → St → Hp → Prop) (h0 : Pv 0 σ H) (hl : ∀ i σ H, i ≤ xs.length → Pv i σ H → SqL K H a xs)
    (hs : ∀ i x σ H, xs[i]? = some x → Pv i σ H → g x σ H fun σ2 H2 => tb { D with nx := Pv (i + 1), ct := Pv (i + 1), bk := D.nx } σ2 H2) (hd : ∀ σ H, Pv xs.length σ H → D.nx σ H) :
    ∃ W : Nat → Nat → St → Hp → Prop, (∃ m, W 0 m σ H) ∧ ∀ i m σ H, W i m σ H →
      ((Itl K a).stop i H ∧ D.nx σ H) ∨ ((Itl K a).go i H ∧ ∃ N : St → Hp → Prop, (∀ σ' H', N σ' H' → ∃ m', m' < m ∧ W (i + 1) m' σ' H') ∧ ∀ x H', (Itl K a).yld i H x H' → g x σ H' fun σ2 H2 => tb { D with nx := N, ct := N, bk := D.nx } σ2 H2) := by
  refine ⟨fun i m σ H => m = xs.length - i ∧ i ≤ xs.length ∧ Pv i σ H, ⟨xs.length, by simp, Nat.zero_le _, h0⟩, ?_⟩
  rintro i m σ H ⟨rfl, hi, p⟩
  have q := hl i σ H hi p
  by_cases hlt : i < xs.length
  · refine .inr ⟨⟨xs, xs[i], q, by simp [hlt]⟩, Pv (i + 1), fun σ' H' p' => ⟨xs.length - (i + 1), by omega, rfl, hlt, p'⟩, fun x H' y => ?_⟩
    obtain ⟨e, y⟩ := y
    subst e
    exact hs i x σ _ (y xs q) p
  · have e : i = xs.length := by omega
    subst e
    exact .inl ⟨⟨xs, q, Nat.le_refl _⟩, hd σ H p⟩
theorem for_tup {K : PySem.W.Frag} {a : Addr} {xs : List V} {g : TG} {tb : TS} {D : Ends} {σ : St} {H : Hp} (Pv : Nat → St → Hp → Prop) (h0 : Pv 0 σ H) (hl : ∀ i σ H, i ≤ xs.length → Pv i σ H → SqT K H a xs)
    (hs : ∀ i x σ H, xs[i]? = some x → Pv i σ H → g x σ H fun σ2 H2 => tb { D with nx := Pv (i + 1), ct := Pv (i + 1), bk := D.nx } σ2 H2) (hd : ∀ σ H, Pv xs.length σ H → D.nx σ H) :
    ∃ W : Nat → Nat → St → Hp → Prop, (∃ m, W 0 m σ H) ∧ ∀ i m σ H, W i m σ H →
      ((Itt K a).stop i H ∧ D.nx σ H) ∨ ((Itt K a).go i H ∧ ∃ N : St → Hp → Prop, (∀ σ' H', N σ' H' → ∃ m', m' < m ∧ W (i + 1) m' σ' H') ∧ ∀ x H', (Itt K a).yld i H x H' → g x σ H' fun σ2 H2 => tb { D with nx := N, ct := N, bk := D.nx } σ2 H2) := by
  refine ⟨fun i m σ H => m = xs.length - i ∧ i ≤ xs.length ∧ Pv i σ H, ⟨xs.length, by simp, Nat.zero_le _, h0⟩, ?_⟩
  rintro i m σ H ⟨rfl, hi, p⟩
  have q := hl i σ H hi p
  by_cases hlt : i < xs.length
  · refine .inr ⟨⟨xs, xs[i], q, by simp [hlt]⟩, Pv (i + 1), fun σ' H' p' => ⟨xs.length - (i + 1), by omega, rfl, hlt, p'⟩, fun x H' y => ?_⟩
    obtain ⟨e, y⟩ := y
    subst e
    exact hs i x σ _ (y xs q) p
  · have e : i = xs.length := by omega
    subst e
    exact .inl ⟨⟨xs, q, Nat.le_refl _⟩, hd σ H p⟩
theorem for_range {lo : Int} {n : Nat} {g : TG} {tb : TS} {D : Ends} {σ : St} {H : Hp} (Pv : Nat → St → Hp → Prop) (h0 : Pv 0 σ H)
    (hs : ∀ i σ H, i < n → Pv i σ H → g (.int (lo + i)) σ H fun σ2 H2 => tb { D with nx := Pv (i + 1), ct := Pv (i + 1), bk := D.nx } σ2 H2) (hd : ∀ σ H, Pv n σ H → D.nx σ H) :
    ∃ W : Nat → Nat → St → Hp → Prop, (∃ m, W 0 m σ H) ∧ ∀ i m σ H, W i m σ H →
      ((Itr lo n).stop i H ∧ D.nx σ H) ∨ ((Itr lo n).go i H ∧ ∃ N : St → Hp → Prop, (∀ σ' H', N σ' H' → ∃ m', m' < m ∧ W (i + 1) m' σ' H') ∧ ∀ x H', (Itr lo n).yld i H x H' → g x σ H' fun σ2 H2 => tb { D with nx := N, ct := N, bk := D.nx } σ2 H2) := by
  refine ⟨fun i m σ H => m = n - i ∧ i ≤ n ∧ Pv i σ H, ⟨n, by simp, Nat.zero_le _, h0⟩, ?_⟩
  rintro i m σ H ⟨rfl, hi, p⟩
  by_cases hlt : i < n
  · refine .inr ⟨hlt, Pv (i + 1), fun σ' H' p' => ⟨n - (i + 1), by omega, rfl, hlt, p'⟩, fun x H' y => ?_⟩
    obtain ⟨e, y⟩ := y
    subst e y
    exact hs i σ _ hlt p
  · have e : i = n := by omega
    subst e
    exact .inl ⟨Nat.le_refl _, hd σ H p⟩
/-- while, by a word and a measure of the state -/
theorem while_by {c : TT} {tb : TS} {D : Ends} {σ : St} {H : Hp} (Pv : St → Hp → Prop) (μ : St → Hp → Nat) (h0 : Pv σ H)
    (hs : ∀ σ H, Pv σ H → c σ H fun b H1 => if b = true then tb { D with nx := fun σ' H' => Pv σ' H' ∧ μ σ' H' < μ σ H, ct := fun σ' H' => Pv σ' H' ∧ μ σ' H' < μ σ H, bk := D.nx } σ H1 else D.nx σ H1)
    (mono : ∀ σ H Q Q', (∀ b H1, Q b H1 → Q' b H1) → c σ H Q → c σ H Q') : tWhile c tb D σ H := by
  refine ⟨fun m σ H => m = μ σ H ∧ Pv σ H, ⟨_, rfl, h0⟩, ?_⟩
  rintro m σ H ⟨rfl, p⟩
  refine mono σ H _ _ (fun b H1 q => ?_) (hs σ H p)
  cases b with
  | true => exact ⟨_, fun σ' H' ⟨p', l⟩ => ⟨_, l, rfl, p'⟩, q⟩
  | false => exact q
end L2

namespace L2
open PySem PySem.Spec PyProof.Rows

abbrev R2 := V → V → Hp → VK → Prop
/-- a two-place operation on values: f is binaryOp op, inplaceOp op or compareOp op -/
def OpR (X : Cx) (f : Value → Value → Sem Value) (r : R2) : Prop :=
  ∀ (pins : List (Addr × Obj)) (s : Shared) (σ : St) (H : Hp) (x y : V) (v u : Value) (Q : VK), Inv X pins σ H s → RelV x v → RelV y u → r x y H Q →
    wpAny (model X.prog X.w) X.A (f v u) (EP X pins σ Q) X.xe s
/-- a one-place operation -/
def UnR (X : Cx) (f : Value → Sem Value) (r : V → Hp → VK → Prop) : Prop :=
  ∀ (pins : List (Addr × Obj)) (s : Shared) (σ : St) (H : Hp) (x : V) (v : Value) (Q : VK), Inv X pins σ H s → RelV x v → r x H Q →
    wpAny (model X.prog X.w) X.A (f v) (EP X pins σ Q) X.xe s
/-- a call of a value that is known (a builtin, a type) with values -/
def CallR (X : Cx) (f : Value) (r : List V → Hp → VK → Prop) : Prop :=
  ∀ (pins : List (Addr × Obj)) (s : Shared) (σ : St) (H : Hp) (xs : List V) (us : List Value) (Q : VK), Inv X pins σ H s → Vals xs us → r xs H Q →
    wpAny (model X.prog X.w) X.A (call f us) (EP X pins σ Q) X.xe s
/-- a value's truth -/
def TruR (X : Cx) (r : V → Hp → (Bool → Hp → Prop) → Prop) : Prop :=
  ∀ (pins : List (Addr × Obj)) (s : Shared) (σ : St) (H : Hp) (x : V) (v : Value) (Q : Bool → Hp → Prop), Inv X pins σ H s → RelV x v → r x H Q →
    wpAny (model X.prog X.w) X.A (truthy v) (TP X pins σ Q) X.xe s

def tOp (r : R2) (ta tb : TE) : TE := fun σ H Q => ta σ H fun x H1 => tb σ H1 fun y H2 => r x y H2 Q
def tUn (r : V → Hp → VK → Prop) (ta : TE) : TE := fun σ H Q => ta σ H fun x H1 => r x H1 Q
/-- ints in, under C, and a value out -/
def rI (C : Int → Int → Prop) (g : Int → Int → V) : R2 := fun x y H Q => ∃ i j, x = .int i ∧ y = .int j ∧ C i j ∧ Q (g i j) H
def rI0 (g : Int → Int → V) : R2 := fun x y H Q => ∃ i j, x = .int i ∧ y = .int j ∧ Q (g i j) H
def rU (g : Int → V) : V → Hp → VK → Prop := fun x H Q => ∃ i, x = .int i ∧ Q (g i) H

section
variable {X : Cx} {a b c : Expr} {ta tb tc : TE} {pos : Pos}

theorem binT (ha : PE X a ta) (hb : PE X b tb) {pins : List (Addr × Obj)} {s : Shared} {σ : St} {H : Hp} {R : V → V → Hp → Prop} (I : Inv X pins σ H s)
    (h : ta σ H fun x H1 => tb σ H1 fun y H2 => R x y H2) {Q : Value → Shared → Prop} {f : Value → Value → Sem Value}
    (hf : ∀ v u s2 x y H2, Inv X pins σ H2 s2 → RelV x v → RelV y u → R x y H2 → wpAny (model X.prog X.w) X.A (f v u) Q X.xe s2) :
    wpAny (model X.prog X.w) X.A (eval a X.env) (fun v s₁ => wpAny (model X.prog X.w) X.A (eval b X.env) (fun u s₂ => wpAny (model X.prog X.w) X.A (f v u) Q X.xe s₂) X.xe s₁) X.xe s := by
  refine thn (ha pins s σ H _ I h) fun v s1 ⟨x, H1, I1, r1, q1⟩ => ?_
  refine thn (hb pins s1 σ H1 _ I1 q1) fun u s2 ⟨y, H2, I2, r2, q2⟩ => ?_
  exact hf v u s2 x y H2 I2 r1 r2 q2

theorem pe_op {op : Operator} {r : R2} (ho : OpR X (binaryOp op) r) (ha : PE X a ta) (hb : PE X b tb) : PE X (.BinOp a op b pos) (tOp r ta tb) := by
  intro pins s σ H Q I h
  exact wpAny_BinOp (binT ha hb I h fun v u s2 x y H2 I2 rx ry q => ho pins s2 σ H2 x y v u Q I2 rx ry q)
theorem pe_un {op : UnaryOp} {r : V → Hp → VK → Prop} (ho : UnR X (unaryOp op) r) (ha : PE X a ta) : PE X (.UnaryOp op a pos) (tUn r ta) := by
  intro pins s σ H Q I h
  exact UnaryOp_ (thn (ha pins s σ H _ I h) fun v s1 ⟨x, H1, I1, r1, q1⟩ => ho pins s1 σ H1 x v Q I1 r1 q1)

/-! ### ints -/
theorem opI {f : Value → Value → Sem Value} {C : Int → Int → Prop} {g : Int → Int → Int}
    (rule : ∀ (i j : Int) (t u : Tok) (s : Shared) (Q : Value → Shared → Prop) (E : Value → Shared → Prop), C i j → Q (.int (g i j) s.toks) { s with toks := s.toks + 1 } → wpAny (model X.prog X.w) X.A (f (.int i t) (.int j u)) Q E s) :
    OpR X f (rI C fun i j => .int (g i j)) := by
  intro pins s σ H x y v u Q I rx ry h
  obtain ⟨i, j, rfl, rfl, hc, q⟩ := h
  obtain ⟨t, rfl⟩ := rx
  obtain ⟨t', rfl⟩ := ry
  exact rule i j t t' s _ _ hc ⟨.int (g i j), H, I.tok _, ⟨_, rfl⟩, q⟩
theorem opI0 {f : Value → Value → Sem Value} {g : Int → Int → Int}
    (rule : ∀ (i j : Int) (t u : Tok) (s : Shared) (Q : Value → Shared → Prop) (E : Value → Shared → Prop), Q (.int (g i j) s.toks) { s with toks := s.toks + 1 } → wpAny (model X.prog X.w) X.A (f (.int i t) (.int j u)) Q E s) :
    OpR X f (rI0 fun i j => .int (g i j)) := by
  intro pins s σ H x y v u Q I rx ry h
  obtain ⟨i, j, rfl, rfl, q⟩ := h
  obtain ⟨t, rfl⟩ := rx
  obtain ⟨t', rfl⟩ := ry
  exact rule i j t t' s _ _ ⟨.int (g i j), H, I.tok _, ⟨_, rfl⟩, q⟩
theorem opB0 {f : Value → Value → Sem Value} {g : Int → Int → Bool}
    (rule : ∀ (i j : Int) (t u : Tok) (s : Shared) (Q : Value → Shared → Prop) (E : Value → Shared → Prop), Q (.bool (g i j)) s → wpAny (model X.prog X.w) X.A (f (.int i t) (.int j u)) Q E s) :
    OpR X f (rI0 fun i j => .bl (g i j)) := by
  intro pins s σ H x y v u Q I rx ry h
  obtain ⟨i, j, rfl, rfl, q⟩ := h
  obtain ⟨t, rfl⟩ := rx
  obtain ⟨t', rfl⟩ := ry
  exact rule i j t t' s _ _ ⟨.bl (g i j), H, I, rfl, q⟩

def CDiv (i j : Int) : Prop := 0 < j ∧ j < 1073741824
def CMul (i j : Int) : Prop := (-(2 ^ 64) < i ∧ i < 2 ^ 64) ∨ (-(2 ^ 64) < j ∧ j < 2 ^ 64)
theorem CMul.ok {i j : Int} (h : CMul i j) : IntMulOk i j := by
  rcases h with ⟨h1, h2⟩ | ⟨h1, h2⟩
  · exact .of_left (intBits_le_64 h1 h2)
  · exact .of_right (intBits_le_64 h1 h2)

theorem op_add : OpR X (binaryOp .Add) (rI0 fun i j => .int (i + j)) := opI0 fun _ _ _ _ _ _ _ q => add_int q
theorem op_sub : OpR X (binaryOp .Sub) (rI0 fun i j => .int (i - j)) := opI0 fun _ _ _ _ _ _ _ q => sub_int q
theorem op_mul : OpR X (binaryOp .Mult) (rI CMul fun i j => .int (i * j)) := opI fun _ _ _ _ _ _ _ hc q => mul_int q hc.ok
/-- // by a positive divisor -/
theorem op_fdiv : OpR X (binaryOp .FloorDiv) (rI CDiv fun i j => .int (i / j)) := opI fun i j _ _ _ _ _ hc q => by
  have h1 : (0 : Int) < j := hc.1
  have h2 : j < 1073741824 := hc.2
  exact floordiv_int (by omega) (by rw [Int.fdiv_eq_ediv_of_nonneg i (by omega)]; exact q) (.inl (PyProof.noPylong_small (by omega)))
/-- % by a positive divisor of any size -/
theorem op_mod : OpR X (binaryOp .Mod) (rI (fun _ j => 0 < j) fun i j => .int (i % j)) := opI fun i j _ _ _ _ _ hc q => by
  have h1 : (0 : Int) < j := hc
  exact mod_int' (by omega) (by rw [Int.fmod_eq_emod_of_nonneg i (by omega)]; exact q)

theorem unI {f : Value → Sem Value} {g : Int → Int}
    (rule : ∀ (i : Int) (t : Tok) (s : Shared) (Q : Value → Shared → Prop) (E : Value → Shared → Prop), Q (.int (g i) s.toks) { s with toks := s.toks + 1 } → wpAny (model X.prog X.w) X.A (f (.int i t)) Q E s) :
    UnR X f (rU fun i => .int (g i)) := by
  intro pins s σ H x v Q I rx h
  obtain ⟨i, rfl, q⟩ := h
  obtain ⟨t, rfl⟩ := rx
  exact rule i t s _ _ ⟨.int (g i), H, I.tok _, ⟨_, rfl⟩, q⟩
theorem un_neg : UnR X (unaryOp .USub) (rU fun i => .int (-i)) := unI fun _ _ _ _ _ q => neg_int q

/-! ### bools among ints: n += (a < b) -/
end

/-! ### comparisons -/
/-- the scalars that == tells apart as data does -/
def scal : V → V → Bool
  | .non, .non => true | .non, .int _ => true | .int _, .non => true | .non, .bl _ => true | .bl _, .non => true | .non, .str _ => true | .str _, .non => true
  | .int _, .int _ => true | .bl _, .bl _ => true | .str _, .str _ => true | .byt _, .byt _ => true
  | .int _, .str _ => true | .str _, .int _ => true | .bl _, .str _ => true | .str _, .bl _ => true
  | _, _ => false
def rEq : R2 := fun x y H Q => scal x y = true ∧ Q (.bl (decide (x = y))) H
def rNe : R2 := fun x y H Q => scal x y = true ∧ Q (.bl (!decide (x = y))) H

theorem dec_int {i j : Int} : decide (V.int i = V.int j) = (i == j) := by
  rw [Bool.eq_iff_iff]
  simp
theorem dec_bl {i j : Bool} : decide (V.bl i = V.bl j) = (i == j) := by
  rw [Bool.eq_iff_iff]
  simp
theorem dec_str {i j : Str} : decide (V.str i = V.str j) = (i == j) := by
  rw [Bool.eq_iff_iff]
  simp
theorem dec_byt {i j : Array UInt8} : decide (V.byt i = V.byt j) = (i.toList == j.toList) := by
  rw [Bool.eq_iff_iff]
  cases i
  cases j
  simp

section
variable {X : Cx} {a b c : Expr} {ta tb tc : TE} {pos : Pos}
theorem fin_bl {pins : List (Addr × Obj)} {σ : St} {H : Hp} {s : Shared} {Q : VK} {k k' : Bool} (I : Inv X pins σ H s) (q : Q (.bl k) H) (e : k = k') : EP X pins σ Q (.bool k') s := by
  subst e
  exact ⟨.bl k, H, I, rfl, q⟩
theorem op_eq : OpR X (compareOp .Eq) rEq := by
  intro pins s σ H x y v u Q I rx ry h
  obtain ⟨hs, q⟩ := h
  cases x with
  | non =>
    cases rx
    cases y with
    | non => cases ry; exact PySem.EqNone.eq_none_none (fin_bl I q (by simp))
    | bl j => cases ry; exact PySem.EqNone.eq_none_bool (fin_bl I q (by simp))
    | int j => obtain ⟨t', rfl⟩ := ry; exact PySem.EqNone.eq_none_int (fin_bl I q (by simp))
    | str j => obtain ⟨t', rfl⟩ := ry; exact PySem.EqNone.eq_none_str (fin_bl I q (by simp))
    | _ => exact absurd (show false = true from hs) Bool.false_ne_true
  | bl i =>
    cases rx
    cases y with
    | non => cases ry; exact PySem.EqNone.eq_bool_none (fin_bl I q (by simp))
    | bl j => cases ry; exact eq_bool (fin_bl I q dec_bl)
    | str j => obtain ⟨t', rfl⟩ := ry; exact PySem.EqMixed.eq_bool_str (fin_bl I q (by simp))
    | _ => exact absurd (show false = true from hs) Bool.false_ne_true
  | int i =>
    obtain ⟨t, rfl⟩ := rx
    cases y with
    | non => cases ry; exact PySem.EqNone.eq_int_none (fin_bl I q (by simp))
    | int j => obtain ⟨t', rfl⟩ := ry; exact eq_int (fin_bl I q dec_int)
    | str j => obtain ⟨t', rfl⟩ := ry; exact PySem.EqMixed.eq_int_str (fin_bl I q (by simp))
    | _ => exact absurd (show false = true from hs) Bool.false_ne_true
  | str i =>
    obtain ⟨t, rfl⟩ := rx
    cases y with
    | non => cases ry; exact PySem.EqNone.eq_str_none (fin_bl I q (by simp))
    | bl j => cases ry; exact PySem.EqMixed.eq_str_bool (fin_bl I q (by simp))
    | int j => obtain ⟨t', rfl⟩ := ry; exact PySem.EqMixed.eq_str_int (fin_bl I q (by simp))
    | str j => obtain ⟨t', rfl⟩ := ry; exact eq_str (fin_bl I q dec_str)
    | _ => exact absurd (show false = true from hs) Bool.false_ne_true
  | byt i =>
    obtain ⟨t, rfl⟩ := rx
    cases y with
    | byt j => obtain ⟨t', rfl⟩ := ry; exact PySem.W.eq_bytes (fin_bl I q dec_byt)
    | _ => exact absurd (show false = true from hs) Bool.false_ne_true
  | _ => cases y <;> exact absurd (show false = true from hs) Bool.false_ne_true
theorem op_ne : OpR X (compareOp .NotEq) rNe := by
  intro pins s σ H x y v u Q I rx ry h
  obtain ⟨hs, q⟩ := h
  cases x with
  | non =>
    cases rx
    cases y with
    | non => cases ry; exact PySem.EqNone.ne_none_none (fin_bl I q (by simp))
    | bl j => cases ry; exact PySem.EqNone.ne_none_bool (fin_bl I q (by simp))
    | int j => obtain ⟨t', rfl⟩ := ry; exact PySem.EqNone.ne_none_int (fin_bl I q (by simp))
    | str j => obtain ⟨t', rfl⟩ := ry; exact PySem.EqNone.ne_none_str (fin_bl I q (by simp))
    | _ => exact absurd (show false = true from hs) Bool.false_ne_true
  | bl i =>
    cases rx
    cases y with
    | non => cases ry; exact PySem.EqNone.ne_bool_none (fin_bl I q (by simp))
    | bl j => cases ry; exact ne_bool (fin_bl I q (congrArg not dec_bl))
    | str j => obtain ⟨t', rfl⟩ := ry; exact PySem.EqMixed.ne_bool_str (fin_bl I q (by simp))
    | _ => exact absurd (show false = true from hs) Bool.false_ne_true
  | int i =>
    obtain ⟨t, rfl⟩ := rx
    cases y with
    | non => cases ry; exact PySem.EqNone.ne_int_none (fin_bl I q (by simp))
    | int j => obtain ⟨t', rfl⟩ := ry; exact ne_int (fin_bl I q (congrArg not dec_int))
    | str j => obtain ⟨t', rfl⟩ := ry; exact PySem.EqMixed.ne_int_str (fin_bl I q (by simp))
    | _ => exact absurd (show false = true from hs) Bool.false_ne_true
  | str i =>
    obtain ⟨t, rfl⟩ := rx
    cases y with
    | non => cases ry; exact PySem.EqNone.ne_str_none (fin_bl I q (by simp))
    | bl j => cases ry; exact PySem.EqMixed.ne_str_bool (fin_bl I q (by simp))
    | int j => obtain ⟨t', rfl⟩ := ry; exact PySem.EqMixed.ne_str_int (fin_bl I q (by simp))
    | str j => obtain ⟨t', rfl⟩ := ry; exact ne_str (fin_bl I q (congrArg not dec_str))
    | _ => exact absurd (show false = true from hs) Bool.false_ne_true
  | byt i =>
    obtain ⟨t, rfl⟩ := rx
    cases y with
    | byt j => obtain ⟨t', rfl⟩ := ry; exact PySem.W.ne_bytes (fin_bl I q (congrArg not dec_byt))
    | _ => exact absurd (show false = true from hs) Bool.false_ne_true
  | _ => cases y <;> exact absurd (show false = true from hs) Bool.false_ne_true

theorem op_lt : OpR X (compareOp .Lt) (rI0 fun i j => .bl (decide (i < j))) := opB0 fun _ _ _ _ _ _ _ q => lt_int q
theorem op_le : OpR X (compareOp .LtE) (rI0 fun i j => .bl (decide (i ≤ j))) := opB0 fun _ _ _ _ _ _ _ q => le_int q
theorem op_gt : OpR X (compareOp .Gt) (rI0 fun i j => .bl (decide (j < i))) := opB0 fun _ _ _ _ _ _ _ q => gt_int q

theorem nomark (b : Expr) {op : CmpOp} (h : op ≠ .In := by decide) (h2 : op ≠ .NotIn := by decide) : behindInMarks op b = false := by
  have e1 : (op == CmpOp.In) = false := by cases op <;> first | rfl | exact absurd rfl h
  have e2 : (op == CmpOp.NotIn) = false := by cases op <;> first | rfl | exact absurd rfl h2
  cases b <;> simp [behindInMarks, e1, e2]
/-- a comparison as a value; hm: nomark b, or (for in, not in) by with_unfolding_all rfl -/
theorem pe_cmpR {op : CmpOp} {r : R2} (ho : OpR X (compareOp op) r) (ha : PE X a ta) (hb : PE X b tb) (hm : behindInMarks op b = false) : PE X (.Compare a [op] [b] pos) (tOp r ta tb) := by
  intro pins s σ H Q I h
  exact wpAny_Compare1 (binT ha hb I h fun v u s2 x y H2 I2 rx ry q => ho pins s2 σ H2 x y v u Q I2 rx ry q) hm
/-- a reading of a value as a test -/
def tTest (t : TE) : TT := fun σ H Q => t σ H fun x H' => ∃ k, x = .bl k ∧ Q k H'
theorem pt_cmpR {op : CmpOp} {r : R2} (ho : OpR X (compareOp op) r) (ha : PE X a ta) (hb : PE X b tb) (hm : behindInMarks op b = false) : PT X (.Compare a [op] [b] pos) (tTest (tOp r ta tb)) := by
  intro pins s σ H Q I h
  refine wpAny_isTrue_Compare1 (thn (ha pins s σ H _ I h) fun v s1 ⟨x, H1, I1, r1, q1⟩ => thn (hb pins s1 σ H1 _ I1 q1) fun u s2 ⟨y, H2, I2, r2, q2⟩ =>
    thn (ho pins s2 σ H2 x y v u _ I2 r1 r2 q2) fun c s3 ⟨z, H3, I3, r3, k, e, q3⟩ => ?_) hm
  subst e
  cases r3
  exact wpAny_truthy_bool ⟨H3, I3, q3⟩
/-- a op1 b op2 c -/
def tChain (r r' : R2) (ta tb tc : TE) : TE := fun σ H Q => ta σ H fun x H1 => tb σ H1 fun y H2 => r x y H2 fun z H3 => ∃ k, z = .bl k ∧
  (if k = true then tc σ H3 fun w' H4 => r' y w' H4 Q else Q (.bl false) H3)
theorem pt_chain {op op' : CmpOp} {r r' : R2} (ho : OpR X (compareOp op) r) (ho' : OpR X (compareOp op') r') (ha : PE X a ta) (hb : PE X b tb) (hc : PE X c tc)
    (hm : lastMarks [op, op'] [b, c] = false := by with_unfolding_all rfl) : PT X (.Compare a [op, op'] [b, c] pos) (tTest (tChain r r' ta tb tc)) := by
  intro pins s σ H Q I h
  refine isTrue_chain (thn (ha pins s σ H _ I h) fun v s1 ⟨x, H1, I1, r1, q1⟩ => test_link (thn (hb pins s1 σ H1 _ I1 q1) fun u s2 ⟨y, H2, I2, r2, q2⟩ =>
    thn (ho pins s2 σ H2 x y v u _ I2 r1 r2 q2) fun d s3 ⟨z, H3, I3, r3, k, e, q3⟩ => ?_)) hm
  subst e
  cases r3
  refine wpAny_truthy_bool ?_
  cases k with
  | false =>
    obtain ⟨k', e', q'⟩ := q3
    cases e'
    exact ite_ff ⟨H3, I3, q'⟩
  | true =>
    refine ite_tt (test_last (thn (hc pins s3 σ H3 _ I3 q3) fun w' s4 ⟨z', H4, I4, r4, q4⟩ => thn (ho' pins s4 σ H4 y z' u w' _ I4 r2 r4 q4) fun d' s5 ⟨z2, H5, I5, r5, k2, e2, q5⟩ => ?_))
    subst e2
    cases r5
    exact wpAny_truthy_bool ⟨H5, I5, q5⟩

/-! ### truth -/
/-- a value's truth by the abstract heap -/
def TruV (K : PySem.W.Frag) (x : V) (H : Hp) (k : Bool) : Prop :=
  match x with
  | .non => k = false
  | .bl b => k = b
  | .int i => k = (i != 0)
  | .str y => y.length ≤ sizeLine ∧ k = ((y.length : Int) != 0)
  | .byt y => y.size ≤ sizeLine ∧ k = ((y.size : Int) != 0)
  | .ref p => (∃ xs, SqL K H p xs ∧ k = !xs.isEmpty) ∨ (∃ xs, SqT K H p xs ∧ k = !xs.isEmpty) ∨ ∃ kvs, H p = some (.dK kvs) ∧ k = !kvs.isEmpty
  | _ => False
theorem isEmpty_kv {κ : Type} {kvs : List (κ × V)} {vs : List (κ × Value)} (r : KV kvs vs) : (!vs.isEmpty) = !kvs.isEmpty := by
  cases r <;> rfl
theorem isEmpty_of {xs : List V} {its : List Value} (r : Vals xs its) : (!its.toArray.isEmpty) = !xs.isEmpty := by
  cases r <;> simp
theorem line63 : (sizeLine : Nat) < 2 ^ 63 := by rw [sizeLine_eq]; decide
theorem tru_ok : TruR X (fun x H Q => ∃ k, TruV X.K x H k ∧ Q k H) := by
  intro pins s σ H x v Q I rx h
  obtain ⟨k, e, q⟩ := h
  have hl := line63
  have hs : sizeLine = 16777216 := sizeLine_eq
  cases x with
  | non =>
    cases rx
    have e' : k = false := e
    subst e'
    exact truthy_none ⟨H, I, q⟩
  | bl b =>
    cases rx
    have e' : k = b := e
    subst e'
    exact wpAny_truthy_bool ⟨H, I, q⟩
  | int i =>
    obtain ⟨t, rfl⟩ := rx
    have e' : k = (i != 0) := e
    subst e'
    exact PySem.P.truthy_int ⟨H, I, q⟩
  | str y =>
    obtain ⟨t, rfl⟩ := rx
    obtain ⟨hy, e'⟩ : y.length ≤ sizeLine ∧ k = ((y.length : Int) != 0) := e
    subst e'
    exact PySem.P.truthy_str (by omega) ⟨H, I.tok _, q⟩
  | byt y =>
    obtain ⟨t, rfl⟩ := rx
    obtain ⟨hy, e'⟩ : y.size ≤ sizeLine ∧ k = ((y.size : Int) != 0) := e
    subst e'
    exact PySem.W.truthy_bytes (by omega) ⟨H, I.tok _, q⟩
  | ref p =>
    cases rx
    have e' : (∃ xs, SqL X.K H p xs ∧ k = !xs.isEmpty) ∨ (∃ xs, SqT X.K H p xs ∧ k = !xs.isEmpty) ∨ ∃ kvs, H p = some (.dK kvs) ∧ k = !kvs.isEmpty := e
    rcases e' with ⟨xs, hx, e'⟩ | ⟨xs, hx, e'⟩ | ⟨kvs, hx, e'⟩
    · subst e'
      obtain ⟨its, r, pl, hz⟩ := I.list hx
      have hlen := r.length
      exact wpAny_truthy_list pl.isList (by simp only [List.size_toArray]; omega) ⟨H, I.tok _, by rw [isEmpty_of r]; exact q⟩
    · subst e'
      obtain ⟨its, r, pl, hz⟩ := I.tuple hx
      have hlen := r.length
      exact truthy_tuple pl (by simp only [List.size_toArray]; omega) ⟨H, I.tok _, by rw [isEmpty_of r]; exact q⟩
    · subst e'
      obtain ⟨hz, hS, vs, r, m⟩ : kvs.length ≤ sizeLine ∧ (p == sysModules) = false ∧ ∃ vs, KV kvs vs ∧ s.heap.DictOf (mixKind X.prog X.w) p vs := I.hok p _ hx
      have hlen : kvs.length = vs.length := Paired.length r
      exact wpAny_truthy_dict hS m (by omega) ⟨H, I.tok _, by rw [isEmpty_kv r]; exact q⟩
  | _ => exact (show False from e).elim
/-- any expression whose test is its value's truth (a name, a call, a subscript, a field ..: he by fun _ => rfl) -/
theorem pt_truth (ha : PE X a ta) (he : ∀ whole, isTrue a X.env whole = (do let v ← whole; standAt a.pos; holding [v] (truthy v))) :
    PT X a (fun σ H Q => ta σ H fun x H' => ∃ k, TruV X.K x H' k ∧ Q k H') := by
  intro pins s σ H Q I h
  exact isTrue_plain (thn (ha pins s σ H _ I h) fun v s1 ⟨x, H1, I1, r1, q1⟩ => tru_ok pins s1 σ H1 x v Q I1 r1 q1) (he _)

/-! ### strs and bytes -/
theorem op_add_str : OpR X (binaryOp .Add) (fun x y H Q => ∃ i j, x = .str i ∧ y = .str j ∧ i.length + j.length ≤ sizeLine ∧ Q (.str (i ++ j)) H) := by
  intro pins s σ H x y v u Q I rx ry h
  obtain ⟨i, j, rfl, rfl, hz, q⟩ := h
  obtain ⟨t, rfl⟩ := rx
  obtain ⟨t', rfl⟩ := ry
  exact add_str (fun t' tk => ⟨.str (i ++ j), H, I.tok _, ⟨_, rfl⟩, q⟩) hz

/-! ### scalar builtins, by CallR -/
theorem vals1 {x : V} {us : List Value} (r : Vals [x] us) : ∃ u, us = [u] ∧ RelV x u := by
  cases r with
  | cons r1 r2 => cases r2; exact ⟨_, rfl, r1⟩
theorem vals2 {x y : V} {us : List Value} (r : Vals [x, y] us) : ∃ u w', us = [u, w'] ∧ RelV x u ∧ RelV y w' := by
  cases r with
  | cons r1 r2 =>
    cases r2 with
    | cons r3 r4 => cases r4; exact ⟨_, _, rfl, r1, r3⟩
theorem call_abs : CallR X (.builtin "abs") (fun xs H Q => ∃ i, xs = [.int i] ∧ Q (.int (if i < 0 then -i else i)) H) := by
  intro pins s σ H xs us Q I r h
  obtain ⟨i, rfl, q⟩ := h
  obtain ⟨u, rfl, t, rfl⟩ := vals1 r
  exact call_abs_int fun u tk => ⟨.int (if i < 0 then -i else i), H, I.tok _, ⟨_, rfl⟩, q⟩
theorem call_max2 (hc : X.calm = true) : CallR X (.builtin "max") (fun xs H Q => ∃ i j, xs = [.int i, .int j] ∧ Q (.int (if j > i then j else i)) H) := by
  intro pins s σ H xs us Q I r h
  obtain ⟨i, j, rfl, q⟩ := h
  obtain ⟨u, w', rfl, ⟨t, rfl⟩, ⟨t', rfl⟩⟩ := vals2 r
  refine max_two_ints (I.ok.hd hc) fun h' tk k => ⟨_, H, I.kept k, ?_, q⟩
  by_cases hj : j > i
  · rw [if_pos hj, if_pos hj]; exact ⟨_, rfl⟩
  · rw [if_neg hj, if_neg hj]; exact ⟨_, rfl⟩
theorem call_min2 (hc : X.calm = true) : CallR X (.builtin "min") (fun xs H Q => ∃ i j, xs = [.int i, .int j] ∧ Q (.int (if j < i then j else i)) H) := by
  intro pins s σ H xs us Q I r h
  obtain ⟨i, j, rfl, q⟩ := h
  obtain ⟨u, w', rfl, ⟨t, rfl⟩, ⟨t', rfl⟩⟩ := vals2 r
  refine min_two_ints (I.ok.hd hc) fun h' tk k => ⟨_, H, I.kept k, ?_, q⟩
  by_cases hj : j < i
  · rw [if_pos hj, if_pos hj]; exact ⟨_, rfl⟩
  · rw [if_neg hj, if_neg hj]; exact ⟨_, rfl⟩
end
end L2

namespace L2
open PySem PySem.Spec PyProof.Rows

/-! ### an instance, its attributes a map -/
structure ObjM (h : Heap) (x dx C : Addr) (mA : Str → Option Value) : Prop where
  obj : h.get? x = some (PySem.W.instObj C dx)
  ns : h.Ns1 dx mA
  ne : dx ≠ x

theorem lookIn_ns {h : Heap} {dx : Addr} {mA : Str → Option Value} (n : h.Ns1 dx mA) : ∃ od, h.get? dx = some od ∧ ∀ name, PySem.W.lookIn name od = some (mA name) := by
  obtain ⟨o, es, ep, ho, hd, hk, _, hm⟩ := n
  refine ⟨o, ho, fun name => ?_⟩
  have e := hm name
  unfold nsFind findBy at e
  rw [← Array.find?_toList] at e
  unfold PySem.W.lookIn
  rw [hd]
  dsimp only
  split
  · rename_i y q
    rw [q] at e
    exact congrArg some e
  · rename_i q
    rw [q] at e
    have a : es.toList.any (·.refKey) = false := by
      rw [List.any_eq_false]
      intro y hy
      obtain ⟨z, t, hkey⟩ := hk y (Array.mem_toList_iff.mp hy)
      simp [DictEntry.refKey, hkey]
    have a' : ¬ es.toList.any (·.refKey) = true := by rw [a]; exact Bool.false_ne_true
    rw [if_neg a']
    exact congrArg some e

theorem ObjM.look {h : Heap} {x dx C : Addr} {mA : Str → Option Value} (I : ObjM h x dx C mA) : ∃ od, PySem.W.InstAt h x (PySem.W.instObj C dx) C (some od) ∧ ∀ name, PySem.W.lookIn name od = some (mA name) :=
  let ⟨od, ho, hl⟩ := lookIn_ns I.ns
  ⟨od, ⟨I.obj, rfl, rfl, ho⟩, hl⟩

section
variable {prog : Program} {w : World} {A : Around} {E : Value → Shared → Prop} {s : Shared} {K : PySem.W.Frag} {x dx C f : Addr} {mA : Str → Option Value} {name : Str} {v : Value}

theorem get_map {expr : Bool} {Q : Value → Shared → Prop} (X : K.In s.heap) (I : ObjM s.heap x dx C mA) (hg : PySem.W.plainGet K C name = true) (hh : PySem.W.hasDictIn K C = true)
    (ha : PySem.W.findIn K (.ref C) name = some none) (hv : mA name = some v) (hv' : PySem.W.handedIn v = true) (h : Q v { s with toks := s.toks + 1 }) :
    wpAny (model prog w) A (getAttr (.ref x) name expr) Q E s := by
  obtain ⟨od, J, hl⟩ := I.look
  exact PySem.W.get_value X J (PySem.W.plainGet_of hg).1 (PySem.W.findObj_own hh ha rfl (by rw [hl, hv])) hv' h

theorem get_meth {pl : Sem Bool} {Q : Value × List Value → Shared → Prop} (X : K.In s.heap) (I : ObjM s.heap x dx C mA) (hg : PySem.W.plainGet K C name = true)
    (hf : PySem.W.findIn K (.ref C) name = some (some (.ref f))) (ht : PySem.W.isFn K (.ref f) = true) (hv : mA name = none) (h : Q (.ref f, [.ref x]) s) :
    wpAny (model prog w) A (getMethod (.ref x) name pl) Q E s := by
  obtain ⟨od, J, hl⟩ := I.look
  exact PySem.W.method_fn X J (PySem.W.plainGet_of hg).1 (PySem.W.plainGet_of hg).2 hf (beq_iff_eq.mp ht) (by show (PySem.W.lookIn name od).map (·.isSome) = some false; rw [hl, hv]; rfl) h

theorem set_map {ns : List Str} {Q : Unit → Shared → Prop} (X : K.In s.heap) (I : ObjM s.heap x dx C mA)
    (hs : PySem.W.findIn K (.ref C) "__setattr__" = some (some (.builtin "object.__setattr__"))) (hp : PySem.W.plainOver K C = true) (ht : PySem.W.takerIn K C name = some none) (hh : PySem.W.hasDictIn K C = true)
    (hw : PySem.Within mA ns) (hsz : ns.length ≤ sizeLine)
    (h : ∀ h', ObjM h' x dx C (fun y => if y = name then some v else mA y) → Heap.SameBut dx s.heap h' → Q () { s with heap := h', toks := s.toks + 2 }) :
    wpAny (model prog w) A (setAttr (.ref x) name v) Q E s := by
  obtain ⟨od, J, hl⟩ := I.look
  refine PySem.W.set_plain X J hs (PySem.W.osa_open (s := { s with toks := s.toks + 1 }) (r := none) X J hp ht fun b => ?_)
  obtain ⟨cd, hc, hd'⟩ := PySem.W.any_some hh
  have hx : s.heap.get? x = some ⟨.ref C, some dx, .plain, #[]⟩ := I.obj
  refine wpAny_bind (wpAny_pure (wpAny_bind (wpAny_bind (wpAny_loadPart hx (wpAny_bind (PySem.W.Looks.here (s := { s with toks := s.toks + 1 }) (PySem.W.looks_clsIn X hc) ?_))))))
  rw [hd']
  refine wpAny_pure (a := some dx) (wpAny_bind (wpAny_pure (wpAny_bind ?_)))
  refine wpAny_nsSet1 (s := { s with toks := s.toks + 1 }) I.ns fun h' hn2 hs2 => ?_
  obtain ⟨oD, esD, epD, hoD, hdD, hcD⟩ := hn2.count (PySem.Within.cons name v hw)
  refine wpAny_bind (wpAny_lookBehind hoD (by rw [hdD]; exact pastItsLine_dict (Nat.le_trans hcD (by rw [List.length_cons]; omega))) ?_)
  exact wpAny_pure (h _ ⟨(hs2.2 _ (Ne.symm I.ne)).trans I.obj, hn2, I.ne⟩ hs2)

/-- C(..): the dict at the heap's end, the instance behind it; then its __init__ -/
theorem make_map {R : Result → Shared → Prop} {vs : List Value} {kw : List (Str × Value)} (X : K.In s.heap) (hm : PySem.W.makesIn K C = true)
    (hi : PySem.W.findIn K (.ref C) "__init__" = some (some (.ref f))) (hf : PySem.W.typeIn K (.ref f) = some (.type "function"))
    (h : codeAny (model prog w) (A.under (.builtin "type.__call__" ⟨.ref C :: vs, kw⟩)) (.call (.ref f) ⟨.ref (s.heap.objs.size + 1) :: vs, kw⟩) (PySem.W.InitBack (s.heap.objs.size + 1) R)
      { s with heap := (s.heap.push PySem.W.emptyDict).push (PySem.W.instObj C s.heap.objs.size) }) :
    codeAny (model prog w) A (.call (.ref C) ⟨vs, kw⟩) R s := by
  obtain ⟨hh, g, d, t, os⟩ := s
  exact PySem.W.make_core (PySem.W.makes_of X hm) (PySem.W.looks_findIn X hi) (fun self => PySem.W.bind_fn X self hf) (.inl rfl) h
end

/-! ### the attributes as a list of pairs -/
def putF (f : Str) (v : V) : List (Str × V) → List (Str × V)
  | [] => [(f, v)]
  | (g, x) :: r => if g = f then (g, v) :: r else (g, x) :: putF f v r
theorem lookup_putF (f g : Str) (v : V) : ∀ fs : List (Str × V), (putF f v fs).lookup g = if g = f then some v else fs.lookup g
  | [] => by
    show List.lookup g [(f, v)] = _
    by_cases h : g = f
    · have hb : (g == f) = true := beq_iff_eq.mpr h
      simp only [List.lookup, hb, if_pos h]
    · have hb : (g == f) = false := beq_eq_false_iff_ne.mpr h
      simp only [List.lookup, hb, if_neg h]
  | (k, x) :: r => by
    have ih := lookup_putF f g v r
    rw [show putF f v ((k, x) :: r) = (if k = f then (k, v) :: r else (k, x) :: putF f v r) from rfl]
    by_cases hk : k = f
    · rw [if_pos hk]
      by_cases h : g = k
      · have hb : (g == k) = true := beq_iff_eq.mpr h
        simp only [List.lookup, hb, if_pos (h.trans hk)]
      · have hb : (g == k) = false := beq_eq_false_iff_ne.mpr h
        simp only [List.lookup, hb, if_neg (fun e : g = f => h (e.trans hk.symm))]
    · rw [if_neg hk]
      by_cases h : g = k
      · have hb : (g == k) = true := beq_iff_eq.mpr h
        simp only [List.lookup, hb, if_neg (fun e : g = f => hk (h.symm.trans e))]
      · have hb : (g == k) = false := beq_eq_false_iff_ne.mpr h
        simp only [List.lookup, hb]
        exact ih
theorem keys_putF (f : Str) (v : V) : ∀ fs : List (Str × V), f ∈ (putF f v fs).map (·.1) ∧ ∀ g, g ∈ fs.map (·.1) → g ∈ (putF f v fs).map (·.1)
  | [] => ⟨by simp [putF], fun g h => by simp at h⟩
  | (k, x) :: r => by
    obtain ⟨i1, i2⟩ := keys_putF f v r
    rw [show putF f v ((k, x) :: r) = (if k = f then (k, v) :: r else (k, x) :: putF f v r) from rfl]
    by_cases hk : k = f
    · rw [if_pos hk]
      subst hk
      exact ⟨by simp, fun g h => by simpa using h⟩
    · rw [if_neg hk]
      refine ⟨?_, fun g h => ?_⟩
      · rw [List.map_cons]
        exact List.mem_cons_of_mem _ i1
      · rw [List.map_cons] at h ⊢
        rcases List.mem_cons.mp h with e | e
        · exact List.mem_cons.mpr (.inl e)
        · exact List.mem_cons_of_mem _ (i2 g e)
theorem length_putF (f : Str) (v : V) : ∀ fs : List (Str × V), (putF f v fs).length ≤ fs.length + 1
  | [] => by simp [putF]
  | (k, x) :: r => by
    have ih := length_putF f v r
    rw [show putF f v ((k, x) :: r) = (if k = f then (k, v) :: r else (k, x) :: putF f v r) from rfl]
    by_cases hk : k = f
    · rw [if_pos hk, List.length_cons, List.length_cons]; omega
    · rw [if_neg hk, List.length_cons, List.length_cons]; omega

theorem RelO.some_of {v : V} {o : Option Value} (r : RelO (some v) o) : ∃ u, o = some u ∧ RelV v u := by
  cases o with
  | none => exact (show False from r).elim
  | some u => exact ⟨u, rfl, r⟩
theorem RelO.none_of {o : Option Value} (r : RelO none o) : o = none := by
  cases o with
  | none => rfl
  | some u => exact (show False from r).elim
theorem handed_of {v : V} {u : Value} (r : RelV v u) : PySem.W.handedIn u = true := by
  cases v with
  | non => cases (show u = Value.none from r); rfl
  | bl b => cases (show u = Value.bool b from r); rfl
  | int i => obtain ⟨t, e⟩ := (show ∃ t, u = Value.int i t from r); cases e; rfl
  | str x => obtain ⟨t, e⟩ := (show ∃ t, u = Value.str x t from r); cases e; rfl
  | byt b => obtain ⟨t, e⟩ := (show ∃ t, u = Value.bytes b t from r); cases e; rfl
  | flt b => obtain ⟨t, e⟩ := (show ∃ t, u = Value.float b t from r); cases e; rfl
  | ref a => cases (show u = Value.ref a from r); rfl
  | ty n => cases (show u = Value.type n from r); rfl

section
variable {P : Program} {w : World} {H H' : Hp} {h h' : Heap} {a C dx : Addr} {fs fs' : List (Str × V)}
theorem ins_get (hok : HOk P w H h) (e : H a = some (.ins C dx fs)) : ∃ mA, ObjM h a dx C mA ∧ (∀ f, RelO (fs.lookup f) (mA f)) ∧ PySem.Within mA (fs.map (·.1)) ∧ fs.length ≤ 1000 ∧ H dx = some (.own a) := by
  obtain ⟨d, z, ne, ob, mA, n, r, q⟩ := (show ObjOk P w H h a (.ins C dx fs) from hok a _ e)
  exact ⟨mA, ⟨ob, n, ne⟩, r, q, z, d⟩
end

/-! ### what of the text a class must have -/
structure Cls (K : PySem.W.Frag) (C : Addr) : Prop where
  pg : PySem.W.plainGet K C Str.empty = true
  hd : PySem.W.hasDictIn K C = true
  po : PySem.W.plainOver K C = true
  sa : PySem.W.findIn K (.ref C) "__setattr__" = some (some (.builtin "object.__setattr__"))
theorem Cls.get {K : PySem.W.Frag} {C : Addr} (c : Cls K C) (f : Str) : PySem.W.plainGet K C f = true := c.pg
/-- no class of it has the name -/
def NoAttr (K : PySem.W.Frag) (C : Addr) (f : Str) : Prop := PySem.W.findIn K (.ref C) f = some none
theorem NoAttr.taker {K : PySem.W.Frag} {C : Addr} {f : Str} (n : NoAttr K C f) : PySem.W.takerIn K C f = some none := by
  unfold PySem.W.takerIn
  rw [show PySem.W.findIn K (.ref C) f = some none from n]
  rfl
/-- a method: a plain def of the class or of one above it -/
structure Meth (K : PySem.W.Frag) (C : Addr) (m : Str) (f : Addr) : Prop where
  at_ : PySem.W.findIn K (.ref C) m = some (some (.ref f))
  fn : PySem.W.isFn K (.ref f) = true
  kp : PySem.W.keepIn K (.ref f) = true

section
variable {X : Cx} {pins : List (Addr × Obj)} {σ : St} {H : Hp} {s : Shared} {a C dx : Addr} {fs : List (Str × V)} {f : Str} {v : V} {A : Around} {E : Value → Shared → Prop}

theorem getattr_ok {b : Bool} {Q : Value → Shared → Prop} (I : Inv X pins σ H s) (e : H a = some (.ins C dx fs)) (c : Cls X.K C) (n : NoAttr X.K C f) (l : fs.lookup f = some v)
    (h : ∀ u s', Inv X pins σ H s' → RelV v u → Q u s') : wpAny (model X.prog X.w) A (getAttr (.ref a) f b) Q E s := by
  obtain ⟨mA, O, r, _, _, _⟩ := ins_get I.hok e
  obtain ⟨u, hu, ru⟩ := RelO.some_of (v := v) (o := mA f) (by rw [← l]; exact r f)
  exact get_map I.kIn O (c.get f) c.hd n hu (handed_of ru) (h u _ (I.tok _) ru)

theorem getmeth_ok {m : Str} {g : Addr} {pl : Sem Bool} {Q : Value × List Value → Shared → Prop} (I : Inv X pins σ H s) (e : H a = some (.ins C dx fs)) (c : Cls X.K C) (k : Meth X.K C m g) (l : fs.lookup m = none)
    (h : Q (.ref g, [.ref a]) s) : wpAny (model X.prog X.w) A (getMethod (.ref a) m pl) Q E s := by
  obtain ⟨mA, O, r, _, _, _⟩ := ins_get I.hok e
  have hn : mA m = none := RelO.none_of (by rw [← l]; exact r m)
  exact get_meth I.kIn O (c.get m) k.at_ k.fn hn h

theorem setattr_ok {y : V} {u : Value} {Q : Unit → Shared → Prop} (I : Inv X pins σ H s) (e : H a = some (.ins C dx fs)) (c : Cls X.K C) (n : NoAttr X.K C f) (hl : fs.length < 1000) (ry : RelV y u)
    (h : ∀ s', Inv X pins σ (upd H a (.ins C dx (putF f y fs))) s' → Q () s') : wpAny (model X.prog X.w) A (setAttr (.ref a) f u) Q E s := by
  obtain ⟨mA, O, r, wi, _, ho⟩ := ins_get I.hok e
  have hz : (fs.map (·.1)).length ≤ sizeLine := by rw [List.length_map, sizeLine_eq]; omega
  refine set_map I.kIn O c.sa c.po n.taker c.hd wi hz fun h' O' sb => h _ ?_
  have hd : ∃ o, h'.get? dx = some o := let ⟨o, _, _, e', _⟩ := O'.ns; ⟨o, e'⟩
  refine I.write (x := a) (e := dx) (by rw [e]; exact True.intro) (.inr ho) (fun b q hb z => (sb.2 b hb).trans z) hd ?_
  refine ⟨by rw [upd_ne O.ne]; exact ho, ?_, O.ne, O'.obj, _, O'.ns, fun g => ?_, fun g hg => ?_⟩
  · have := length_putF f y fs; omega
  · show RelO ((putF f y fs).lookup g) (if g = f then some u else mA g)
    rw [lookup_putF]
    by_cases q : g = f
    · rw [if_pos q, if_pos q]; exact ry
    · rw [if_neg q, if_neg q]; exact r g
  · by_cases q : g = f
    · rw [q]; exact (keys_putF f y fs).1
    · refine (keys_putF f y fs).2 g (wi g fun z => hg ?_)
      show (if g = f then some u else mA g) = none
      rw [if_neg q]; exact z

/-- a new instance, tracked, without attributes -/
theorem Inv.made (I : Inv X pins σ H s) : Inv X pins σ (upd (upd H s.heap.objs.size (.own (s.heap.objs.size + 1))) (s.heap.objs.size + 1) (.ins C s.heap.objs.size []))
    { s with heap := (s.heap.push PySem.W.emptyDict).push (PySem.W.instObj C s.heap.objs.size) } := by
  have e1 : (s.heap.push PySem.W.emptyDict).get? s.heap.objs.size = some PySem.W.emptyDict := Heap.get?_push_size s.heap rfl
  have e2 : ((s.heap.push PySem.W.emptyDict).push (PySem.W.instObj C s.heap.objs.size)).get? (s.heap.objs.size + 1) = some (PySem.W.instObj C s.heap.objs.size) := by
    have := Heap.get?_push_size (s.heap.push PySem.W.emptyDict) (o := PySem.W.instObj C s.heap.objs.size) rfl
    rwa [Heap.size_push] at this
  have e3 : (s.heap.push PySem.W.emptyDict).Ns s.heap.objs.size (fun _ => none) := ⟨PySem.W.emptyDict, #[], _, e1, rfl, (fun e he => absurd he (by simp)), fun _ => rfl⟩
  have I1 := I.laid (a := s.heap.objs.size) (o := .own (s.heap.objs.size + 1)) (h' := s.heap.push PySem.W.emptyDict) (t' := s.toks) (fun b u q => Heap.get?_push_of_some _ q) (Nat.le_refl _) ⟨_, e1⟩
  refine I1.laid (a := s.heap.objs.size + 1) (o := .ins C s.heap.objs.size []) (t' := s.toks) (fun b u q => Heap.get?_push_of_some _ q) (Nat.le_of_eq (Heap.size_push _ _)) ?_
  have ne : s.heap.objs.size ≠ s.heap.objs.size + 1 := Nat.ne_of_lt (Nat.lt_succ_self _)
  refine ⟨by rw [upd_ne ne, upd_same], Nat.zero_le _, ne, e2, fun _ => none, (Heap.Ns1.of_empty e3).at fun o q => Heap.get?_push_of_some _ q, fun _ => True.intro, fun y hy => absurd rfl hy⟩

/-- e.f where nothing but the object is asked: through attributeBase (super) and the last hold -/
theorem attr_of {prog : Program} {w : World} {env : Env} {e : Expr} {f : Str} {pos : Pos} {s : Shared} {Q : Value → Shared → Prop} (hb : attributeBase e f env (eval e env) = eval e env)
    (h : wpAny (model prog w) A (eval e env) (fun o s₁ => wpAny (model prog w) A (getAttr o f true) Q E s₁) E s) : wpAny (model prog w) A (eval (.Attribute e f pos) env) Q E s :=
  Attribute_any_ h (by rw [arm_eval_Attribute, hb])
end

/-! ### readings and rules -/
/-- e.f, an attribute of the instance -/
def tFld (K : PySem.W.Frag) (ta : TE) (f : Str) : TE := fun σ H Q => ta σ H fun x H1 => ∃ a C dx fs v, x = .ref a ∧ H1 a = some (.ins C dx fs) ∧ Cls K C ∧ NoAttr K C f ∧ fs.lookup f = some v ∧ Q v H1
/-- e.f = value -/
def sFld (K : PySem.W.Frag) (ta tv : TE) (f : Str) : TS := fun D σ H => tv σ H fun y H1 => ta σ H1 fun x H2 => ∃ a C dx fs, x = .ref a ∧ H2 a = some (.ins C dx fs) ∧ Cls K C ∧ NoAttr K C f ∧ fs.length < 1000 ∧
  D.nx σ (upd H2 a (.ins C dx (putF f y fs)))
/-- an augmented operator on two values -/
def InOp (X : Cx) (op : Operator) (rd : V → V → Hp → VK → Prop) : Prop :=
  ∀ (pins : List (Addr × Obj)) (s : Shared) (σ : St) (H : Hp) (x y : V) (u v : Value) (Q : VK), Inv X pins σ H s → RelV x u → RelV y v → rd x y H Q → wpAny (model X.prog X.w) X.A (inplaceOp op u v) (EP X pins σ Q) X.xe s
/-- e.f op= value -/
def sFldAug (K : PySem.W.Frag) (ta tv : TE) (rd : V → V → Hp → VK → Prop) (f : Str) : TS := fun D σ H => ta σ H fun x H1 => ∃ a C dx fs v, x = .ref a ∧ H1 a = some (.ins C dx fs) ∧ Cls K C ∧ NoAttr K C f ∧ fs.lookup f = some v ∧
  tv σ H1 fun y H2 => rd v y H2 fun z H3 => ∃ dx' fs', H3 a = some (.ins C dx' fs') ∧ fs'.length < 1000 ∧ D.nx σ (upd H3 a (.ins C dx' (putF f z fs')))

section
variable {X : Cx} {o e value : Expr} {f : Str} {pos pos' tpos : Pos} {ta tv : TE}
theorem pe_fld (he : PE X e ta) (hb : attributeBase e f X.env (eval e X.env) = eval e X.env) : PE X (.Attribute e f pos) (tFld X.K ta f) := by
  intro pins s σ H Q I h
  refine attr_of hb (thn (he pins s σ H _ I h) fun u s1 ⟨x, H1, I1, rx, a, C, dx, fs, v, ex, ea, c, n, l, q⟩ => ?_)
  subst ex
  obtain rfl : u = Value.ref a := rx
  exact getattr_ok I1 ea c n l fun u' s2 I2 ru => ⟨v, H1, I2, ru, q⟩
theorem ps_fld (ha : PE X o ta) (hv : PE X value tv) (hs : swapsWith value (some (.Attribute o f pos')) pos.line X.env = pure false) : PS X (.Assign [.Attribute o f pos'] value pos) (sFld X.K ta tv f) := by
  intro pins s σ H D I h
  refine plainObj_wpAny_Assign_Attribute (thn (hv pins s σ H _ I h) fun u s1 ⟨y, H1, I1, ry, q⟩ => thn (ha pins s1 σ H1 _ I1 q) fun ov s2 ⟨x, H2, I2, rx, a, C, dx, fs, ex, ea, c, n, l, q2⟩ => ?_) hs
  subst ex
  obtain rfl : ov = Value.ref a := rx
  exact setattr_ok I2 ea c n l ry fun s3 I3 => ⟨σ, _, I3, q2⟩
theorem ps_fldaug {op : Operator} {rd : V → V → Hp → VK → Prop} (ha : PE X o ta) (hv : PE X value tv) (hop : InOp X op rd) : PS X (.AugAssign (.Attribute o f tpos) op value pos) (sFldAug X.K ta tv rd f) := by
  intro pins s σ H D I h
  refine wpAny_AugAssign_AttributeAny (thn (ha pins s σ H _ I h) fun ov s1 ⟨x, H1, I1, rx, a, C, dx, fs, v, ex, ea, c, n, l, q⟩ => ?_)
  subst ex
  obtain rfl : ov = Value.ref a := rx
  refine getattr_ok I1 ea c n l fun u s2 I2 ru => thn (hv pins s2 σ H1 _ I2 q) fun w3 s3 ⟨y, H2, I3, ry, q3⟩ => thn (hop pins s3 σ H2 v y u w3 _ I3 ru ry q3) fun w4 s4 ⟨z, H3, I4, rz, dx', fs', ea', l', q4⟩ => ?_
  exact setattr_ok I4 ea' c n l' rz fun s5 I5 => ⟨σ, _, I5, q4⟩
def rAdd : V → V → Hp → VK → Prop := fun x y H Q => ∃ i j, x = .int i ∧ y = .int j ∧ Q (.int (i + j)) H
theorem in_add : InOp X .Add rAdd := by
  rintro pins s σ H x y u v Q I rx ry ⟨i, j, rfl, rfl, q⟩
  obtain ⟨t, rfl⟩ := (show ∃ t, u = Value.int i t from rx)
  obtain ⟨t', rfl⟩ := (show ∃ t', v = Value.int j t' from ry)
  exact PyProof.Rows.iadd_int ⟨.int (i + j), H, I.tok _, ⟨_, rfl⟩, q⟩

end

/-! ### isinstance -/
section
variable {X : Cx} {pins : List (Addr × Obj)} {σ : St} {H : Hp} {s : Shared} {A : Around} {E : Value → Shared → Prop} {Q : Value → Shared → Prop} {c : Value} {b : Bool}
/-- the type of a value, as the fragment's deciders take it; for an instance its class -/
inductive TyOf (K : PySem.W.Frag) (H : Hp) : V → Value → Prop where
  | non : TyOf K H .non (.type "NoneType")
  | bl (x : Bool) : TyOf K H (.bl x) (.type "bool")
  | int (i : Int) : TyOf K H (.int i) (.type "int")
  | str (x : Str) : TyOf K H (.str x) (.type "str")
  | flt (x : UInt64) : TyOf K H (.flt x) (.type "float")
  | lst {a : Addr} {xs : List V} (e : H a = some (.lst xs)) : TyOf K H (.ref a) (.type "list")
  | frz {a : Addr} {o : Obj} {xs : List V} (e : H a = some (.frz o (.lst xs))) : TyOf K H (.ref a) (.type "list")
  | tup {a : Addr} {xs : List V} (e : H a = some (.tup xs)) : TyOf K H (.ref a) (.type "tuple")
  | dK {a : Addr} {kvs : List (Key × V)} (e : H a = some (.dK kvs)) : TyOf K H (.ref a) (.type "dict")
  | dT {a : Addr} {kvs : List (List Key × V)} (e : H a = some (.dT kvs)) : TyOf K H (.ref a) (.type "dict")
  | ins {a C dx : Addr} {fs : List (Str × V)} (e : H a = some (.ins C dx fs)) (cl : Cls K C) (ha : PySem.W.findIn K (.ref C) "__class__" = some (some (.builtin "object.__class__")))
      (hn : PySem.W.specialIn K (.builtin "object.__class__") "__get__" = some (some (.builtin "getset_descriptor.__get__"))) (htk : PySem.W.takesIn K (.builtin "object.__class__") = some true)
      (hm : PySem.W.mroIn K C (.type "object") = some true) : TyOf K H (.ref a) (.ref C)
/-- isinstance(x, c) for one class c, a built-in or an own one: kitOne's answer -/
theorem isinst_ok {x : V} {u t : Value} (I : Inv X pins σ H s) (rx : RelV x u) (ty : TyOf X.K H x t) (e : PySem.W.kitOne X.K t c = some b) (h : ∀ tk, Q (.bool b) { s with toks := tk }) :
    wpAny (model X.prog X.w) A (call (.builtin "isinstance") [u, c]) Q E s := by
  cases ty with
  | non => cases (show u = Value.none from rx); exact PySem.W.kia_one PySem.W.kitx_none I.kIn True.intro e (fun z => nomatch z) h
  | bl y => cases (show u = Value.bool y from rx); exact PySem.W.kia_one PySem.W.kitx_bool I.kIn True.intro e (fun z => nomatch z) h
  | int i => obtain ⟨t, q⟩ := (show ∃ t, u = Value.int i t from rx); cases q; exact PySem.W.kia_one PySem.W.kitx_int I.kIn True.intro e (fun z => nomatch z) h
  | str y => obtain ⟨t, q⟩ := (show ∃ t, u = Value.str y t from rx); cases q; exact PySem.W.kia_one PySem.W.kitx_str I.kIn True.intro e (fun z => nomatch z) h
  | flt y => obtain ⟨t, q⟩ := (show ∃ t, u = Value.float y t from rx); cases q; exact PySem.W.kia_one PySem.W.kitx_float I.kIn True.intro e (fun z => nomatch z) h
  | @lst a xs ea =>
    cases (show u = Value.ref a from rx)
    obtain ⟨_, _, n, _, h1⟩ := (show ObjOk X.prog X.w H s.heap a (.lst xs) from I.hok a _ ea)
    exact PySem.W.kia_one PySem.W.kitx_list I.kIn ⟨_, h1, rfl⟩ e (fun z => nomatch z) h
  | @frz a ob xs ea =>
    cases (show u = Value.ref a from rx)
    obtain ⟨_, _, _, n, _, h1⟩ := (show ObjOk X.prog X.w H s.heap a (.frz ob (.lst xs)) from I.hok a _ ea)
    exact PySem.W.kia_one PySem.W.kitx_list I.kIn ⟨_, h1, rfl⟩ e (fun z => nomatch z) h
  | @tup a xs ea =>
    cases (show u = Value.ref a from rx)
    obtain ⟨_, _, _, p⟩ := (show ObjOk X.prog X.w H s.heap a (.tup xs) from I.hok a _ ea)
    obtain ⟨o, h1, h2, _⟩ := p
    exact PySem.W.kia_one PySem.W.kitx_tuple I.kIn ⟨o, h1, h2⟩ e (fun z => nomatch z) h
  | @dK a kvs ea =>
    cases (show u = Value.ref a from rx)
    obtain ⟨_, _, vs, _, p⟩ := (show ObjOk X.prog X.w H s.heap a (.dK kvs) from I.hok a _ ea)
    obtain ⟨o, es, ep, h1, h2, _⟩ := p
    exact PySem.W.kia_one PySem.W.kitx_dict I.kIn ⟨o, h1, h2.1⟩ e (fun z => nomatch z) h
  | @dT a kvs ea =>
    cases (show u = Value.ref a from rx)
    obtain ⟨_, _, xs, _, o, es, ep, h1, h2, _⟩ := (show ObjOk X.prog X.w H s.heap a (.dT kvs) from I.hok a _ ea)
    exact PySem.W.kia_one PySem.W.kitx_dict I.kIn ⟨o, h1, h2.1⟩ e (fun z => nomatch z) h
  | @ins a C dx fs ea cl ha hn htk hm =>
    cases (show u = Value.ref a from rx)
    obtain ⟨mA, O, _⟩ := ins_get I.hok ea
    obtain ⟨od, J, _⟩ := O.look
    exact PySem.W.kia_one (PySem.W.kitx_own (cl.get _) cl.hd ha hn htk hm) I.kIn J e (fun z => nomatch z) h
end
end L2

namespace L2
open PySem PySem.Spec PyProof.Rows

/-! ### room -/
structure Room (k : Nat) (A : Around) : Prop where
  hd : A.handled = none
  dp : A.depth + 3 * k + 5 < recursionLimit
  un : A.units + 16 * k + 200 < cLine
theorem Room.mono {j k : Nat} {A : Around} (r : Room k A) (h : j ≤ k) : Room j A := ⟨r.hd, by have := r.dp; omega, by have := r.un; omega⟩
theorem Room.deeper {k : Nat} {A : Around} (r : Room (k + 1) A) (env : Env) : Room k (A.deeper env) :=
  ⟨r.hd, by have := r.dp; show A.depth + 1 + 3 * k + 5 < _; omega, by have := r.un; show A.units + 3 + 16 * k + 200 < _; omega⟩
theorem make_depth {A : Around} {C : Addr} {us : List Value} {kw : List (Str × Value)} : (A.under (.builtin "type.__call__" ⟨.ref C :: us, kw⟩)).depth = A.depth + 1 := by
  first | rfl | simp [Around.under, Code.weight, Code.isCreation, Code.isGuard, Code.isCaller, Code.frames, Code.isFrame, guardIds]
theorem make_units {A : Around} {C : Addr} {us : List Value} {kw : List (Str × Value)} : (A.under (.builtin "type.__call__" ⟨.ref C :: us, kw⟩)).units = A.units + 1 := by
  first | rfl | simp [Around.under, Code.cUnits, Code.frames, Code.isFrame]
theorem Room.make {k : Nat} {A : Around} (r : Room (k + 1) A) (C : Addr) (us : List Value) (kw : List (Str × Value)) : Room k (A.under (.builtin "type.__call__" ⟨.ref C :: us, kw⟩)) :=
  ⟨r.hd, by have := r.dp; rw [make_depth]; omega, by have := r.un; rw [make_units]; omega⟩
theorem Room.depth {k : Nat} {A : Around} (r : Room k A) : A.depth < recursionLimit := by have := r.dp; omega
theorem Room.units {k : Nat} {A : Around} (r : Room k A) : A.units + 64 < cLine := by have := r.un; omega

/-! ### argument lists and displays -/
def tNil : TA := fun _ H Q => Q [] H
def tCons (ta : TE) (tr : TA) : TA := fun σ H Q => ta σ H fun x H1 => tr σ H1 fun xs H2 => Q (x :: xs) H2
section
variable {X : Cx} {e : Expr} {es : List Expr} {te : TE} {t : TA} {pos : Pos}
theorem pa_nil : PA X [] tNil := fun _ _ _ _ H Q I h => Calls.spliced_nil ⟨[], H, I, .nil, h⟩
theorem pa_cons (ha : PE X e te) (hr : PA X es t) (hs : starEach (e :: es) X.env = (false, eval e X.env) :: starEach es X.env := by rfl) : PA X (e :: es) (tCons te t) := by
  intro pos pins s σ H Q I h
  rw [hs]
  show wpAny _ _ (spliced ((false, eval e X.env) :: backTo pos (starEach es X.env))) _ _ s
  refine Calls.spliced_cons (thn (ha pins s σ H _ I h) fun u s1 ⟨x, H1, I1, r1, q1⟩ => ?_)
  exact thn (hr pos pins s1 σ H1 _ I1 q1) fun us s2 ⟨xs, H2, I2, r2, q2⟩ => ⟨x :: xs, H2, I2, .cons r1 r2, q2⟩

/-- a tuple, a list of written items -/
def tTup (t : TA) : TE := fun σ H Q => t σ H fun xs H1 => xs.length ≤ sizeLine ∧ ∀ p, H1 p = none → Q (.ref p) (upd H1 p (.tup xs))
def tLst (t : TA) : TE := fun σ H Q => t σ H fun xs H1 => xs.length ≤ sizeLine ∧ ∀ p, H1 p = none → Q (.ref p) (upd H1 p (.lst xs))
theorem pe_tup {x1} (h : PA X es t) : PE X (.Tuple es x1 pos) (tTup t) := by
  intro pins s σ H Q I hq
  refine wpAny_Tuple_spliced (thn (h pos pins s σ H _ I hq) fun us s1 ⟨xs, H1, I1, r, z, q⟩ => ⟨by rw [← r.length]; exact z, ?_⟩)
  have hf : H1 s1.heap.objs.size = none := I1.hok.fresh (Nat.le_refl _)
  refine ⟨.ref s1.heap.objs.size, upd H1 s1.heap.objs.size (.tup xs), I1.laid (t' := s1.toks) (fun b u e => Heap.get?_push_of_some _ e) (Nat.le_refl _) ?_, rfl, q _ hf⟩
  exact ⟨z, us, r, ⟨_, Heap.get?_push_size _ rfl, rfl, _, rfl⟩⟩
theorem pe_lst (h : PA X es t) : PE X (.List es pos) (tLst t) := by
  intro pins s σ H Q I hq
  refine wpAny_List_spliced (thn (h pos pins s σ H _ I hq) fun us s1 ⟨xs, H1, I1, r, z, q⟩ => ⟨by rw [← r.length]; exact z, ?_⟩)
  have hf : H1 s1.heap.objs.size = none := I1.hok.fresh (Nat.le_refl _)
  refine ⟨.ref s1.heap.objs.size, upd H1 s1.heap.objs.size (.lst xs), I1.laid (t' := s1.toks) (fun b u e => Heap.get?_push_of_some _ e) (Nat.le_refl _) ?_, rfl, q _ hf⟩
  exact ⟨z, us, 0, r, Heap.get?_push_size _ rfl⟩
end

/-! ### what a def promises -/
/-- a def's promise: the bound arguments in the parameters' order, the heap, the wanted end, the wanted exception -/
abbrev Sp := List V → Hp → VK → XK → Prop
/-- how an exception lies behind a call (file 08 gives it): the callers' frames, abstract heap and state ahead of the call, the wish, the exception, the state -/
abbrev CXT := List Env → Hp → Shared → XK → Value → Shared → Prop

/-- the state at a call -/
structure Env0 (P : Program) (w : World) (K : PySem.W.Frag) (mg : Str → Option Value) (base : Heap) (A : Around) (outer : List Env) (s : Shared) (H : Hp) : Prop where
  frames : A.frames = some outer
  mod : Mod K mg base
  bs : ∀ b o, base.get? b = some o → s.heap.get? b = some o ∧ H b = none
  bsz : base.objs.size ≤ s.heap.objs.size
  funs : s.heap.FunFrames base outer
  frf : ∀ b ∈ frs outer, H b = none
  hok : HOk P w H s.heap
  bare : AllBare s.gens
/-- a call's end -/
def CE (outer : List Env) (P : Program) (w : World) (H : Hp) (s : Shared) (Q : VK) (u : Value) (s' : Shared) : Prop :=
  ∃ v H', s'.os = s.os ∧ AllBare s'.gens ∧ Un (frs outer) [] H H' s.heap s'.heap ∧ HOk P w H' s'.heap ∧ RelV v u ∧ Q v H'
def CR (CX : CXT) (outer : List Env) (P : Program) (w : World) (H : Hp) (s : Shared) (Q : VK) (E : XK) (r : Result) (s' : Shared) : Prop :=
  match r with
  | .ok (.ret u) => CE outer P w H s Q u s'
  | .ok _ => False
  | .error e => CX outer H s E e s'
structure FnOk (P : Program) (w : World) (K : PySem.W.Frag) (mg : Str → Option Value) (base : Heap) (CX : CXT) (k : Nat) (f : Addr) (fd : FuncData) (ps : List Str) (sp : Sp) : Prop where
  len : ∀ vs H Q E, sp vs H Q E → vs.length = ps.length
  run : ∀ (A : Around) (outer : List Env) (s : Shared) (H : Hp) (args : Args) (us : List Value) (vs : List V) (Q : VK) (E : XK), Room k A → Env0 P w K mg base A outer s H → BindsTo s fd args (ps.zip us) → Vals vs us → sp vs H Q E →
    codeAny (model P w) A (.call (.ref f) args) (CR CX outer P w H s Q E) s
theorem FnOk.mono {P : Program} {w : World} {K : PySem.W.Frag} {mg : Str → Option Value} {base : Heap} {CX : CXT} {j k : Nat} {f : Addr} {fd : FuncData} {ps : List Str} {sp : Sp} (F : FnOk P w K mg base CX j f fd ps sp) (h : j ≤ k) :
    FnOk P w K mg base CX k f fd ps sp := ⟨F.len, fun A outer s H args us vs Q E hr => F.run A outer s H args us vs Q E (hr.mono h)⟩

theorem Env0.make {P : Program} {w : World} {K : PySem.W.Frag} {mg : Str → Option Value} {base : Heap} {A : Around} {outer : List Env} {s : Shared} {H : Hp} (e : Env0 P w K mg base A outer s H) (C : Addr) (us : List Value) (kw : List (Str × Value)) :
    Env0 P w K mg base (A.under (.builtin "type.__call__" ⟨.ref C :: us, kw⟩)) outer s H := ⟨by first | exact e.frames | (simpa [Around.under, Code.envs, Code.isFrame, pushEnvs] using e.frames), e.mod, e.bs, e.bsz, e.funs, e.frf, e.hok, e.bare⟩

section
variable {X : Cx} {pins : List (Addr × Obj)} {σ : St} {H : Hp} {s s' : Shared}
/-- from a body: what a callee wants -/
theorem Inv.env0 (I : Inv X pins σ H s) : Env0 X.prog X.w X.K X.mg X.base X.A X.stack s H :=
  ⟨I.ok.frames, I.ok.mod, I.bs, Nat.le_trans I.ok.bsz I.sz, I.stack, I.stkFree, I.hok, I.bare⟩
/-- behind a call -/
theorem Inv.after {Q : VK} {u : Value} (I : Inv X pins σ H s) (h : CE X.stack X.prog X.w H s Q u s') : EP X pins σ Q u s' := by
  obtain ⟨v, H', os, bare, un, hok, r, q⟩ := h
  obtain ⟨hh, g, d, t, os'⟩ := s'
  obtain rfl : os' = s.os := os
  exact ⟨v, H', I.call (h' := hh) (g' := g) (d' := d) (t' := t) (ch := []) un hok bare (fun b z => absurd z (by simp)), r, q⟩
end

/-! ### calls -/
/-- f(..): the written arguments, then the defaults dvs; E: what is wanted of an exception -/
def tCall (sp : Sp) (dvs : List V) (E : XK) (t : TA) : TE := fun σ H Q => t σ H fun vs H1 => sp (vs ++ dvs) H1 Q E
/-- o.m(..) of an instance of the class at C -/
def tMeth (C : Addr) (m : Str) (sp : Sp) (dvs : List V) (E : XK) (ta : TE) (t : TA) : TE := fun σ H Q => ta σ H fun x H1 => ∃ a dx fs, x = .ref a ∧ H1 a = some (.ins C dx fs) ∧ fs.lookup m = none ∧
  t σ H1 fun vs H2 => sp (x :: (vs ++ dvs)) H2 Q E
/-- C(..): a new instance and its dict, then __init__ -/
def tMake (C : Addr) (sp : Sp) (dvs : List V) (E : XK) (t : TA) : TE := fun σ H Q => t σ H fun vs H1 => ∀ x dx, H1 x = none → H1 dx = none → dx ≠ x →
  sp (.ref x :: (vs ++ dvs)) (upd (upd H1 dx (.own x)) x (.ins C dx [])) (fun v H2 => v = .non ∧ Q (.ref x) H2) E

/-- how the parameters are bound: us the positional arguments, kw the keywords' values by name, ds the defaults that fill up -/
def Binds (K : PySem.W.Frag) (fd : FuncData) (ps : List Str) (ds : List Value) : Prop :=
  ∀ (s : Shared) (us : List Value), K.In s.heap → (us ++ ds).length = ps.length → BindsTo s fd ⟨us, []⟩ (ps.zip (us ++ ds))
/-- every parameter is given -/
theorem Binds.all {K : PySem.W.Frag} {fd : FuncData} {ps : List Str} (h : ∀ us : List Value, us.length = ps.length → bindArgs fd ⟨us, []⟩ = pure (ps.zip us)) : Binds K fd ps [] := fun s us _ hl => by
  rw [List.append_nil] at hl ⊢
  exact .of_eq (h us hl)

/-- an exception of a callee reaches what this body wants of exceptions -/
def Passes (CX : CXT) (X : Cx) (E : XK) : Prop := ∀ (pins : List (Addr × Obj)) (σ : St) (H : Hp) (s : Shared) (e : Value) (s' : Shared), Inv X pins σ H s → CX X.stack H s E e s' → X.xe e s'

section
variable {X : Cx} {CX : CXT} {k : Nat} {f C : Addr} {fd : FuncData} {ps : List Str} {sp : Sp} {dvs : List V} {ds : List Value} {E : XK} {x m : Str} {p pos apos : Pos} {e o : Expr} {es : List Expr} {ta : TE} {t : TA}

/-- the callee runs -/
theorem run_fn {pins : List (Addr × Obj)} {σ : St} {H : Hp} {s : Shared} {Q : VK} {us : List Value} {vs : List V} (F : FnOk X.prog X.w X.K X.mg X.base CX k f fd ps sp) (hr : Room k X.A) (hb : Binds X.K fd ps ds) (hd : Vals dvs ds) (hx : Passes CX X E)
    (I : Inv X pins σ H s) (r : Vals vs us) (h : sp (vs ++ dvs) H Q E) : wpAny (model X.prog X.w) X.A (call (.ref f) us) (EP X pins σ Q) X.xe s := by
  have r2 : Vals (vs ++ dvs) (us ++ ds) := r.append hd
  have hl : (us ++ ds).length = ps.length := by rw [← r2.length]; exact F.len _ _ _ _ h
  refine wpAny_call (codeAny_mono (F.run X.A X.stack s H ⟨us, []⟩ (us ++ ds) (vs ++ dvs) Q E hr I.env0 (hb s us I.kIn hl) r2 h) fun r s' hq => ?_)
  cases r with
  | error e => exact hx pins σ H s e s' I hq
  | ok fl =>
    cases fl with
    | ret u => exact I.after hq
    | next => exact False.elim hq
    | brk => exact False.elim hq
    | cont => exact False.elim hq

theorem pe_call (F : FnOk X.prog X.w X.K X.mg X.base CX k f fd ps sp) (hr : Room k X.A) (hg : Gl X x) (hm : X.mg x = some (.ref f)) (hk : PySem.W.keepIn X.K (.ref f) = true) (hb : Binds X.K fd ps ds) (hd : Vals dvs ds) (hx : Passes CX X E)
    (ha : PA X (e :: es) t) (hdb : (x == ("__debug__" : Str)) = false := by decide) (he : starEach (e :: es) X.env = (false, eval e X.env) :: starEach es X.env := by rfl) (hpl : (backTo pos (starEach es X.env)).any (·.1) = false := by rfl) :
    PE X (.Call (.Name x p) (e :: es) [] pos) (tCall sp dvs E t) := by
  intro pins s σ H Q I h
  refine wpAny_Call_Name_kw (ld_glob I hg hm ?_ hdb)
  refine PySem.W.callWith_K (h₀ := X.base) I.ok.mod.kin hk (thn (ha pos pins s σ H _ I h) fun us s1 ⟨vs, H1, I1, r, q⟩ => ⟨I1.kIn, ?_⟩) he hpl
  exact run_fn F hr hb hd hx I1 r q

/-- o.m(e, ..) -/
theorem pe_meth {pl : Sem Bool} (he : PE X o ta) (c : Cls X.K C) (hm : Meth X.K C m f) (F : FnOk X.prog X.w X.K X.mg X.base CX k f fd ps sp) (hr : Room k X.A) (hb : Binds X.K fd ps ds) (hd : Vals dvs ds) (hx : Passes CX X E) (ha : PA X (e :: es) t)
    (hst : starEach (e :: es) X.env = (false, eval e X.env) :: starEach es X.env := by rfl) (hpl : (backTo pos (starEach es X.env)).any (·.1) = false := by rfl)
    (ht : eval (.Call (.Attribute o m apos) (e :: es) [] pos) X.env = (do
      let ov ← eval o X.env
      standAt apos.atName
      let (f, first) ← holding [ov] (getMethod ov m pl)
      callWith pos f first (backTo pos (starEach (e :: es) X.env)) (backToKw pos (keywordEach [] X.env))) := by rfl) :
    PE X (.Call (.Attribute o m apos) (e :: es) [] pos) (tMeth C m sp dvs E ta t) := by
  intro pins s σ H Q I h
  refine PySem.W.methodCall_KW (pl := pl) (thn (he pins s σ H _ I h) fun u s1 ⟨x, H1, I1, rx, a, dx, fs, ex, ea, l, q⟩ => ?_) ht
  subst ex
  obtain rfl : u = Value.ref a := rx
  refine getmeth_ok I1 ea c hm l ?_
  refine PySem.W.callWith_K (first := [.ref a]) (h₀ := X.base) I.ok.mod.kin hm.kp (thn (ha pos pins s1 σ H1 _ I1 q) fun us s2 ⟨vs, H2, I2, r, q2⟩ => ⟨I2.kIn, ?_⟩) hst hpl
  exact run_fn (us := .ref a :: us) (vs := .ref a :: vs) F hr hb hd hx I2 (.cons rfl r) q2
/-- o.m() -/
theorem pe_meth0 {pl : Sem Bool} (he : PE X o ta) (c : Cls X.K C) (hm : Meth X.K C m f) (F : FnOk X.prog X.w X.K X.mg X.base CX k f fd ps sp) (hr : Room k X.A) (hb : Binds X.K fd ps ds) (hd : Vals dvs ds) (hx : Passes CX X E)
    (ht : eval (.Call (.Attribute o m apos) [] [] pos) X.env = (do
      let ov ← eval o X.env
      standAt apos.atName
      let (f, first) ← holding [ov] (getMethod ov m pl)
      callWith pos f first (backTo pos (starEach [] X.env)) (backToKw pos (keywordEach [] X.env))) := by rfl) :
    PE X (.Call (.Attribute o m apos) [] [] pos) (tMeth C m sp dvs E ta tNil) := by
  intro pins s σ H Q I h
  refine PySem.W.methodCall_KW (pl := pl) (thn (he pins s σ H _ I h) fun u s1 ⟨x, H1, I1, rx, a, dx, fs, ex, ea, l, q⟩ => ?_) ht
  subst ex
  obtain rfl : u = Value.ref a := rx
  refine getmeth_ok I1 ea c hm l ?_
  exact PySem.W.callWith_K0 (first := [.ref a]) I1.kIn hm.kp (run_fn (us := [.ref a]) (vs := [.ref a]) F hr hb hd hx I1 (.cons rfl .nil) q)

/-- what a class must have to be made -/
structure Mk (K : PySem.W.Frag) (C f : Addr) : Prop where
  makes : PySem.W.makesIn K C = true
  init : PySem.W.findIn K (.ref C) "__init__" = some (some (.ref f))
  fn : PySem.W.isFn K (.ref f) = true
  kp : PySem.W.keepIn K (.ref C) = true

theorem run_make {pins : List (Addr × Obj)} {σ : St} {H : Hp} {s : Shared} {Q : VK} {us : List Value} {vs : List V} (M : Mk X.K C f) (F : FnOk X.prog X.w X.K X.mg X.base CX k f fd ps sp) (hr : Room (k + 1) X.A) (hb : Binds X.K fd ps ds) (hd : Vals dvs ds)
    (hx : Passes CX X E) (I : Inv X pins σ H s) (r : Vals vs us)
    (h : ∀ x dx, H x = none → H dx = none → dx ≠ x → sp (.ref x :: (vs ++ dvs)) (upd (upd H dx (.own x)) x (.ins C dx [])) (fun v H2 => v = .non ∧ Q (.ref x) H2) E) :
    wpAny (model X.prog X.w) X.A (call (.ref C) us) (EP X pins σ Q) X.xe s := by
  have hq := h (s.heap.objs.size + 1) s.heap.objs.size (I.hok.fresh (Nat.le_succ _)) (I.hok.fresh (Nat.le_refl _)) (Nat.ne_of_lt (Nat.lt_succ_self _))
  have I2 := Inv.made (C := C) I
  have r2 : Vals (V.ref (s.heap.objs.size + 1) :: (vs ++ dvs)) (Value.ref (s.heap.objs.size + 1) :: (us ++ ds)) := .cons rfl (r.append hd)
  have hl : (Value.ref (s.heap.objs.size + 1) :: us ++ ds).length = ps.length := by
    have e := r2.length
    rw [F.len _ _ _ _ hq] at e
    exact e.symm
  refine wpAny_call (make_map (f := f) I.kIn M.makes M.init (beq_iff_eq.mp M.fn) (codeAny_mono (F.run _ X.stack _ _ ⟨Value.ref (s.heap.objs.size + 1) :: us, []⟩ (Value.ref (s.heap.objs.size + 1) :: (us ++ ds)) _ _ E (hr.make C us [])
    (I2.env0.make C us []) (hb _ (Value.ref (s.heap.objs.size + 1) :: us) I2.kIn hl) r2 hq) fun r s' hq' => ?_))
  cases r with
  | error e => exact hx pins σ _ _ e s' I2 hq'
  | ok fl =>
    cases fl with
    | ret u =>
      obtain ⟨v, H', I3, rv, ev, q3⟩ := I2.after hq'
      subst ev
      exact ⟨rv, ⟨V.ref (s.heap.objs.size + 1), H', I3, rfl, q3⟩⟩
    | next => exact False.elim hq'
    | brk => exact False.elim hq'
    | cont => exact False.elim hq'
theorem pe_make (M : Mk X.K C f) (F : FnOk X.prog X.w X.K X.mg X.base CX k f fd ps sp) (hr : Room (k + 1) X.A) (hg : Gl X x) (hm : X.mg x = some (.ref C)) (hb : Binds X.K fd ps ds) (hd : Vals dvs ds) (hx : Passes CX X E)
    (ha : PA X (e :: es) t) (hdb : (x == ("__debug__" : Str)) = false := by decide) (he : starEach (e :: es) X.env = (false, eval e X.env) :: starEach es X.env := by rfl) (hpl : (backTo pos (starEach es X.env)).any (·.1) = false := by rfl) :
    PE X (.Call (.Name x p) (e :: es) [] pos) (tMake C sp dvs E t) := by
  intro pins s σ H Q I h
  refine wpAny_Call_Name_kw (ld_glob I hg hm ?_ hdb)
  refine PySem.W.callWith_K (h₀ := X.base) I.ok.mod.kin M.kp (thn (ha pos pins s σ H _ I h) fun us s1 ⟨vs, H1, I1, r, q⟩ => ⟨I1.kIn, ?_⟩) he hpl
  exact run_make M F hr hb hd hx I1 r q
end

/-! ### keywords -/
section
variable {X : Cx} {CX : CXT} {k : Nat} {f C : Addr} {fd : FuncData} {ps ks : List Str} {sp : Sp} {E : XK} {x m : Str} {p pos apos kpos : Pos} {e o : Expr} {es : List Expr} {kws : List Keyword} {te ta : TE} {t tk : TA} {nm : Option Str}

variable {g : List Value → List Value → List Value} {gV : List V → List V → List V}
end

/-! ### a def's body keeps its promise -/
/-- names: the parameters first -/
structure FnScope (N P : List Str) (sc : Scope) : Prop where
  kind : sc.kind = .function
  co : sc.isCoroutine = false
  gen : sc.isGenerator = false
  nd : N.Nodup
  pre : N.take P.length = P
  par : ∀ x ∈ P, sc.names.lookup x = some .local ∨ sc.names.lookup x = some .cell
  nofree : ∀ y ∈ sc.names, y.2 ≠ .free

theorem bindL_out {kindOf : Str → Option NameKind} {x : Str} : ∀ {binds : List (Str × Value)} {m : Str → Option Value}, (∀ v, (x, v) ∉ binds) → bindL kindOf binds m x = m x
  | [], _, _ => rfl
  | (n, v) :: r, m, h => by
    unfold bindL
    rw [bindL_out fun w hw => h w (List.mem_cons_of_mem _ hw)]
    split
    · have : x ≠ n := by rintro rfl; exact h v List.mem_cons_self
      simp [this]
    · rfl
theorem bindC_out {kindOf : Str → Option NameKind} {x : Str} : ∀ {binds : List (Str × Value)} {m : Str → Option Value}, (∀ v, (x, v) ∉ binds) → bindC kindOf binds m x = m x
  | [], _, _ => rfl
  | (n, v) :: r, m, h => by
    unfold bindC
    rw [bindC_out fun w hw => h w (List.mem_cons_of_mem _ hw)]
    split
    · rfl
    · have : x ≠ n := by rintro rfl; exact h v List.mem_cons_self
      simp [this]
theorem bindL_get {kindOf : Str → Option NameKind} {x : Str} {v : Value} : ∀ {P : List Str} {vs : List Value} {i : Nat} {m : Str → Option Value}, P.Nodup → P[i]? = some x → vs[i]? = some v → kindOf x = some .local →
    bindL kindOf (P.zip vs) m x = some v
  | [], _, _, _, _, h, _, _ => by simp at h
  | _ :: _, [], _, _, _, _, h, _ => by simp at h
  | p :: P, w :: vs, 0, m, nd, h1, h2, hk => by
    simp at h1 h2; subst h1; subst h2
    show bindL kindOf ((p, w) :: P.zip vs) m p = _
    unfold bindL
    rw [bindL_out fun v hv => (List.nodup_cons.mp nd).1 (List.of_mem_zip hv).1, if_pos hk]
    simp
  | p :: P, w :: vs, i + 1, m, nd, h1, h2, hk => by
    show bindL kindOf ((p, w) :: P.zip vs) m x = _
    unfold bindL
    exact bindL_get (i := i) (List.nodup_cons.mp nd).2 (by simpa using h1) (by simpa using h2) hk
theorem bindC_get {kindOf : Str → Option NameKind} {x : Str} {v : Value} : ∀ {P : List Str} {vs : List Value} {i : Nat} {m : Str → Option Value}, P.Nodup → P[i]? = some x → vs[i]? = some v → kindOf x ≠ some .local →
    bindC kindOf (P.zip vs) m x = some v
  | [], _, _, _, _, h, _, _ => by simp at h
  | _ :: _, [], _, _, _, _, h, _ => by simp at h
  | p :: P, w :: vs, 0, m, nd, h1, h2, hk => by
    simp at h1 h2; subst h1; subst h2
    show bindC kindOf ((p, w) :: P.zip vs) m p = _
    unfold bindC
    rw [bindC_out fun v hv => (List.nodup_cons.mp nd).1 (List.of_mem_zip hv).1, if_neg hk]
    simp
  | p :: P, w :: vs, i + 1, m, nd, h1, h2, hk => by
    show bindC kindOf ((p, w) :: P.zip vs) m x = _
    unfold bindC
    exact bindC_get (i := i) (List.nodup_cons.mp nd).2 (by simpa using h1) (by simpa using h2) hk

/-- the names' values at the entry -/
def start (N : List Str) (vs : List V) : St := vs.map some ++ List.replicate (N.length - vs.length) none

/-- the context of a def's body, at its entry; an exception leaves the frame, then lies as CX says -/
def cxOf (CX : CXT) (P : Program) (w : World) (K : PySem.W.Frag) (mg : Str → Option Value) (base : Heap) (N : List Str) (qual : Str) (scope : Scope) (f : Addr) (cd : Value) (A : Around) (outer : List Env) (s : Shared) (H : Hp) (E : XK) : Cx where
  prog := P
  w := w
  K := K
  mg := mg
  base := base
  A := A.deeper (envOfC qual scope s.heap.objs.size f cd)
  N := N
  s₀ := s
  H₀ := H
  env := envOfC qual scope s.heap.objs.size f cd
  outer := outer
  stack := envOfC qual scope s.heap.objs.size f cd :: outer
  ex := []
  calm := true
  fn := fun _ => true
  pn := []
  xe := fun e s' => wpAny (model P w) (A.deeper (envOfC qual scope s.heap.objs.size f cd)) (leaving (envOfC qual scope s.heap.objs.size f cd) e) (fun _ s'' => CX outer H s E e s'') (fun e' s'' => CX outer H s E e' s'') s'

theorem cell_has {sc : Scope} {n : Nat} {x : Str} (h : sc.names.lookup x = some .cell) : ∃ c, (cellsFrom n sc.names []).lookup x = some c := by
  have q := PySem.W.cellsFrom_some sc.names n [] (.inl h)
  exact Option.isSome_iff_exists.mp q

theorem inv_start {CX : CXT} {P : Program} {w : World} {K : PySem.W.Frag} {mg : Str → Option Value} {base : Heap} {N ps : List Str} {qual : Str} {scope : Scope} {f : Addr} {cd : Value} {A : Around} {outer : List Env} {s s1 : Shared} {H : Hp} {E : XK} {us : List Value} {vs : List V}
    (S : FnScope N ps scope) (hd : A.handled = none) (e0 : Env0 P w K mg base A outer s H) (hl : vs.length = ps.length) (r : Vals vs us)
    (x : InCallC s s.heap.objs.size (bindL (envOfC qual scope s.heap.objs.size f cd).kindOf (ps.zip us) fun _ => none) (cellsFrom (s.heap.objs.size + 1) scope.names []) (bindC (envOfC qual scope s.heap.objs.size f cd).kindOf (ps.zip us) fun _ => none) s1) :
    Inv (cxOf CX P w K mg base N qual scope f cd A outer s H E) [] (start N vs) H s1 := by
  have hpl : ps.length ≤ N.length := by have := congrArg List.length S.pre; rw [List.length_take] at this; omega
  obtain ⟨h1, tk, rfl, hk⟩ := x.done
  have noA : ∀ b : Addr, b ∉ (cxOf CX P w K mg base N qual scope f cd A outer s H E).ex := fun b z => absurd (show b ∈ ([] : List Addr) from z) (by simp)
  refine ⟨⟨e0.mod, S.kind, rfl, rfl, Nat.le_refl _, fun y z c h1 h2 => ?_, fun y hy => ?_, fun y c _ h => ?_, fun _ => hd, Around.frames_deeper e0.frames, .inr ⟨rfl, rfl⟩, fun b z => absurd z (noA b), e0.bs, e0.bsz, fun b _ _ => noA b, fun b z => absurd z (noA b), e0.funs, e0.frf⟩,
    rfl, e0.bare, Un.kept hk, ⟨_, x.toInCall.ns, fun i y v h1 h2 h3 => ?_⟩, fun y c h => ⟨_, x.cell y c h⟩, e0.hok.fresh (Nat.le_refl _), fun y c h => ?_, fun p hp => absurd (show p ∈ ([] : List (Addr × Obj)) from hp) (by simp), e0.hok.kept hk, ?_⟩
  · exact name_of_addr x.apart (PySem.mem_of_lookup h1) (PySem.mem_of_lookup h2)
  · have hy : scope.names.lookup y = some .cell ∨ scope.names.lookup y = some .free := hy
    rcases hy with hy | hy
    · exact cell_has hy
    · exact absurd rfl (S.nofree _ (PySem.mem_of_lookup hy))
  · exact Nat.le_of_lt (x.above y c (PySem.mem_of_lookup h))
  · have hi : i < vs.length := by
      unfold start at h2
      by_cases hi : i < vs.length
      · exact hi
      · rw [List.getElem?_append_right (by simpa using hi)] at h2
        rw [List.getElem?_replicate] at h2
        split at h2 <;> cases h2
    have ha : vs[i]? = some v := by
      unfold start at h2
      rw [List.getElem?_append_left (by simpa using hi), List.getElem?_map] at h2
      cases e : vs[i]? with
      | none => rw [e] at h2; cases h2
      | some a => rw [e] at h2; cases h2; rfl
    obtain ⟨u, hu, rv⟩ := r.get ha
    have hp : ps[i]? = some y := by
      rw [← S.pre, List.getElem?_take_of_lt (by omega)]; exact h1
    have ndP : ps.Nodup := by rw [← S.pre]; exact S.nd.sublist (List.take_sublist _ _)
    refine ⟨u, rv, ?_⟩
    rcases S.par y (List.mem_of_getElem? hp) with k | k
    · exact .inl ⟨k, bindL_get ndP hp hu k⟩
    · obtain ⟨c, e⟩ := cell_has (n := s.heap.objs.size + 1) k
      refine .inr ⟨.inl k, c, e, ?_⟩
      have q := x.cell y c e
      rw [bindC_get ndP hp hu (by show scope.names.lookup y ≠ _; rw [k]; decide)] at q
      exact q
  · exact e0.hok.fresh (Nat.le_of_lt (x.above y c (PySem.mem_of_lookup h)))
  · unfold start
    show _ = N.length
    rw [List.length_append, List.length_map, List.length_replicate]
    omega

/-- THE RULE: a def (or a method) of the text, by its body. The body's reading t is chosen for each entry; it is run at the parameters' values -/
theorem fn_of {CX : CXT} {P : Program} {w : World} {K : PySem.W.Frag} {mg : Str → Option Value} {base : Heap} {k : Nat} {f : Addr} {name qual : Str} {params : Arguments} {body : List Stmt} {scope : Scope} {dV kV doc pm cdv ct oc : Value} {an od : Option Addr}
    {osl : Array (Option Value)} {N ps : List Str} {sp : Sp} (lk : K.lookup f = some ⟨oc, od, .func (PySem.W.fnOf name qual params body scope dV kV doc pm an cdv ct), osl⟩) (hcd : PySem.W.codeIn K cdv qual = true) (S : FnScope N ps scope)
    (len : ∀ vs H Q E, sp vs H Q E → vs.length = ps.length)
    (hbody : ∀ (A : Around) (outer : List Env) (s : Shared) (H : Hp) (vs : List V) (Q : VK) (E : XK), Room k (A.deeper (envOfC qual scope s.heap.objs.size f cdv)) → sp vs H Q E →
      ∃ t, PSs (cxOf CX P w K mg base N qual scope f cdv A outer s H E) body t ∧ t { nx := fun _ H' => Q .non H', rt := Q } (start N vs) H) :
    FnOk P w K mg base CX (k + 1) f (PySem.W.fnOf name qual params body scope dV kV doc pm an cdv ct) ps sp := by
  refine ⟨len, fun A outer s H args us vs Q E hr e0 hb r hsp => ?_⟩
  have hl := len _ _ _ _ hsp
  have KX : K.In s.heap := e0.mod.kin.keeps fun b o e => (e0.bs b o e).1
  have lim : s.heap.NoLimit := e0.mod.nolimit.keeps fun b o e => (e0.bs b o e).1
  have hkind : ∀ y ∈ ps.zip us, scope.names.lookup y.1 = some .local ∨ (scope.names.lookup y.1 = some .cell ∧ ((cellsFrom (s.heap.objs.size + 1) scope.names []).lookup y.1).isSome = true) := fun ⟨n, v⟩ hy => by
    rcases S.par n (List.of_mem_zip hy).1 with q | q
    · exact .inl q
    · exact .inr ⟨q, PySem.W.cellsFrom_some _ _ _ (.inl q)⟩
  refine codeAny_call_function hr.depth (KX _ _ lk) rfl S.co S.gen rfl (PySem.W.codeRec_of KX hcd) (hb _ _ _ _ ?_)
  refine wpAny_newFunctionEnv_cells S.kind hkind fun env he s1 x => ?_
  subst he
  refine ⟨lim.keeps x.toInCall.keep, codeAny_func ?_⟩
  obtain ⟨t, ht, hq⟩ := hbody A outer s H vs Q E (hr.deeper _) hsp
  have I : Inv (cxOf CX P w K mg base N qual scope f cdv A outer s H E) [] (start N vs) H s1 := inv_start S hr.hd e0 hl r x
  refine wpAny_mono (ht [] s1 (start N vs) H _ I hq) (fun fl s' hs => ?_) fun e s' hs => hs
  have fin : ∀ {σ' : St} {H' : Hp} {v : V} {u : Value}, Inv (cxOf CX P w K mg base N qual scope f cdv A outer s H E) [] σ' H' s' → RelV v u → Q v H' → CE outer P w H s Q u s' :=
    fun {σ' H' v u} J rv q => ⟨v, H', J.os, J.bare, J.base, J.hok, rv, q⟩
  cases fl with
  | ret u =>
    obtain ⟨v, σ', H', J, rv, q⟩ := hs
    exact fin J rv q
  | next =>
    obtain ⟨σ', H', J, q⟩ := hs
    exact fin (v := V.non) (u := Value.none) J rfl q
  | brk =>
    obtain ⟨_, _, _, q⟩ := hs
    exact False.elim q
  | cont =>
    obtain ⟨_, _, _, q⟩ := hs
    exact False.elim q
end L2

namespace L2
open PySem PySem.Spec PyProof.Rows
section
variable {X : Cx} {x : Str} {p pos : Pos} {e : Expr} {es : List Expr} {t : TA} {id T : String} {r : List V → Hp → VK → Prop}

def tCB (r : List V → Hp → VK → Prop) (t : TA) : TE := fun σ H Q => t σ H fun vs H1 => r vs H1 Q
/-- f(e, ..), f a built-in function -/
theorem pe_callB (hc : CallR X (.builtin id) r) (hg : Gl X x) (hm : X.mg x = none) (hv : bootBuiltins x = some (.builtin id)) (ha : PA X (e :: es) t) (hn : x ≠ "__name__" := by decide) (hdb : (x == ("__debug__" : Str)) = false := by decide)
    (he : starEach (e :: es) X.env = (false, eval e X.env) :: starEach es X.env := by rfl) (hpl : (backTo pos (starEach es X.env)).any (·.1) = false := by rfl) : PE X (.Call (.Name x p) (e :: es) [] pos) (tCB r t) := by
  intro pins s σ H Q I h
  refine wpAny_Call_Name_kw (ld_blt I hg hm hv ?_ hn hdb)
  exact PyProof.Rows.callWith_builtin1 (thn (ha pos pins s σ H _ I h) fun us s1 ⟨vs, H1, I1, r1, q1⟩ => hc pins s1 σ H1 vs us Q I1 r1 q1) he hpl
end
end L2

namespace HT
open PySem PyProof.Rows

section
open PySem.SeqAt
open PySem.AutoSeq1 (wpAny_loadPart')
open PySem.MeetsSeq PySem.MeetsSeq2 PySem.MeetsSeq3

end

section
variable {prog : Program} {w : World} {A : Around} {E : Value → Shared → Prop} {s : Shared}

/-- t + u, t not empty -/
theorem cat_tup {t b : Addr} {vs ws : List Value} {Q : Value → Shared → Prop} (ht : IsTup s.heap t vs.toArray) (hb : IsTup s.heap b ws.toArray) (hv : vs ≠ [])
    (h1 : ws = [] → Q (.ref t) s) (h2 : ws ≠ [] → Q (.ref s.heap.objs.size) { s with heap := s.heap.push { cls := .type "tuple", data := .seq (vs ++ ws).toArray } })
    (hsz : vs.length + ws.length ≤ sizeLine) : wpAny (model prog w) A (binaryOp .Add (.ref t) (.ref b)) Q E s := by
  obtain ⟨⟨cls, dd, data, sl⟩, ho, hc, n, hd⟩ := id ht
  obtain ⟨⟨cls2, dd2, data2, sl2⟩, ho2, hc2, n2, hd2⟩ := id hb
  simp only at hc hd hc2 hd2
  subst hc hd hc2 hd2
  have e : vs.toArray ++ ws.toArray = (vs ++ ws).toArray := by simp
  by_cases hw : ws = []
  · exact concat_meets ⟨_, ho, rfl⟩ ⟨_, ho2, rfl⟩ noFill_tuple_add seq_tuple_add PySem.F.slot_tuple_add PySem.F.entry_tuple_add (PySem.F.args_tuple_add_2 _ _)
      (tuple_addW1 t b vs.toArray ws.toArray n n2 dd dd2 sl sl2 (by simpa using hv) (by simp [hw])) ⟨ho, ho2, h1 hw⟩
  · refine concat_meets ⟨_, ho, rfl⟩ ⟨_, ho2, rfl⟩ noFill_tuple_add seq_tuple_add PySem.F.slot_tuple_add PySem.F.entry_tuple_add (PySem.F.args_tuple_add_2 _ _)
      (tuple_addW2 t b vs.toArray ws.toArray n n2 dd dd2 sl sl2 (by simpa using hv) (by simpa using hw) (by rw [List.size_toArray, List.size_toArray]; exact hsz)) ⟨ho, ho2, ?_⟩
    rw [e]
    exact h2 hw

/-! ### t[a:b], not the whole -/
/-- a slice's bound as a place among n (d where it is left out) -/
def sIx (n d : Nat) : Option Int → Nat
  | none => d
  | some v => if v < 0 then (v + (n : Int)).toNat else min v.toNat n
theorem sIx_none (n d : Nat) : sIx n d none = d := rfl
theorem sIx_nat (n d k : Nat) : sIx n d (some (k : Int)) = min k n := by
  show (if (k : Int) < 0 then ((k : Int) + (n : Int)).toNat else min (k : Int).toNat n) = min k n
  rw [if_neg (by omega), Int.toNat_natCast]

end
end HT

namespace L2
open PySem PySem.Spec PyProof.Rows

/-! ### the parts of a slice -/
abbrev TO := St → Hp → (Option Int → Hp → Prop) → Prop
/-- a slice's part (left out, or an int) -/
def PO (X : Cx) (e : Option Expr) (t : TO) : Prop :=
  ∀ (pins : List (Addr × Obj)) (s : Shared) (σ : St) (H : Hp) (Q : Option Int → Hp → Prop), Inv X pins σ H s → t σ H Q →
    wpAny (model X.prog X.w) X.A (evalPart e X.env) (fun u s' => ∃ o H', Inv X pins σ H' s' ∧ IsPart u o ∧ Q o H') X.xe s
def tNoPart : TO := fun _ H Q => Q none H
def tPart (t : TE) : TO := fun σ H Q => t σ H fun x H1 => ∃ i, x = .int i ∧ Q (some i) H1

section
variable {X : Cx} {e : Expr} {te : TE} {lo hi : Option Expr} {tl th : TO} {pos p2 : Pos}

theorem po_none : PO X none tNoPart := by
  intro pins s σ H Q I h
  rw [evalPart_none]
  exact wpAny_pure ⟨none, H, I, .none, h⟩
theorem po_some (h : PE X e te) : PO X (some e) (tPart te) := by
  intro pins s σ H Q I hw
  rw [evalPart_some]
  refine thn (h pins s σ H _ I hw) fun u s1 ⟨x, H1, I1, r1, q1⟩ => ?_
  obtain ⟨i, rfl, q⟩ := q1
  obtain ⟨t, rfl⟩ := r1
  exact ⟨some i, H1, I1, .int i t, q⟩

/-- what a slice of a value is, by values: the slice object stands at sl -/
def SlR (X : Cx) (r : V → Option Int → Option Int → Hp → VK → Prop) : Prop :=
  ∀ (pins : List (Addr × Obj)) (s : Shared) (σ : St) (H : Hp) (x : V) (v vl vu : Value) (lo hi : Option Int) (sl : Addr) (Q : VK), Inv X pins σ H s → RelV x v → s.heap.IsSliceOf sl vl vu .none → IsPart vl lo → IsPart vu hi → r x lo hi H Q →
    ∃ T id, typeLookup (.type T) "__getitem__" = pure (some (.builtin id)) ∧ s.TypeIs v T ∧ wpAny (model X.prog X.w) X.A (getItem v (.ref sl)) (EP X pins σ Q) X.xe s
def tSl (r : V → Option Int → Option Int → Hp → VK → Prop) (te : TE) (tl th : TO) : TE := fun σ H Q => te σ H fun x H1 => tl σ H1 fun l H2 => th σ H2 fun u H3 => r x l u H3 Q
/-- a[lo:hi], any a -/
theorem pe_slice {r : V → Option Int → Option Int → Hp → VK → Prop} (hr : SlR X r) (he : PE X e te) (hl : PO X lo tl) (hu : PO X hi th) : PE X (.Subscript e (.Slice lo hi none p2) pos) (tSl r te tl th) := by
  intro pins s σ H Q I h
  refine Subscript_ (thn (he pins s σ H _ I h) fun v s1 ⟨x, H1, I1, r1, q1⟩ => ?_)
  refine wpAny_Slice (thn (hl pins s1 σ H1 _ I1 q1) fun vl s2 ⟨l, H2, I2, pl, q2⟩ => thn (hu pins s2 σ H2 _ I2 q2) fun vu s3 ⟨u, H3, I3, pu, q3⟩ => ?_)
  rw [evalPart_none]
  refine wpAny_pure ?_
  have I4 : Inv X pins σ H3 { s3 with heap := s3.heap.push { cls := .type "slice", data := .fields #[vl, vu, .none] } } := I3.kept (t' := s3.toks) fun b ob q => Heap.get?_push_of_some _ q
  obtain ⟨T, id, hT, ht, hg⟩ := hr pins { s3 with heap := s3.heap.push { cls := .type "slice", data := .fields #[vl, vu, .none] } } σ H3 x v vl vu l u s3.heap.objs.size Q I4 r1 (Heap.IsSliceOf.new ..) pl pu q3
  show wpAny (model X.prog X.w) X.A (subscriptTail e (.Slice lo hi none p2) v (.ref s3.heap.objs.size)) (EP X pins σ Q) X.xe { s3 with heap := s3.heap.push { cls := .type "slice", data := .fields #[vl, vu, .none] } }
  exact tail_any (ops := [.ref s3.heap.objs.size, v]) ht hT hg (by with_unfolding_all rfl)

/-- the items of xs[lo:hi] -/
def cutV (xs : List V) (lo hi : Option Int) : List V := (xs.drop (HT.sIx xs.length 0 lo)).take (HT.sIx xs.length xs.length hi - HT.sIx xs.length 0 lo)
theorem cutV_length (xs : List V) (lo hi : Option Int) : (cutV xs lo hi).length ≤ xs.length := by
  unfold cutV
  rw [List.length_take, List.length_drop]
  omega

/-! ### t < u, t + u -/
/-- t + u, t not empty: u empty gives t itself -/
def rCatT (K : PySem.W.Frag) : R2 := fun x y H Q => ∃ a b xs ys, x = .ref a ∧ y = .ref b ∧ SqT K H a xs ∧ SqT K H b ys ∧ xs ≠ [] ∧ xs.length + ys.length ≤ sizeLine ∧
  (ys = [] → Q (.ref a) H) ∧ (ys ≠ [] → ∀ p, H p = none → Q (.ref p) (upd H p (.tup (xs ++ ys))))
theorem Vals.nil_iff {xs : List V} {us : List Value} (r : Vals xs us) : us = [] ↔ xs = [] := by
  cases r with
  | nil => simp
  | cons _ _ => simp
theorem op_catT : OpR X (binaryOp .Add) (rCatT X.K) := by
  intro pins s σ H x y v u Q I rx ry h
  obtain ⟨a, b, xs, ys, rfl, rfl, ha, hb, hx, hz, q1, q2⟩ := h
  cases rx
  cases ry
  obtain ⟨its, r1, p1, _⟩ := I.tuple ha
  obtain ⟨its2, r2, p2, _⟩ := I.tuple hb
  refine HT.cat_tup p1 p2 (fun z => hx (r1.nil_iff.mp z)) (fun z => ⟨.ref a, H, I, rfl, q1 (r2.nil_iff.mp z)⟩) (fun z => ?_) (by rw [← r1.length, ← r2.length]; exact hz)
  refine ⟨.ref s.heap.objs.size, _, I.laid (t' := s.toks) (o := .tup (xs ++ ys)) (fun b ob q => Heap.get?_push_of_some _ q) (Nat.le_refl _) ?_, rfl, q2 (fun w => z (r2.nil_iff.mpr w)) _ (I.hok.fresh (Nat.le_refl _))⟩
  exact ⟨by rw [List.length_append]; exact hz, _, r1.append r2, IsTup.new _ _⟩
end
end L2

namespace L2
open PySem PySem.Spec PyProof.Rows

/-! ### places -/
/-- the place that an index of any sign means -/
def ixN (n : Nat) (i : Int) : Option Nat := if 0 ≤ i then (if i < n then some i.toNat else none) else if -(n : Int) ≤ i then some (i + n).toNat else none
def atI {α : Type} (xs : List α) (i : Int) : Option α := (ixN xs.length i).bind fun j => xs[j]?
theorem ixN_seq {n : Nat} {i : Int} {j : Nat} (h : ixN n i = some j) : seqIndex? i n = some j ∧ j < n ∧ -(n : Int) ≤ i ∧ i < n := by
  unfold ixN at h
  by_cases h0 : 0 ≤ i
  · rw [if_pos h0] at h
    by_cases h1 : i < n
    · rw [if_pos h1] at h
      have e : i.toNat = j := Option.some.inj h
      exact ⟨by rw [seqIndex_of h0 h1, e], by omega, by omega, h1⟩
    · rw [if_neg h1] at h; cases h
  · rw [if_neg h0] at h
    by_cases h1 : -(n : Int) ≤ i
    · rw [if_pos h1] at h
      have e : (i + n).toNat = j := Option.some.inj h
      exact ⟨by rw [seqIndex_neg (by omega) h1, e], by omega, h1, by omega⟩
    · rw [if_neg h1] at h; cases h
theorem atI_get {α : Type} {xs : List α} {i : Int} {v : α} (h : atI xs i = some v) : ∃ j, seqIndex? i xs.length = some j ∧ xs[j]? = some v ∧ j < xs.length ∧ -(xs.length : Int) ≤ i ∧ i < xs.length := by
  unfold atI at h
  cases e : ixN xs.length i with
  | none => rw [e] at h; cases h
  | some j =>
    rw [e] at h
    obtain ⟨h1, h2, h3, h4⟩ := ixN_seq e
    exact ⟨j, h1, h, h2, h3, h4⟩
theorem atI_nat {α : Type} {xs : List α} {j : Nat} {v : α} (h : xs[j]? = some v) : atI xs (j : Int) = some v := by
  have hj : j < xs.length := (List.getElem?_eq_some_iff.mp h).1
  have e : ixN xs.length (j : Int) = some j := by
    unfold ixN
    rw [if_pos (by omega), if_pos (by omega)]; simp
  unfold atI; rw [e]; exact h

/-! ### what may be subscripted -/
/-- what stands as an index of a plain subscript -/
def PlainIx (b : Expr) : Prop := ∀ o i, subscripted b false o i = operate [o, i] (getItem o i)
/-- a subscript by values -/
def IxR (X : Cx) (r : R2) : Prop :=
  ∀ (value slice : Expr) (pins : List (Addr × Obj)) (s : Shared) (σ : St) (H : Hp) (x y : V) (v u : Value) (Q : VK), Inv X pins σ H s → RelV x v → RelV y u → r x y H Q →
    subscripted slice false v u = operate [v, u] (getItem v u) → wpAny (model X.prog X.w) X.A (subscriptTail value slice v u) (EP X pins σ Q) X.xe s
/-- a call of a builtin's method by values: the receiver, the arguments -/
def MtR (X : Cx) (id : String) (r : V → List V → Hp → VK → Prop) : Prop :=
  ∀ (pins : List (Addr × Obj)) (s : Shared) (σ : St) (H : Hp) (x : V) (xs : List V) (v : Value) (us : List Value) (Q : VK), Inv X pins σ H s → RelV x v → Vals xs us → r x xs H Q →
    wpAny (model X.prog X.w) X.A (call (.builtin id) (v :: us)) (EP X pins σ Q) X.xe s
section
variable {X : Cx} {a b : Expr} {ta tb : TE} {pos : Pos}
/-- a[b] -/
theorem pe_ix {r : R2} (hr : IxR X r) (ha : PE X a ta) (hb : PE X b tb) (hs : PlainIx b) : PE X (.Subscript a b pos) (tOp r ta tb) := by
  intro pins s σ H Q I h
  exact Subscript_ (binT ha hb I h fun v u s2 x y H2 I2 rx ry q => hr a b pins s2 σ H2 x y v u Q I2 rx ry q (hs _ _))

def rIxL (K : PySem.W.Frag) : R2 := fun x y H Q => ∃ p xs i v, x = .ref p ∧ y = .int i ∧ SqL K H p xs ∧ atI xs i = some v ∧ Q v H
def rIxT (K : PySem.W.Frag) : R2 := fun x y H Q => ∃ p xs i v, x = .ref p ∧ y = .int i ∧ SqT K H p xs ∧ atI xs i = some v ∧ Q v H
def rIxS : R2 := fun x y H Q => ∃ z i c, x = .str z ∧ y = .int i ∧ z.length ≤ sizeLine ∧ atI z.cps.toList i = some c ∧ Q (.str ⟨#[c]⟩) H
theorem ix_list : IxR X (rIxL X.K) := by
  intro value slice pins s σ H x y v u Q I rx ry h hs
  obtain ⟨p, xs, i, z, rfl, rfl, hq, he, q⟩ := h
  cases rx
  obtain ⟨t, rfl⟩ := ry
  obtain ⟨its, r, pl, hz⟩ := I.list hq
  obtain ⟨j, h1, h2, h3, h4, h5⟩ := atI_get he
  obtain ⟨w, ew, rw'⟩ := r.get h2
  have hl := r.length
  have hn := line63
  have fin : EP X pins σ Q w s := ⟨z, H, I, rw', q⟩
  by_cases h0 : 0 ≤ i
  · have hj : i.toNat = j := by
      rw [seqIndex_of h0 h5] at h1
      exact Option.some.inj h1
    exact item_listR pl.isList h0 (by omega) (by rw [hj]; simpa using ew) fin hs
  · have hj : (i + (its.toArray.size : Int)).toNat = j := by
      rw [seqIndex_neg (by omega) h4] at h1
      rw [List.size_toArray, ← hl]
      exact Option.some.inj h1
    exact subscriptTail_builtinR (x := w) pl.isList.typeIs slot_list_getitem.lookup
      (wpAny_getItem_list_neg (Q := fun r s' => r = w ∧ EP X pins σ Q r s') pl.isList (by omega) (by rw [List.size_toArray] <;> omega) (by omega) (by rw [hj]; simpa using ew) ⟨rfl, fin⟩) hs
theorem ix_tup : IxR X (rIxT X.K) := by
  intro value slice pins s σ H x y v u Q I rx ry h hs
  obtain ⟨p, xs, i, z, rfl, rfl, hq, he, q⟩ := h
  cases rx
  obtain ⟨t, rfl⟩ := ry
  obtain ⟨its, r, pl, hz⟩ := I.tuple hq
  obtain ⟨j, h1, h2, h3, h4, h5⟩ := atI_get he
  obtain ⟨w, ew, rw'⟩ := r.get h2
  have hl := r.length
  have hn := line63
  have fin : EP X pins σ Q w s := ⟨z, H, I, rw', q⟩
  exact subscriptTail_builtinR (x := w) pl.typeIs slot_tuple_getitem.lookup
    (getItem_tuple (j := j) (Q := fun r s' => r = w ∧ EP X pins σ Q r s') pl (by omega) (by omega) (by rw [List.size_toArray, ← hl]; exact h1) (by simpa using ew) ⟨rfl, fin⟩) hs
theorem ix_str : IxR X rIxS := by
  intro value slice pins s σ H x y v u Q I rx ry h hs
  obtain ⟨z, i, c, rfl, rfl, hz, he, q⟩ := h
  obtain ⟨t, rfl⟩ := rx
  obtain ⟨t', rfl⟩ := ry
  obtain ⟨j, h1, h2, h3, h4, h5⟩ := atI_get he
  have hl : z.cps.toList.length = z.length := by simp [Str.length]
  rw [hl] at h1 h4 h5
  have hn := line63
  exact tail_any (typeIs_str s z t) slot_str_getitem.lookup (getItem_str (c := c) (by
    have e1 : decide (i < -(2 ^ 63 : Int)) = false := decide_eq_false (by omega)
    have e2 : decide (i ≥ 2 ^ 63) = false := decide_eq_false (by omega)
    rw [e1, e2, Bool.or_false]) (by rw [h1]; simpa using h2) ⟨.str ⟨#[c]⟩, H, I.tok _, ⟨_, rfl⟩, q⟩) hs

/-! ### xs[i] = v, any sign -/

/-! ### slices -/
theorem slice_bounds (lo hi : Option Int) (n : Nat) : (sliceBounds lo hi none n).1 = ((HT.sIx n 0 lo : Nat) : Int) ∧ (sliceBounds lo hi none n).2.1 = ((HT.sIx n n hi : Nat) : Int) ∧ (sliceBounds lo hi none n).2.2 = 1 := by
  refine ⟨?_, ?_, rfl⟩
  · cases lo with
    | none => simp [sliceBounds, HT.sIx]
    | some i =>
      simp only [sliceBounds, HT.sIx, Option.getD_none, show (1 : Int) > 0 by decide, if_true]
      by_cases h : i < 0
      · simp only [h, if_true] <;> omega
      · simp only [h, if_false] <;> omega
  · cases hi with
    | none => simp [sliceBounds, HT.sIx]
    | some i =>
      simp only [sliceBounds, HT.sIx, Option.getD_none, show (1 : Int) > 0 by decide, if_true]
      by_cases h : i < 0
      · simp only [h, if_true] <;> omega
      · simp only [h, if_false] <;> omega
theorem slicePick_cut (its : List Value) (lo hi : Option Int) : slicePick its.toArray lo hi none = ((its.drop (HT.sIx its.length 0 lo)).take (HT.sIx its.length its.length hi - HT.sIx its.length 0 lo)).toArray := by
  obtain ⟨h1, h2, h3⟩ := slice_bounds lo hi its.toArray.size
  unfold slicePick
  rw [h1, h2, h3]
  simp only [sliceRange_one, pick_run, List.size_toArray] <;> rfl
/-- xs[lo:hi] of a list: a new list -/
def rSlL (K : PySem.W.Frag) : V → Option Int → Option Int → Hp → VK → Prop := fun x lo hi H Q => ∃ a xs, x = .ref a ∧ SqL K H a xs ∧ ∀ p, H p = none → Q (.ref p) (upd H p (.lst (cutV xs lo hi)))
theorem sl_list : SlR X (rSlL X.K) := by
  intro pins s σ H x v vl vu lo hi sl Q I rx hs pl pu h
  obtain ⟨a, xs, rfl, hx, q⟩ := h
  cases rx
  obtain ⟨its, r, ht, hz⟩ := I.list hx
  have hlen := r.length
  refine ⟨"list", _, slot_list_getitem.lookup, ht.isList.typeIs, ?_⟩
  refine wpAny_getItem_list_slice ht.isList hs pl pu .none (by simp) ?_ (by rw [List.size_toArray] <;> omega)
  rw [slicePick_cut, ← hlen]
  refine ⟨.ref s.heap.objs.size, _, I.laid (t' := s.toks) (o := .lst (cutV xs lo hi)) (fun b ob q => Heap.get?_push_of_some _ q) (Nat.le_refl _) ?_, rfl, q _ (I.hok.fresh (Nat.le_refl _))⟩
  exact ⟨Nat.le_trans (cutV_length xs lo hi) hz, _, 0, (r.drop (HT.sIx xs.length 0 lo)).take (HT.sIx xs.length xs.length hi - HT.sIx xs.length 0 lo), Heap.get?_push_size _ rfl⟩

/-! ### in, not in: flat items -/
def flatV : V → Bool
  | .non => true
  | .bl _ => true
  | .int _ => true
  | .str _ => true
  | _ => false
/-- == of flat values -/
def eqV : V → V → Bool
  | .non, .non => true
  | .bl a, .bl b => a == b
  | .bl a, .int b => (if a then 1 else 0) == b
  | .int a, .bl b => a == (if b then 1 else 0)
  | .int a, .int b => a == b
  | .str a, .str b => a == b
  | _, _ => false
theorem eqAt_V {A : Around} {s : Shared} {y x : V} {u v : Value} (ry : RelV y u) (rx : RelV x v) (fy : flatV y = true) (fx : flatV x = true) : SeqAt.EqAt A s u v (eqV y x) := by
  cases y with
  | non =>
    cases ry
    cases x with
    | non => cases rx; exact SeqAt.EqAt.same _
    | bl b => cases rx; exact SeqAt.EqAt.none_bool b
    | int b => obtain ⟨t, rfl⟩ := rx; exact SeqAt.EqAt.none_int b t
    | str b => obtain ⟨t, rfl⟩ := rx; exact SeqAt.EqAt.none_str b t
    | _ => exact absurd (show false = true from fx) Bool.false_ne_true
  | bl a =>
    cases ry
    cases x with
    | non => cases rx; exact SeqAt.EqAt.bool_none a
    | bl b => cases rx; exact SeqAt.EqAt.bool_bool a b
    | int b => obtain ⟨t, rfl⟩ := rx; exact SeqAt.EqAt.bool_int a b t
    | str b => obtain ⟨t, rfl⟩ := rx; exact SeqAt.EqAt.bool_str a b t
    | _ => exact absurd (show false = true from fx) Bool.false_ne_true
  | int a =>
    obtain ⟨t', rfl⟩ := ry
    cases x with
    | non => cases rx; exact SeqAt.EqAt.int_none a t'
    | bl b => cases rx; exact SeqAt.EqAt.int_bool a t' b
    | int b => obtain ⟨t, rfl⟩ := rx; exact SeqAt.EqAt.int_int a t' b t
    | str b => obtain ⟨t, rfl⟩ := rx; exact SeqAt.EqAt.int_str a t' b t
    | _ => exact absurd (show false = true from fx) Bool.false_ne_true
  | str a =>
    obtain ⟨t', rfl⟩ := ry
    cases x with
    | non => cases rx; exact SeqAt.EqAt.str_none a t'
    | bl b => cases rx; exact SeqAt.EqAt.str_bool a t' b
    | int b => obtain ⟨t, rfl⟩ := rx; exact SeqAt.EqAt.str_int a t' b t
    | str b => obtain ⟨t, rfl⟩ := rx; exact SeqAt.EqAt.str_str a t' b t
    | _ => exact absurd (show false = true from fx) Bool.false_ne_true
  | _ => exact absurd (show false = true from fy) Bool.false_ne_true
/-- the items' answers, read off the values (a value's own answer does not lean on its token) -/
def eqU (x : V) (u : Value) : Bool := match u with
  | .none => eqV .non x
  | .bool b => eqV (.bl b) x
  | .int i _ => eqV (.int i) x
  | .str z _ => eqV (.str z) x
  | _ => false
theorem eqU_of {x y : V} {u : Value} (r : RelV y u) (f : flatV y = true) : eqU x u = eqV y x := by
  cases y with
  | non => cases r; rfl
  | bl b => cases r; rfl
  | int i => obtain ⟨t, rfl⟩ := r; rfl
  | str z => obtain ⟨t, rfl⟩ := r; rfl
  | _ => exact absurd (show false = true from f) Bool.false_ne_true
theorem any_eqU {x : V} : ∀ {xs : List V} {us : List Value}, Vals xs us → xs.all flatV = true → us.any (eqU x) = xs.any fun y => eqV y x
  | _, _, .nil, _ => rfl
  | y :: xs, u :: us, .cons r t, f => by
    rw [List.all_cons, Bool.and_eq_true] at f
    rw [List.any_cons, List.any_cons, eqU_of r f.1, any_eqU t f.2]
theorem mem_eqAt {A : Around} {s : Shared} {x : V} {v : Value} (rx : RelV x v) (fx : flatV x = true) : ∀ {xs : List V} {us : List Value}, Vals xs us → xs.all flatV = true → ∀ u ∈ us, SeqAt.EqAt A s u v (eqU x u)
  | _, _, .nil, _ => fun u hu => by cases hu
  | y :: xs, u :: us, .cons r t, f => fun u' hu => by
    rw [List.all_cons, Bool.and_eq_true] at f
    rcases List.mem_cons.mp hu with rfl | hu
    · rw [eqU_of r f.1]; exact eqAt_V r rx f.1 fx
    · exact mem_eqAt rx fx t f.2 u' hu
def inV (x : V) (xs : List V) : Bool := xs.any fun y => eqV y x
/-- x in a list or tuple of flat items -/
def rIn (K : PySem.W.Frag) (neg : Bool) : R2 := fun x y H Q => ∃ p xs, y = .ref p ∧ (SqL K H p xs ∨ SqT K H p xs) ∧ flatV x = true ∧ xs.all flatV = true ∧ Q (.bl (if neg then !inV x xs else inV x xs)) H
theorem op_in_seq : OpR X (compareOp .In) (rIn X.K false) := by
  intro pins s σ H x y v u Q I rx ry h
  obtain ⟨p, xs, rfl, hq, fx, fs, q⟩ := h
  cases ry
  rcases hq with hq | hq
  · obtain ⟨its, r, pl, hz⟩ := I.list hq
    refine SeqAt.in_listAt (eqU x) pl.isList (fun w hw => mem_eqAt rx fx r fs w (by simpa using hw)) ⟨.bl _, H, I, rfl, ?_⟩
    rw [show its.toArray.any (eqU x) = its.any (eqU x) by simp, any_eqU r fs]
    exact q
  · obtain ⟨its, r, pl, hz⟩ := I.tuple hq
    refine SeqAt.in_tupleAt (eqU x) pl (fun w hw => mem_eqAt rx fx r fs w (by simpa using hw)) ⟨.bl _, H, I, rfl, ?_⟩
    rw [show its.toArray.any (eqU x) = its.any (eqU x) by simp, any_eqU r fs]
    exact q
theorem op_notIn_seq : OpR X (compareOp .NotIn) (rIn X.K true) := by
  intro pins s σ H x y v u Q I rx ry h
  obtain ⟨p, xs, rfl, hq, fx, fs, q⟩ := h
  cases ry
  rcases hq with hq | hq
  · obtain ⟨its, r, pl, hz⟩ := I.list hq
    refine SeqAt.notIn_listAt (eqU x) pl.isList (fun w hw => mem_eqAt rx fx r fs w (by simpa using hw)) ⟨.bl _, H, I, rfl, ?_⟩
    rw [show its.toArray.any (eqU x) = its.any (eqU x) by simp, any_eqU r fs]
    exact q
  · obtain ⟨its, r, pl, hz⟩ := I.tuple hq
    refine SeqAt.notIn_tupleAt (eqU x) pl (fun w hw => mem_eqAt rx fx r fs w (by simpa using hw)) ⟨.bl _, H, I, rfl, ?_⟩
    rw [show its.toArray.any (eqU x) = its.any (eqU x) by simp, any_eqU r fs]
    exact q

/-! ### len, list(x), tuple(x) of any list or tuple that is read -/
theorem call_len_seq : CallR X (.builtin "len") (fun xs H Q => ∃ p ys, xs = [.ref p] ∧ (SqL X.K H p ys ∨ SqT X.K H p ys) ∧ Q (.int ys.length) H) := by
  intro pins s σ H xs us Q I r h
  obtain ⟨p, ys, rfl, hq, q⟩ := h
  obtain ⟨u, rfl, rx⟩ := vals1 r
  cases rx
  have hn := line63
  rcases hq with hq | hq
  · obtain ⟨its, r', pl, hz⟩ := I.list hq
    have hlen := r'.length
    exact Calls.call_len_list pl.isList (by simp only [List.size_toArray] <;> omega) ⟨.int ys.length, H, I.tok _, ⟨s.toks + 1, by rw [List.size_toArray, hlen]⟩, q⟩
  · obtain ⟨its, r', pl, hz⟩ := I.tuple hq
    have hlen := r'.length
    exact len_tuple pl (by simp only [List.size_toArray] <;> omega) ⟨.int ys.length, H, I.tok _, ⟨s.toks + 1, by rw [List.size_toArray, hlen]⟩, q⟩

/-! ### the call of a builtin's method: o.m(..) -/
/-- the value is of that builtin type -/
def tyV (K : PySem.W.Frag) (T : String) (x : V) (H : Hp) : Prop := match x with
  | .str _ => T = "str"
  | .int _ => T = "int"
  | .ref p => (T = "list" ∧ ∃ xs, SqL K H p xs) ∨ (T = "tuple" ∧ ∃ o, K.lookup p = some o ∧ o.cls = .type "tuple" ∧ o.dict = none) ∨
      (T = "dict" ∧ ((∃ kvs, H p = some (.dK kvs)) ∨ ∃ kvs, H p = some (.dT kvs))) ∨ (T = "set" ∧ ∃ S n, H p = some (.set S n))
  | _ => False
theorem tyV_is {pins : List (Addr × Obj)} {σ : St} {H : Hp} {s : Shared} {T : String} {x : V} {v : Value} (I : Inv X pins σ H s) (r : RelV x v) (ty : tyV X.K T x H) :
    s.TypeIs v T ∧ ∀ a, v = .ref a → ∃ ob, s.heap.get? a = some ob ∧ ob.dict = none := by
  cases x with
  | str z =>
    obtain ⟨t, rfl⟩ := r
    cases (show T = "str" from ty)
    exact ⟨typeIs_str s z t, fun _ e => nomatch e⟩
  | int i =>
    obtain ⟨t, rfl⟩ := r
    cases (show T = "int" from ty)
    exact ⟨typeIs_int s i t, fun _ e => nomatch e⟩
  | ref p =>
    cases r
    rcases ty with ⟨rfl, xs, hq⟩ | ⟨rfl, o, hk, hc, hd⟩ | ⟨rfl, hk⟩ | ⟨rfl, S, n, hk⟩
    · obtain ⟨its, _, pl, _⟩ := I.list hq
      refine ⟨pl.isList.typeIs, fun a e => ?_⟩
      cases e
      obtain ⟨o, n, e, c, hd, _⟩ := pl
      exact ⟨o, e, hd⟩
    · refine ⟨⟨o, I.kIn p o hk, hc⟩, fun a e => ?_⟩
      cases e
      exact ⟨o, I.kIn _ o hk, hd⟩
    · have z : ∃ o, s.heap.get? p = some o ∧ o.ExactDict := by
        rcases hk with ⟨kvs, hk⟩ | ⟨kvs, hk⟩
        · obtain ⟨_, _, _, _, o, _, _, e, ex, _⟩ := I.hok p _ hk
          exact ⟨o, e, ex⟩
        · obtain ⟨_, _, _, _, o, _, _, e, ex, _⟩ := I.hok p _ hk
          exact ⟨o, e, ex⟩
      obtain ⟨o, e, ex⟩ := z
      refine ⟨⟨o, e, ex.1⟩, fun a e2 => ?_⟩
      cases e2
      exact ⟨o, e, ex.2.1⟩
    · obtain ⟨o, _, _, _, e, ex, _⟩ := I.hok p _ hk
      refine ⟨⟨o, e, ex.1⟩, fun a e2 => ?_⟩
      cases e2
      exact ⟨o, e, ex.2.1⟩
  | _ => exact False.elim ty
def tBM (K : PySem.W.Frag) (T : String) (r : V → List V → Hp → VK → Prop) (to : TE) (t : TA) : TE := fun σ H Q => to σ H fun x H1 => tyV K T x H1 ∧ t σ H1 fun xs H2 => r x xs H2 Q
variable {o e : Expr} {es : List Expr} {to : TE} {t : TA} {name : Str} {apos cpos : Pos} {T id : String} {r : V → List V → Hp → VK → Prop}
theorem pe_bm (pa : PlainAttrs T) (slot : Slot T name id) (hty : typeOf (.builtin id) = pure (.type "method_descriptor")) (hm : MtR X id r) (ho : PE X o to) (ha : PA X (e :: es) t)
    (hbase : attributeBase o name X.env (eval o X.env) = eval o X.env := by rfl)
    (hfew : ((backTo cpos (starEach (e :: es) X.env)).all (fun x => !x.1) && (backToKw cpos (keywordEach [] X.env)).all (fun x => x.1.isSome)
      && decide ((e :: es).length + ([] : List Keyword).length + (if ([] : List Keyword).isEmpty then 0 else 1) < 30)) = true := by rfl)
    (hline : (apos.endLine == cpos.line) = true := by rfl) (hs : starEach (e :: es) X.env = (false, eval e X.env) :: starEach es X.env := by rfl) (hplain : (backTo cpos (starEach es X.env)).any (·.1) = false := by rfl) :
    PE X (.Call (.Attribute o name apos) (e :: es) [] cpos) (tBM X.K T r to t) := by
  intro pins s σ H Q I h
  refine wpAny_Call_method_late hbase hfew hline rfl (thn (ho pins s σ H _ I h) fun v s1 ⟨x, H1, I1, r1, ty, q1⟩ => ?_)
  obtain ⟨h1, h2⟩ := tyV_is I1 r1 ty
  refine ⟨T, id, pa, slot, hty, h1, h2, ?_⟩
  have hA := ha cpos pins s1 σ H1 _ I1 q1
  rw [hs] at hA ⊢
  refine Calls.callWith_builtin (by show (false || (backTo cpos (starEach es X.env)).any (·.1)) = false; rw [hplain] <;> rfl) (Calls.evalArgs_plain ?_)
  exact thn hA fun us s2 ⟨vs, H2, I2, r2, q2⟩ => hm pins s2 σ H2 x vs v us Q I2 r1 r2 q2
/- xs.append(e), list.index on a module's tuple .. are MtR facts of 06m -/
end
end L2

namespace L2
open PySem PySem.Spec PyProof.Rows

def MtM (X : Cx) (id : String) (r : V → List V → Hp → VK → Prop) : Prop :=
  ∀ (pins : List (Addr × Obj)) (s : Shared) (σ : St) (H : Hp) (x : V) (xs : List V) (v : Value) (us : List Value) (Q : VK), Inv X pins σ H s → RelV x v → Vals xs us → r x xs H Q →
    wpAny (model X.prog X.w) X.A (call (.builtin id) (v :: us)) (EP X pins σ Q) X.xe s

/-! ### lists of values -/
theorem Vals.one : ∀ {x : V} {us : List Value}, Vals [x] us → ∃ u, us = [u] ∧ RelV x u
  | _, _, .cons r .nil => ⟨_, rfl, r⟩
theorem Vals.two : ∀ {x y : V} {us : List Value}, Vals [x, y] us → ∃ u v, us = [u, v] ∧ RelV x u ∧ RelV y v
  | _, _, _, .cons r (.cons q .nil) => ⟨_, _, rfl, r, q⟩
theorem Vals.rep {xs : List V} {us : List Value} (h : Vals xs us) : ∀ k : Nat, Vals (List.replicate k xs).flatten (List.replicate k us).flatten
  | 0 => .nil
  | k + 1 => by
    rw [List.replicate_succ, List.replicate_succ, List.flatten_cons, List.flatten_cons]
    exact Vals.append h (Vals.rep h k)
theorem foldl_rep (its : List Value) : ∀ (k : Nat) (acc : List Value),
    List.foldl (fun x1 x2 => x1 ++ x2) acc.toArray (List.replicate k its.toArray) = (acc ++ (List.replicate k its).flatten).toArray
  | 0, acc => by simp
  | k + 1, acc => by
    have e : acc.toArray ++ its.toArray = (acc ++ its).toArray := by simp
    have e2 : (acc ++ its) ++ (List.replicate k its).flatten = acc ++ (List.replicate (k + 1) its).flatten := by
      rw [List.replicate_succ, List.flatten_cons, List.append_assoc]
    rw [← e2, ← foldl_rep its k (acc ++ its), ← e, List.replicate_succ, List.foldl_cons]

section
variable {X : Cx} {pins : List (Addr × Obj)} {σ : St} {H : Hp} {s : Shared} {l b : Addr} {xs ys zs : List V}

/-! ### the two steps: a tracked list is rewritten, a new list is laid -/
theorem Inv.lset {its its' : List Value} {n : Nat} {f : Array Value → Array Value} {t' : Nat} (I : Inv X pins σ H s) (hH : H l = some (.lst xs))
    (e : s.heap.get? l = some { cls := .type "list", data := .seq its.toArray n }) (hf : f its.toArray = its'.toArray) (hv : Vals ys its') (hz : ys.length ≤ sizeLine) :
    Inv X pins σ (upd H l (.lst ys)) { s with heap := s.heap.update l (Obj.mapSeq f), toks := t' } := by
  have q := PySem.IsL.update e f
  rw [hf] at q
  refine I.write (x := l) (e := l) (by rw [hH]; exact trivial) (.inl rfl) (fun b' u hb hu => (Heap.get?_update_other s.heap (Obj.mapSeq f) (Ne.symm hb)).trans hu) ⟨_, q⟩ ?_
  exact ⟨hz, its', _, hv, q⟩
theorem Inv.lnew {its : List Value} {t' : Nat} (I : Inv X pins σ H s) (hv : Vals ys its) (hz : ys.length ≤ sizeLine) :
    Inv X pins σ (upd H s.heap.objs.size (.lst ys)) { s with heap := s.heap.push { cls := .type "list", data := .seq its.toArray }, toks := t' } :=
  I.laid (fun _ _ q => Heap.get?_push_of_some _ q) (Nat.le_refl _) ⟨hz, its, 0, hv, Heap.get?_push_size _ rfl⟩
theorem Inv.fresh (I : Inv X pins σ H s) : H s.heap.objs.size = none := I.hok.fresh (Nat.le_refl _)
theorem Inv.lstM (I : Inv X pins σ H s) (hH : H l = some (.lst xs)) : xs.length ≤ sizeLine ∧ ∃ (its : List Value) (n : Nat), Vals xs its ∧ xs.length = its.length ∧ s.heap.get? l = some { cls := .type "list", data := .seq its.toArray n } := by
  obtain ⟨z, its, n, r, e⟩ := I.hok l _ hH
  exact ⟨z, its, n, r, r.length, e⟩

theorem notLongL {n : Nat} (h : n ≤ sizeLine) : Builtin.List.listTooLong n = false := by
  unfold Builtin.List.listTooLong
  exact decide_eq_false (by omega)
end

section
variable {X : Cx}

/-! ### methods -/
def rAppend : V → List V → Hp → VK → Prop := fun x vs H Q => ∃ l xs y, x = .ref l ∧ vs = [y] ∧ H l = some (.lst xs) ∧ xs.length < sizeLine ∧ Q .non (upd H l (.lst (xs ++ [y])))
theorem mt_append : MtM X "list.append" rAppend := by
  intro pins s σ H x vs v us Q I rx rv h
  obtain ⟨l, xs, y, rfl, rfl, hH, hz, q⟩ := h
  cases rx
  obtain ⟨u, rfl, ru⟩ := rv.one
  obtain ⟨z, its, n, r, hl, e⟩ := I.lstM hH
  refine call_meets F.slot_list_append ⟨_, e, rfl⟩ F.entry_list_append (F.args_list_append_2 _ _) (PySem.list_append l its.toArray n u (by rw [List.size_toArray]; omega)) ⟨e, ?_⟩
  refine ⟨.non, _, I.lset (its' := its ++ [u]) hH e (by simp) (r.append (.cons ru .nil)) ?_, rfl, q⟩
  rw [List.length_append, List.length_singleton]
  omega

def rExtend : V → List V → Hp → VK → Prop := fun x vs H Q => ∃ l b xs zs, x = .ref l ∧ vs = [.ref b] ∧ H l = some (.lst xs) ∧ H b = some (.lst zs) ∧ xs.length + zs.length ≤ sizeLine ∧ Q .non (upd H l (.lst (xs ++ zs)))
theorem mt_extend : MtM X "list.extend" rExtend := by
  intro pins s σ H x vs v us Q I rx rv h
  obtain ⟨l, b, xs, zs, rfl, rfl, hH, hB, hz, q⟩ := h
  cases rx
  obtain ⟨u, rfl, ru⟩ := rv.one
  cases ru
  obtain ⟨z, its, n, r, hl, e⟩ := I.lstM hH
  obtain ⟨z2, its2, n2, r2, hl2, e2⟩ := I.lstM hB
  have hsz : its.toArray.size + its2.toArray.size ≤ sizeLine := by rw [List.size_toArray, List.size_toArray]; omega
  have hlong : ¬ (!its.toArray.isEmpty && Builtin.List.listTooLong (its.toArray.size + its2.toArray.size)) = true := by
    rw [notLongL hsz, Bool.and_false]
    exact Bool.false_ne_true
  refine call_meets F.slot_list_extend ⟨_, e, rfl⟩ F.entry_list_extend (F.args_list_extend_2 _ _)
    (AutoSeq1.list_extend_list_list_0 l its.toArray n b its2.toArray n2 hlong (by rw [List.size_toArray]; omega) (by omega)) ⟨e, e2, ?_⟩
  refine ⟨.non, _, I.lset (its' := its ++ its2) hH e (by simp) (r.append r2) ?_, rfl, q⟩
  rw [List.length_append]
  omega

/-! ### list + list, list += list, list * int -/
def rCat : R2 := fun x y H Q => ∃ l b xs zs, x = .ref l ∧ y = .ref b ∧ H l = some (.lst xs) ∧ H b = some (.lst zs) ∧ xs.length + zs.length ≤ sizeLine ∧ ∀ p, H p = none → Q (.ref p) (upd H p (.lst (xs ++ zs)))
theorem op_cat : OpR X (binaryOp .Add) rCat := by
  intro pins s σ H x y v u Q I rx ry h
  obtain ⟨l, b, xs, zs, rfl, rfl, hH, hB, hz, q⟩ := h
  cases rx
  cases ry
  obtain ⟨z, its, n, r, hl, e⟩ := I.lstM hH
  obtain ⟨z2, its2, n2, r2, hl2, e2⟩ := I.lstM hB
  refine PySem.P.add_list e e2 ?_ (by rw [List.size_toArray, List.size_toArray]; omega)
  have ea : its.toArray ++ its2.toArray = (its ++ its2).toArray := by simp
  rw [ea]
  exact ⟨.ref _, _, I.lnew (t' := s.toks) (r.append r2) (by rw [List.length_append]; omega), rfl, q _ I.fresh⟩
/-- a list times an int (a negative one is nothing) -/
def rRep : R2 := fun x y H Q => ∃ l k xs, x = .ref l ∧ y = .int k ∧ H l = some (.lst xs) ∧ -(2 ^ 63) ≤ k ∧ k < 2 ^ 63 ∧ xs.length * k.toNat ≤ sizeLine ∧
  ∀ p, H p = none → Q (.ref p) (upd H p (.lst (List.replicate k.toNat xs).flatten))
theorem len_rep {α : Type} (xs : List α) (k : Nat) : (List.replicate k xs).flatten.length = k * xs.length := by
  induction k with
  | zero => simp
  | succ k ih => rw [List.replicate_succ, List.flatten_cons, List.length_append, ih, Nat.succ_mul, Nat.add_comm]
theorem op_rep : OpR X (binaryOp .Mult) rRep := by
  intro pins s σ H x y v u Q I rx ry h
  obtain ⟨l, k, xs, rfl, rfl, hH, h1, h2, hz, q⟩ := h
  cases rx
  obtain ⟨t, rfl⟩ := ry
  obtain ⟨z, its, n, r, hl, e⟩ := I.lstM hH
  have hlen : its.toArray.size * k.toNat ≤ sizeLine := by rw [List.size_toArray, ← hl]; exact hz
  have hcap : ¬ its.toArray.size * k.toNat > (2 ^ 63 - 1) / 8 := by
    have : (sizeLine : Nat) ≤ (2 ^ 63 - 1) / 8 := by decide
    omega
  have hfit : ¬ (!Builtin.List.listFitsIndex k) = true := by
    rw [fitsIndex_both h1 h2]
    exact Bool.false_ne_true
  have hlong : ¬ Builtin.List.listTooLong (its.toArray.size * k.toNat) = true := by
    rw [notLongL hlen]
    exact Bool.false_ne_true
  have hnew : List.foldl (fun x1 x2 => x1 ++ x2) #[] (List.replicate (if its.toArray.isEmpty = true then 0 else k.toNat) its.toArray) = (List.replicate k.toNat its).flatten.toArray := by
    have f0 : ∀ m : Nat, List.foldl (fun x1 x2 => x1 ++ x2) #[] (List.replicate m its.toArray) = (List.replicate m its).flatten.toArray := fun m => by
      have := foldl_rep its m []
      rw [List.nil_append] at this
      exact this
    rw [f0]
    cases its with
    | nil => simp
    | cons a r' => rw [if_neg (by simp)]
  refine wpAny_binaryOp_repeat_ref (T := "list") (U := "int") (by decide) ⟨_, e, rfl⟩ (fun s' => typeIs_int s' k t) noFill_list_mul F.fills_int_mul F.slot_int_rmul repeat_list F.slot_int_index.lookup
    (call_meets F.slot_int_rmul (typeIs_int s k t) F.entry_int_rmul (F.args_int_rmul_2 _ _) (int___rmul___int_list k t l its.toArray n)
      ⟨e, rfl, ⟨_, e, rfl⟩, call_meets F.slot_list_mul ⟨_, e, rfl⟩ F.entry_list_mul (F.args_list_mul_2 _ _) (AutoListH.list___mul___list_int_3 l its.toArray n k t hfit hcap hlong) ⟨e, ?_⟩⟩)
  rw [hnew]
  exact ⟨.ref _, _, I.lnew (t' := s.toks) (r.rep k.toNat) (by rw [len_rep, Nat.mul_comm]; exact hz), rfl, q _ I.fresh⟩

/-! ### del xs[i] -/
end

/-! ### xs[a:b] = ys -/
section
variable {prog : Program} {w : World} {A : Around} {E : Value → Shared → Prop} {s : Shared}
end

section
variable {X : Cx}
end
end L2

namespace L2
open PySem PySem.Spec PyProof.Rows

theorem Vals.ints : ∀ {ns : List Int} {us : List Value}, Vals (ns.map V.int) us → IntsAre us ns
  | [], us, h => by
    rw [List.map_nil] at h
    cases h
    exact IntsAre.nil
  | n :: ns, us, h => by
    rw [List.map_cons] at h
    cases h with
    | cons r t =>
      obtain ⟨k, rfl⟩ := r
      exact IntsAre.cons n k (Vals.ints t)

/-! ### the library's walks over a list of ints, kept objects alone -/
section
variable {prog : Program} {w : World} {A : Around} {E : Value → Shared → Prop} {s : Shared} {l : Addr} {its : List Value} {ns : List Int} {Q : Value → Shared → Prop}
end

/-! ### the calls, by values (CallR of 03t; MtR of 06l) -/
section
variable {X : Cx}

/-! sorted, sort (fewer than 64 items: the library's own bound) -/
end

/-! ### list.index, flat items -/
section
variable {X : Cx}
theorem flat_at {ys : List V} (f : ys.all flatV = true) {j : Nat} {z : V} (h : ys[j]? = some z) : flatV z = true := List.all_eq_true.mp f z (List.mem_of_getElem? h)
end

/-! ### type(x) of an own instance; is, is not of a module's class -/
section
variable {X : Cx}
end

/-! ### any(xs), all(xs) of a list of bools -/
section
variable {X : Cx}
end

/-! ### == and != of data at any depth: none, bools, ints, texts, lists, tuples -/
mutual
inductive Dp (K : PySem.W.Frag) (H : Hp) : V → PyData → Prop
  | non : Dp K H .non .none
  | bl (b : Bool) : Dp K H (.bl b) (.bool b)
  | int (i : Int) : Dp K H (.int i) (.int i)
  | str (x : Str) : Dp K H (.str x) (.str x)
  | lst {a : Addr} {xs : List V} {ds : List PyData} : SqL K H a xs → DpAll K H xs ds → Dp K H (.ref a) (.list ds)
  | tup {a : Addr} {xs : List V} {ds : List PyData} : SqT K H a xs → DpAll K H xs ds → Dp K H (.ref a) (.tuple ds)
inductive DpAll (K : PySem.W.Frag) (H : Hp) : List V → List PyData → Prop
  | nil : DpAll K H [] []
  | cons {v : V} {vs : List V} {d : PyData} {ds : List PyData} : Dp K H v d → DpAll K H vs ds → DpAll K H (v :: vs) (d :: ds)
end
section
variable {X : Cx} {pins : List (Addr × Obj)} {σ : St} {H : Hp} {s : Shared}
mutual
theorem Dp.reads (I : Inv X pins σ H s) : ∀ (d : PyData) (v : V) (u : Value), Dp X.K H v d → RelV v u → ∃ as, Reads s.heap u d as
  | .none, _, _, h, r => by
    cases h
    cases r
    exact ⟨_, Reads.none⟩
  | .bool b, _, _, h, r => by
    cases h
    cases r
    exact ⟨_, Reads.bool b⟩
  | .int i, _, _, h, r => by
    cases h
    obtain ⟨t, rfl⟩ := r
    exact ⟨_, Reads.int i t⟩
  | .str x, _, _, h, r => by
    cases h
    obtain ⟨t, rfl⟩ := r
    exact ⟨_, Reads.str x t⟩
  | .list ds, _, _, h, r => by
    cases h with
    | lst hs ha =>
      cases r
      obtain ⟨its, rv, ⟨o, n, ho, hc, _, hd⟩, _⟩ := I.list hs
      obtain ⟨as, hr⟩ := Dp.readsAll I ds _ its ha rv
      exact ⟨_, Reads.list ho hc hd hr⟩
  | .tuple ds, _, _, h, r => by
    cases h with
    | tup hs ha =>
      cases r
      obtain ⟨its, rv, ⟨o, ho, hc, n, hd⟩, _⟩ := I.tuple hs
      obtain ⟨as, hr⟩ := Dp.readsAll I ds _ its ha rv
      exact ⟨_, Reads.tuple ho hc hd hr⟩
  | .dict _, _, _, h, _ => by cases h
theorem Dp.readsAll (I : Inv X pins σ H s) : ∀ (ds : List PyData) (vs : List V) (us : List Value), DpAll X.K H vs ds → Vals vs us → ∃ as, ReadsAll s.heap us ds as
  | [], _, _, h, r => by
    cases h
    cases r
    exact ⟨_, ReadsAll.nil⟩
  | d :: ds, _, _, h, r => by
    cases h with
    | cons h1 h2 =>
      cases r with
      | cons r1 r2 =>
        obtain ⟨as, q1⟩ := Dp.reads I d _ _ h1 r1
        obtain ⟨bs, q2⟩ := Dp.readsAll I ds _ _ h2 r2
        exact ⟨_, ReadsAll.cons q1 q2⟩
end
end
section
variable {X : Cx}
def rEqD (K : PySem.W.Frag) : R2 := fun x y H Q => ∃ d e, Dp K H x d ∧ Dp K H y e ∧ SeqAt.shaped d = true ∧ SeqAt.shaped e = true ∧ Q (.bl (PyData.eqv d e)) H
theorem op_eqD (hu : X.A.units + 64 < cLine) : OpR X (compareOp .Eq) (rEqD X.K) := by
  intro pins s σ H x y v u Q I rx ry h
  obtain ⟨d, e, hd, he, sd, se, q⟩ := h
  obtain ⟨as, r1⟩ := Dp.reads I d x v hd rx
  obtain ⟨bs, r2⟩ := Dp.reads I e y u he ry
  exact SeqAt.compareEq_shaped r1 r2 sd se hu ⟨.bl _, H, I, rfl, q⟩
end
end L2

namespace L2
open PySem PySem.Spec PyProof.Rows
abbrev CellAt (h : Heap) (c : Addr) (v : Option Value) : Prop := h.IsCell c v
def relS (scope sc : Scope) : Scope :=
  { scope with names := scope.names.map fun (n, k) => if (k == .free && sc.kind == .function && sc.names.lookup n == some .cell) then (n, .cell) else (n, k) }

def cloFrom (cells : List (Str × Addr)) : List (Str × NameKind) → List (Str × Addr) → List (Str × Addr)
  | [], acc => acc
  | (n, k) :: r, acc => if k == .free then cloFrom cells r ((n, (cells.lookup n).getD 0) :: acc) else cloFrom cells r acc

theorem closure_loop (env : Env) (f : Str × NameKind → List (Str × Addr) → Sem (ForInStep (List (Str × Addr))))
    (hf : ∀ n k c, f (n, k) c = if k == .free then (do let a ← cellOf env n; pure (.yield ((n, a) :: c))) else pure (.yield c)) :
    ∀ (names : List (Str × NameKind)) (acc : List (Str × Addr)), (∀ y ∈ names, y.2 = .free → ∃ c, env.cells.lookup y.1 = some c) → forIn names acc f = pure (cloFrom env.cells names acc)
  | [], acc, _ => by rw [List.forIn_nil]; rfl
  | (n, k) :: r, acc, h => by
    rw [List.forIn_cons, hf]
    have ih := fun acc => closure_loop env f hf r acc fun y hy => h y (List.mem_cons_of_mem _ hy)
    unfold cloFrom
    by_cases hk : (k == NameKind.free) = true
    · rw [if_pos hk, if_pos hk]
      obtain ⟨c, hc⟩ := h (n, k) List.mem_cons_self (by simpa using hk)
      have e : cellOf env n = pure c := by unfold cellOf; rw [hc]
      rw [e]
      have e2 : (env.cells.lookup n).getD 0 = c := by rw [hc]; rfl
      rw [e2]
      exact ih _
    · rw [if_neg hk, if_neg hk]
      exact ih _
theorem closure_ok {scope : Scope} {env : Env} (h : ∀ y ∈ scope.names, y.2 = .free → ∃ c, env.cells.lookup y.1 = some c) : closureFor scope env = pure (cloFrom env.cells scope.names []) := by
  simp only [closureFor]
  rw [closure_loop env _ (fun n k c => rfl) scope.names [] h]
  rfl

theorem mem_lookup {α : Type} : ∀ {l : List (Str × α)} {n : Str} {c : α}, (n, c) ∈ l → ∃ c', l.lookup n = some c'
  | (k, v) :: r, n, c, h => by
    rw [List.lookup_cons]
    cases hb : n == k with
    | true => exact ⟨_, rfl⟩
    | false =>
      rcases List.mem_cons.mp h with e | h
      · cases e; simp at hb
      · exact mem_lookup h

theorem cloFrom_mem {cells : List (Str × Addr)} : ∀ {names : List (Str × NameKind)} {acc : List (Str × Addr)} {n : Str} {c : Addr}, (n, c) ∈ cloFrom cells names acc → (n, c) ∈ acc ∨ ((n, .free) ∈ names ∧ c = (cells.lookup n).getD 0)
  | [], _, _, _, h => .inl h
  | (m, k) :: r, acc, n, c, h => by
    unfold cloFrom at h
    split at h
    · rename_i hk
      have hk : k = .free := by simpa using hk
      rcases cloFrom_mem h with h | ⟨h1, h2⟩
      · rcases List.mem_cons.mp h with e | h
        · cases e; exact .inr ⟨hk ▸ List.mem_cons_self, rfl⟩
        · exact .inl h
      · exact .inr ⟨List.mem_cons_of_mem _ h1, h2⟩
    · rcases cloFrom_mem h with h | ⟨h1, h2⟩
      · exact .inl h
      · exact .inr ⟨List.mem_cons_of_mem _ h1, h2⟩
theorem cloFrom_acc {cells : List (Str × Addr)} : ∀ {names : List (Str × NameKind)} {acc : List (Str × Addr)} {p : Str × Addr}, p ∈ acc → p ∈ cloFrom cells names acc
  | [], _, _, h => h
  | (m, k) :: r, acc, p, h => by
    unfold cloFrom
    split
    · exact cloFrom_acc (List.mem_cons_of_mem _ h)
    · exact cloFrom_acc h
theorem cloFrom_has {cells : List (Str × Addr)} : ∀ {names : List (Str × NameKind)} {acc : List (Str × Addr)} {n : Str}, (n, .free) ∈ names → (n, (cells.lookup n).getD 0) ∈ cloFrom cells names acc
  | (m, k) :: r, acc, n, h => by
    unfold cloFrom
    rcases List.mem_cons.mp h with e | h
    · cases e
      exact cloFrom_acc List.mem_cons_self
    · split
      · exact cloFrom_has h
      · exact cloFrom_has h

theorem cells_mem : ∀ {names : List (Str × NameKind)} {h : Heap} {acc : List (Str × Addr)} {x : Str} {c : Addr}, (x, c) ∈ cellsFrom h.objs.size names acc →
    (x, c) ∈ acc ∨ ((x, .cell) ∈ names ∧ h.objs.size ≤ c ∧ CellAt (pushCells h names) c none)
  | [], _, _, _, _, h => .inl h
  | (n, k) :: r, h, acc, x, c, hm => by
    unfold cellsFrom at hm
    unfold pushCells
    split at hm
    · rename_i hk
      rw [if_pos hk]
      have hk : k = .cell := by simpa using hk
      rw [← Heap.size_push h { cls := .type "cell", data := .cell none }] at hm
      rcases cells_mem hm with hm | ⟨h1, h2, h3⟩
      · rcases List.mem_cons.mp hm with e | hm
        · cases e
          exact .inr ⟨hk ▸ List.mem_cons_self, Nat.le_refl _, _, pushCells_keeps r _ _ _ (Heap.get?_push_size _ rfl), rfl⟩
        · exact .inl hm
      · rw [Heap.size_push] at h2
        exact .inr ⟨List.mem_cons_of_mem _ h1, Nat.le_of_succ_le h2, h3⟩
    · rename_i hk
      rw [if_neg hk]
      rcases cells_mem hm with hm | ⟨h1, h2, h3⟩
      · exact .inl hm
      · exact .inr ⟨List.mem_cons_of_mem _ h1, h2, h3⟩
theorem cells_acc : ∀ {names : List (Str × NameKind)} {n : Nat} {acc : List (Str × Addr)} {p : Str × Addr}, p ∈ acc → p ∈ cellsFrom n names acc
  | [], _, _, _, h => h
  | (m, k) :: r, n, acc, p, h => by
    unfold cellsFrom
    split
    · exact cells_acc (List.mem_cons_of_mem _ h)
    · exact cells_acc h
theorem cells_has : ∀ {names : List (Str × NameKind)} {n : Nat} {acc : List (Str × Addr)} {x : Str}, (x, .cell) ∈ names → ∃ c, (x, c) ∈ cellsFrom n names acc
  | (m, k) :: r, n, acc, x, h => by
    unfold cellsFrom
    rcases List.mem_cons.mp h with e | h
    · cases e
      exact ⟨n, cells_acc List.mem_cons_self⟩
    · split
      · exact cells_has h
      · exact cells_has h
theorem cells_inj : ∀ {names : List (Str × NameKind)} {h : Heap} {acc : List (Str × Addr)} {x y : Str} {c : Addr}, (∀ p ∈ acc, p.2 < h.objs.size) → (∀ x y c, (x, c) ∈ acc → (y, c) ∈ acc → x = y) →
    (x, c) ∈ cellsFrom h.objs.size names acc → (y, c) ∈ cellsFrom h.objs.size names acc → x = y
  | [], _, _, _, _, _, _, hi, h1, h2 => hi _ _ _ h1 h2
  | (n, k) :: r, h, acc, x, y, c, hl, hi, h1, h2 => by
    unfold cellsFrom at h1 h2
    split at h1
    · rename_i hk
      rw [if_pos hk] at h2
      rw [← Heap.size_push h { cls := .type "cell", data := .cell none }] at h1 h2
      refine cells_inj (h := h.push _) (fun p hp => ?_) (fun x y c a b => ?_) h1 h2
      · rw [Heap.size_push]
        rcases List.mem_cons.mp hp with rfl | hp
        · exact Nat.lt_succ_self _
        · exact Nat.lt_succ_of_lt (hl p hp)
      · rcases List.mem_cons.mp a with e | a <;> rcases List.mem_cons.mp b with e' | b
        · cases e; cases e'; rfl
        · cases e; exact absurd (hl _ b) (Nat.lt_irrefl _)
        · cases e'; exact absurd (hl _ a) (Nat.lt_irrefl _)
        · exact hi _ _ _ a b
    · rename_i hk
      rw [if_neg hk] at h2
      exact cells_inj hl hi h1 h2

theorem newEnv_comp {M : Model} {A : Around} {E : Value → Shared → Prop} {s : Shared} {scope : Scope} {globals : Addr} {closure : List (Str × Addr)} {qual : Str} {func : Option Addr} {code : Value} {around : Env} {builtins : Addr} {Q : Env → Shared → Prop}
    (h : Q (newEnv scope s.heap.objs.size globals (cellsFrom (s.heap.objs.size + 1) scope.names closure) qual func code (some around) builtins)
      { s with heap := pushCells (s.heap.push { cls := .type "dict", data := .dict #[] }) scope.names }) :
    wpAny M A (newFunctionEnv scope globals closure [] qual func code (some around) builtins) Q E s := by
  simp only [newFunctionEnv, Option.isSome_some, if_true]
  refine wpAny_bind (wpAny_alloc ?_)
  refine wpAny_bind (wpAny_layCells _ (fun n k c => rfl) scope.names closure _ _ ?_)
  rw [show ({ s with heap := s.heap.push { cls := .type "dict", data := .dict #[] } } : Shared).heap.objs.size = s.heap.objs.size + 1 from Heap.size_push ..]
  rw [List.forIn_nil]
  exact wpAny_bind (wpAny_pure (wpAny_pure h))

/-- every name of the written scope, in the scope that runs -/
theorem lookup_relS {sc : Scope} : ∀ {names : List (Str × NameKind)} {x : Str} {k : NameKind},
    (names.map fun (n, k) => if (k == NameKind.free && sc.kind == .function && sc.names.lookup n == some .cell) then (n, NameKind.cell) else (n, k)).lookup x = some k →
    ∃ k', names.lookup x = some k' ∧ (k = k' ∨ (k' = .free ∧ k = .cell))
  | [], _, _, h => by simp at h
  | (n, k₀) :: r, x, k, h => by
    have ih := @lookup_relS sc r x k
    have h' : List.lookup x ((if (k₀ == NameKind.free && sc.kind == .function && sc.names.lookup n == some .cell) = true then (n, NameKind.cell) else (n, k₀)) :: (r.map _)) = some k := h
    cases hx : x == n with
    | true =>
      simp only [List.lookup_cons, hx]
      by_cases hc : (k₀ == NameKind.free && sc.kind == .function && sc.names.lookup n == some .cell) = true
      · rw [if_pos hc] at h'
        simp only [List.lookup_cons, hx] at h'
        cases h'
        simp only [Bool.and_eq_true, beq_iff_eq] at hc
        exact ⟨k₀, rfl, .inr ⟨hc.1.1, rfl⟩⟩
      · rw [if_neg hc] at h'
        simp only [List.lookup_cons, hx] at h'
        cases h'
        exact ⟨_, rfl, .inl rfl⟩
    | false =>
      simp only [List.lookup_cons, hx]
      by_cases hc : (k₀ == NameKind.free && sc.kind == .function && sc.names.lookup n == some .cell) = true
      · rw [if_pos hc] at h'
        simp only [List.lookup_cons, hx] at h'
        exact ih h'
      · rw [if_neg hc] at h'
        simp only [List.lookup_cons, hx] at h'
        exact ih h'

/-- the names of a comprehension's block: its own (with their places in N), or captured -/
structure BlkOk (N : List Str) (sc scope : Scope) (own : List (Str × Nat)) : Prop where
  kind : scope.kind = .function
  uniq : ∀ y ∈ scope.names, scope.names.lookup y.1 = some y.2
  ix : ∀ p ∈ own, N[p.2]? = some p.1
  free : ∀ y ∈ scope.names, y.2 = .free → sc.names.lookup y.1 = some .cell ∨ sc.names.lookup y.1 = some .free
  own : ∀ y ∈ scope.names, y.2 = .local ∨ y.2 = .cell → y.1 ∈ own.map (·.1) ∨ y.1 ∉ N
/-- the slots of the block's own names forgotten -/
def wipe (σ : St) : List Nat → St
  | [] => σ
  | v :: vs => (wipe σ vs).set v none
theorem wipe_length (σ : St) : ∀ vs : List Nat, (wipe σ vs).length = σ.length
  | [] => rfl
  | v :: vs => by unfold wipe; rw [List.length_set, wipe_length σ vs]
theorem wipe_some {σ : St} {i : Nat} {x : V} : ∀ {vs : List Nat}, (wipe σ vs)[i]? = some (some x) → σ[i]? = some (some x) ∧ i ∉ vs
  | [], h => ⟨h, by simp⟩
  | v :: vs, h => by
    unfold wipe at h
    by_cases hi : v = i
    · subst hi
      by_cases hv : v < (wipe σ vs).length
      · rw [List.getElem?_set_self hv] at h; cases h
      · rw [List.getElem?_eq_none (by simpa using hv)] at h; cases h
    · rw [List.getElem?_set_ne hi] at h
      obtain ⟨h1, h2⟩ := wipe_some h
      exact ⟨h1, by simp only [List.mem_cons, not_or]; exact ⟨fun e => hi e.symm, h2⟩⟩

/-- the context of a block that starts at s, its iterator's objects at fp -/
abbrev Cx.blk (X : Cx) (s : Shared) (H : Hp) (scope : Scope) (cenv : Env) (fp : List Addr) : Cx := { X with s₀ := s, H₀ := H, env := cenv, outer := X.stack, ex := fp, fn := fun x => scope.names.lookup x == some .cell, pn := [], xe := fun _ _ => False }
section
variable {X : Cx} {pins : List (Addr × Obj)} {σ : St} {H : Hp} {s : Shared}
theorem block_start {scope : Scope} {own : List (Str × Nat)} {fp : List Addr} (I : Inv X pins σ H s) (ok : BlkOk X.N X.env.scope scope own) (hN : X.N.Nodup) (hfp : ∀ b ∈ fp, FpOk X pins H b ∧ b < s.heap.objs.size) :
    Inv (X.blk s H scope (compEnvC scope (cellsFrom (s.heap.objs.size + 1) scope.names (cloFrom X.env.cells scope.names [])) s.heap.objs.size X.env) fp) [] (wipe σ (own.map (·.2))) H { s with heap := pushCells (s.heap.push { cls := .type "dict", data := .dict #[] }) scope.names } := by
  have hfree : ∀ y ∈ scope.names, y.2 = .free → ∃ c, X.env.cells.lookup y.1 = some c := fun y hy e => by
    rcases ok.free y hy e with k | k
    · exact I.ok.has _ (.inl k)
    · exact I.ok.has _ (.inr k)
  generalize hcenv : compEnvC scope (cellsFrom (s.heap.objs.size + 1) scope.names (cloFrom X.env.cells scope.names [])) s.heap.objs.size X.env = cenv
  have kp : ∀ b o, s.heap.get? b = some o → (pushCells (s.heap.push { cls := .type "dict", data := .dict #[] }) scope.names).get? b = some o := fun b o e => pushCells_keeps _ _ _ _ (Heap.get?_push_of_some _ e)
  have hL : cenv.locals = s.heap.objs.size := by rw [← hcenv]; rfl
  have hcl : cenv.cells = cellsFrom (s.heap.objs.size + 1) scope.names (cloFrom X.env.cells scope.names []) := by rw [← hcenv]; rfl
  have hsc : cenv.scope = relS scope X.env.scope := by rw [← hcenv]; rfl
  rw [← Heap.size_push s.heap { cls := .type "dict", data := .dict #[] }] at hcl
  have cm : ∀ {y c}, (y, c) ∈ cloFrom X.env.cells scope.names [] → X.env.cells.lookup y = some c ∧ c < s.heap.objs.size := fun {y c} hm => by
    rcases cloFrom_mem hm with hm | ⟨h1, rfl⟩
    · cases hm
    · obtain ⟨c, hc⟩ := hfree _ h1 rfl
      rw [hc]
      obtain ⟨w, z⟩ := I.cell _ _ hc
      exact ⟨rfl, z.lt⟩
  have mem : ∀ {y c}, cenv.cells.lookup y = some c → (X.env.cells.lookup y = some c ∧ c < s.heap.objs.size) ∨ (s.heap.objs.size + 1 ≤ c ∧ CellAt (pushCells (s.heap.push { cls := .type "dict", data := .dict #[] }) scope.names) c none) := fun {y c} e => by
    rw [hcl] at e
    rcases cells_mem (PySem.mem_of_lookup e) with hm | ⟨_, h2, h3⟩
    · exact .inl (cm hm)
    · rw [Heap.size_push] at h2; exact .inr ⟨h2, h3⟩
  have look : ∀ {y}, scope.names.lookup y = some .free → ∃ c, cenv.cells.lookup y = some c ∧ X.env.cells.lookup y = some c := fun {y} hl => by
    have hy : (y, NameKind.free) ∈ scope.names := PySem.mem_of_lookup hl
    obtain ⟨c', e'⟩ := mem_lookup (cells_acc (names := scope.names) (n := (s.heap.push { cls := .type "dict", data := .dict #[] }).objs.size) (cloFrom_has (cells := X.env.cells) (acc := []) hy))
    rw [← hcl] at e'
    refine ⟨c', e', ?_⟩
    rw [hcl] at e'
    rcases cells_mem (PySem.mem_of_lookup e') with hm | ⟨h1, _, _⟩
    · exact (cm hm).1
    · have := ok.uniq _ h1
      rw [hl] at this; cases this
  have okB : (X.blk s H scope cenv fp).Ok := by
    refine ⟨I.ok.mod, by show cenv.scope.kind = _; rw [hsc]; exact ok.kind, by show cenv.globals = _; rw [← hcenv]; exact I.ok.glob, by show cenv.builtins = _; rw [← hcenv]; exact I.ok.blt, by show s.heap.objs.size ≤ cenv.locals; rw [hL]; exact Nat.le_refl _,
      fun y z c e1 e2 => ?_, fun y hy => ?_, fun y c z e => ?_, I.ok.hd, I.ok.frames, .inl rfl, fun b hb => ⟨?_, fun y c e z => ?_⟩, I.bs, Nat.le_trans I.ok.bsz I.sz, fun b o e hb => ?_, fun b hb z => ?_, I.stack, I.stkFree⟩
    · have e1 : cenv.cells.lookup y = some c := e1
      have e2 : cenv.cells.lookup z = some c := e2
      rw [hcl] at e1 e2
      refine cells_inj (fun p hp => ?_) (fun y z c a b => I.ok.inj y z c (cm a).1 (cm b).1) (PySem.mem_of_lookup e1) (PySem.mem_of_lookup e2)
      rw [Heap.size_push]
      exact Nat.lt_succ_of_lt (cm (y := p.1) (c := p.2) hp).2
    · show ∃ c, cenv.cells.lookup y = some c
      have key : ∀ k, cenv.kindOf y = some k → (k = .cell ∨ k = .free) → ∃ c, cenv.cells.lookup y = some c := fun k hk hk' => by
        unfold Env.kindOf at hk
        rw [hsc] at hk
        obtain ⟨k', e, r⟩ := lookup_relS hk
        have : k' = .cell ∨ k' = .free := by
          rcases r with rfl | ⟨rfl, _⟩
          · exact hk'
          · exact .inr rfl
        rcases this with rfl | rfl
        · obtain ⟨c, hm⟩ := cells_has (n := (s.heap.push { cls := .type "dict", data := .dict #[] }).objs.size) (acc := cloFrom X.env.cells scope.names []) (PySem.mem_of_lookup e)
          obtain ⟨c', e'⟩ := mem_lookup hm
          exact ⟨c', by rw [hcl]; exact e'⟩
        · obtain ⟨c, h1, _⟩ := look e
          exact ⟨c, h1⟩
      rcases hy with hy | hy
      · exact key _ hy (.inl rfl)
      · exact key _ hy (.inr rfl)
    · have z : (scope.names.lookup y == some NameKind.cell) = true := z
      have z : scope.names.lookup y = some .cell := by simpa using z
      have e : cenv.cells.lookup y = some c := e
      rw [hcl] at e
      rcases cells_mem (PySem.mem_of_lookup e) with hm | ⟨_, h2, _⟩
      · rcases cloFrom_mem hm with hm | ⟨h1, _⟩
        · cases hm
        · have q := ok.uniq _ h1
          rw [z] at q; cases q
      · rw [Heap.size_push] at h2
        exact Nat.le_of_succ_le h2
    · show b ≠ cenv.locals
      rw [hL]; exact Nat.ne_of_lt (hfp b hb).2
    · have e : cenv.cells.lookup y = some c := e
      rcases mem e with ⟨h1, _⟩ | ⟨h1, _⟩
      · exact (hfp b hb).1.2.2.2.2.1 y c h1 z
      · have h2 : s.heap.objs.size + 1 ≤ b := by rw [← z]; exact h1
        exact absurd (Nat.lt_of_lt_of_le (hfp b hb).2 (Nat.le_of_succ_le h2)) (Nat.lt_irrefl _)
    · rcases (hfp b hb).1.2.2.2.1 with z | z
      · exact I.ok.noex b o e z
      · exact absurd (Nat.lt_of_lt_of_le (Heap.lt_size e) (Nat.le_trans I.ok.bsz z)) (Nat.lt_irrefl _)
    · rcases List.mem_cons.mp (I.stkSub b z) with z | z
      · exact (hfp b hb).1.2.1 z
      · exact (hfp b hb).1.2.2.1 z
  refine ⟨okB, rfl, I.bare, Un.kept kp, ⟨fun _ => none, ?_, fun i y av e1 e2 e3 => ?_⟩, fun y c e => ?_, ?_, fun y c e => ?_, fun p hp => ?_, I.hok.kept kp, by rw [wipe_length]; exact I.len⟩
  · show Heap.Ns _ cenv.locals _
    rw [hL]
    exact Heap.Ns.keeps (Heap.Ns.new ..) fun b o e => pushCells_keeps _ _ _ _ e
  · obtain ⟨e2, hne⟩ := wipe_some e2
    have hfr : scope.names.lookup y = some .free ∧ (cenv.kindOf y = some .cell ∨ cenv.kindOf y = some .free) := by
      have key : ∀ k, cenv.scope.names.lookup y = some k → k = .local ∨ k = .cell ∨ k = .free → scope.names.lookup y = some .free ∧ (cenv.kindOf y = some .cell ∨ cenv.kindOf y = some .free) := fun k hk hk' => by
        have hk0 := hk
        rw [hsc] at hk
        obtain ⟨k', e, r⟩ := lookup_relS hk
        have no : ¬ (k' = .local ∨ k' = .cell) := fun hh => by
          rcases ok.own _ (PySem.mem_of_lookup e) hh with e' | e'
          · obtain ⟨p, hp, hpy⟩ := List.mem_map.mp e'
            have e3 := ok.ix p hp
            have : p.1 = y := hpy
            rw [this] at e3
            exact hne (List.mem_map.mpr ⟨p, hp, nodup_ix hN e3 e1⟩)
          · exact e' (List.mem_of_getElem? e1)
        rcases r with rfl | ⟨rfl, rfl⟩
        · rcases hk' with rfl | rfl | rfl
          · exact absurd (.inl rfl) no
          · exact absurd (.inr rfl) no
          · exact ⟨e, .inr hk0⟩
        · exact ⟨e, .inl hk0⟩
      have e3 : Vis cenv.scope y := e3
      rcases e3 with e3 | e3 | e3
      · exact key _ e3 (.inl rfl)
      · exact key _ e3 (.inr (.inl rfl))
      · exact key _ e3 (.inr (.inr rfl))
    obtain ⟨m, hn, hl⟩ := I.loc
    have hvis : Vis X.env.scope y := (ok.free _ (PySem.mem_of_lookup hfr.1) rfl).elim (fun k => .inr (.inl k)) (fun k => .inr (.inr k))
    obtain ⟨w, r, q⟩ := hl i y av e1 e2 hvis
    refine ⟨w, r, .inr ⟨hfr.2, ?_⟩⟩
    obtain ⟨c, h1, h2⟩ := look hfr.1
    rcases q with ⟨k, _⟩ | ⟨_, c', e', z⟩
    · have k : X.env.scope.names.lookup y = some .local := k
      rcases ok.free _ (PySem.mem_of_lookup hfr.1) rfl with k' | k' <;> rw [show X.env.scope.names.lookup y = _ from k'] at k <;> cases k
    · rw [h2] at e'; cases e'
      exact ⟨c, h1, z.keeps kp⟩
  · have e : cenv.cells.lookup y = some c := e
    rcases mem e with ⟨h1, _⟩ | ⟨_, z⟩
    · obtain ⟨w, z⟩ := I.cell y c h1
      exact ⟨w, z.keeps kp⟩
    · exact ⟨_, z⟩
  · show H cenv.locals = none
    rw [hL]; exact I.hok.fresh (Nat.le_refl _)
  · have e : cenv.cells.lookup y = some c := e
    rcases mem e with ⟨h1, _⟩ | ⟨h1, _⟩
    · exact I.freeC y c h1
    · exact I.hok.fresh (Nat.le_of_succ_le h1)
  · exact absurd (show p ∈ ([] : List (Addr × Obj)) ++ [] from hp) (by simp)

/-- an item appended to a tracked list -/
theorem app_ok {E : Value → Shared → Prop} {D : Addr} {xs : List V} {y : V} {v : Value} {Q : Value → Shared → Prop} (I : Inv X pins σ H s) (hD : H D = some (.lst xs)) (hz : xs.length < sizeLine) (r : RelV y v)
    (h : ∀ s', Inv X pins σ (upd H D (.lst (xs ++ [y]))) s' → Q .none s') : wpAny (model X.prog X.w) X.A (call (.builtin "list.append") [.ref D, v]) Q E s := by
  obtain ⟨hz', its, n, ri, e⟩ := I.hok D _ hD
  have hl := ri.length
  refine append_at (hsz := by rw [List.size_toArray]; omega) e fun h' sb ho' => ?_
  refine h { s with heap := h' } (I.write (t' := s.toks) (by rw [hD]; trivial) (.inl rfl) (fun b u hb q => (sb.2 b hb).trans q) ⟨_, ho'⟩ ⟨by rw [List.length_append]; exact hz, its ++ [v], n + 1, ri.append (.cons r .nil), ?_⟩)
  rw [ho']
  simp

/-- a clause's tests -/
def PTs (X : Cx) (ifs : List Expr) (t : TT) : Prop :=
  ∀ (pins : List (Addr × Obj)) (s : Shared) (σ : St) (H : Hp) (Q : Bool → Hp → Prop), Inv X pins σ H s → t σ H Q →
    wpAny (model X.prog X.w) X.A (forIn ifs true fun c r => if r = true then do let ok ← isTrue c X.env (eval c X.env); pure (ForInStep.yield ok) else pure (ForInStep.yield r)) (TP X pins σ Q) X.xe s
def tYes : TT := fun _ H Q => Q true H
theorem pts_nil : PTs X [] tYes := fun _ _ _ H _ I h => wpAny_tests_nil ⟨H, I, h⟩
end

theorem thnF {α : Type} {t : Sem α} {Q Q' : α → Shared → Prop} {M : Model} {A : Around} {E : Value → Shared → Prop} {s : Shared} (h : wpAny M A t Q (fun _ _ => False) s) (hQ : ∀ a s, Q a s → Q' a s) : wpAny M A t Q' E s := wpAny_mono h hQ fun _ _ z => False.elim z

/-- the loop of a list comprehension's block, the target of any form (codeAny_compLoop_tests asks a target that no tuple goes to; statement and proof follow it, PyProof/CompMap.lean:41-61, with the step letOwnedTupleGo kept) -/
theorem compLoop_any {prog : Program} {w : World} {A : Around} {R : Result → Shared → Prop} {s : Shared} {elt target iter : Expr} {ifs : List Expr} {scope : Scope} {pos : Pos} {it acc : Value} {env : Env} (I : Nat → Shared → Prop)
    (turn : ∀ n s, I n s → wpAny (model prog w) A (pyNext it) (fun r s₁ => match r with
      | none => R (.ok .next) s₁
      | some v => wpAny (model prog w) A (letOwnedTupleGo target it v) (fun _ s₁' => wpAny (model prog w) A (assign target env v) (fun _ s₂ =>
          wpAny (model prog w) A (forIn ifs true fun c r => if r = true then do let ok ← isTrue c env (eval c env); pure (ForInStep.yield ok) else pure (ForInStep.yield r)) (fun ok s₃ =>
            if ok = true then wpAny (model prog w) A (eval elt env) (fun x s₄ =>
              wpAny (model prog w) A (call (.builtin "list.append") [acc, x]) (fun _ s₅ => ∃ m, m < n ∧ I m s₅) (notedBy (model prog w) A env fun e s' => R (.error e) s') s₄) (notedBy (model prog w) A env fun e s' => R (.error e) s') s₃
            else ∃ m, m < n ∧ I m s₃) (notedBy (model prog w) A env fun e s' => R (.error e) s') s₂) (notedBy (model prog w) A env fun e s' => R (.error e) s') s₁') (notedBy (model prog w) A env fun e s' => R (.error e) s') s₁) (notedBy (model prog w) A env fun e s' => R (.error e) s') s)
    (n : Nat) (h : I n s) :
    codeAny (model prog w) A (.compLoop (.ListComp elt [⟨target, iter, ifs, 0⟩] scope pos) 0 it acc env) R s := by
  refine codeAny_loop rfl I (fun n s hI => ?_) n h
  show wpAny _ A ((compTurn (.ListComp elt [⟨target, iter, ifs, 0⟩] scope pos) 0 it acc env).onRaise (fun x => do noteFrame x env; theTreesLotGoes x)) _ _ s
  refine wpAny_noted ?_
  rw [compTurn_list]
  refine wpAny_bind (wpAny_standAt (wpAny_bind (wpAny_mono (turn n s hI) (fun r s₁ h₁ => ?_) fun _ _ h' => h')))
  cases r with
  | none => exact wpAny_pure h₁
  | some v =>
    refine wpAny_bind (wpAny_mono h₁ (fun _ s₁' h₁' => ?_) fun _ _ h' => h')
    refine wpAny_bind (wpAny_mono h₁' (fun _ s₂ h₂ => wpAny_bind (wpAny_mono h₂ (fun ok s₃ h₃ => ?_) fun _ _ h' => h')) fun _ _ h' => h')
    cases ok with
    | false => exact wpAny_pure ⟨rfl, h₃⟩
    | true =>
      exact wpAny_bind (wpAny_bind (wpAny_mono h₃ (fun x s₄ h₄ => wpAny_bind (wpAny_mono h₄ (fun _ s₅ h₅ => wpAny_pure (wpAny_pure ⟨rfl, h₅⟩)) fun _ _ h' => h')) fun _ _ h' => h'))

section
variable {X : Cx}
/-- [elt for target in iter if ..]: D the new list; W by the turn and a measure, Nx what a turn is to reach -/
def tLc (wi : TI) (g : TG) (tt : TT) (te : TE) (vs : List Nat) : TE := fun σ H Q => wi σ H fun J H1 => ∀ D, H1 D = none → ∃ W : Nat → Nat → Hp → Prop, (∃ m, W 0 m (upd H1 D (.lst []))) ∧ ∀ i m H, W i m H →
  (J.stop i H ∧ Q (.ref D) H) ∨ (J.go i H ∧ ∃ Nx : Hp → Prop, (∀ H', Nx H' → ∃ m', m' < m ∧ W (i + 1) m' H') ∧ ∀ x H', J.yld i H x H' → g x (wipe σ vs) H' fun σ2 H2 => wipe σ2 vs = wipe σ vs ∧ tt σ2 H2 fun b H3 =>
    if b = true then te σ2 H3 fun y H4 => ∃ acc, H4 D = some (.lst acc) ∧ acc.length < sizeLine ∧ Nx (upd H4 D (.lst (acc ++ [y]))) else Nx H3)
theorem lc_core {pins : List (Addr × Obj)} {s : Shared} {σ : St} {H : Hp} {Q : VK} {elt tg iter : Expr} {ifs : List Expr} {scope : Scope} {own : List (Str × Nat)} {pos pos' : Pos} {wi : TI} {g : TG} {tt : TT} {te : TE} {use : Option (Value → Sem Unit)} {Qf : Value → Shared → Prop}
    (hc : X.calm = true) (hN : X.N.Nodup) (I : Inv X pins σ H s) (hi : PI X tg iter wi) (ok : BlkOk X.N X.env.scope scope own)
    (hg : ∀ (s : Shared) (H : Hp) (C : Addr) (cl : List (Str × Addr)) (fp : List Addr), PG (X.blk s H scope (compEnvC scope cl C X.env) fp) tg g) (ht : ∀ (s : Shared) (H : Hp) (C : Addr) (cl : List (Str × Addr)) (fp : List Addr), PTs (X.blk s H scope (compEnvC scope cl C X.env) fp) ifs tt)
    (he : ∀ (s : Shared) (H : Hp) (C : Addr) (cl : List (Str × Addr)) (fp : List Addr), PE (X.blk s H scope (compEnvC scope cl C X.env) fp) elt te) (hs : ∀ x, foldedSetIterable iter X.env x = pure x)
    (h : tLc wi g tt te (own.map (·.2)) σ H Q)
    (hRR : ∀ D C s' m H', Inv X pins σ H' s' → Q (.ref D) H' → s'.heap.Ns C m → FpOk X pins H' C → compPost (model X.prog X.w) X.A X.xe use Qf (.ref D) C (.ok .next) s') :
    wpAny (model X.prog X.w) X.A (comprehension (.ListComp elt [⟨tg, iter, ifs, 0⟩] scope pos) scope X.env pos' (newList []) false (eval iter X.env) use) Qf X.xe s := by
  have hfree : ∀ y ∈ scope.names, y.2 = .free → ∃ c, X.env.cells.lookup y.1 = some c := fun y hy e => by
    rcases ok.free y hy e with k | k
    · exact I.ok.has _ (.inl k)
    · exact I.ok.has _ (.inr k)
  refine wpAny_comprehension_free (use := use) rfl hs (closure_ok hfree) ok.kind (fun y hy e => by rw [ok.uniq y hy, e])
    (thn (hi pins s σ H _ I h) fun xv s1 hx => thn hx fun itv s2 h2 => ?_)
  obtain ⟨it, fp, tn, J, H2, e, I2, T, st2, f2, q⟩ := h2
  subst e
  refine wpAny_newObj_type (newEnv_comp ?_) (by show 0 ≤ sizeLine; decide)
  generalize hD : s2.heap.objs.size = D
  have hDn : H2 D = none := I2.hok.fresh (Nat.le_of_eq hD)
  obtain ⟨W, ⟨m0, w0⟩, turn⟩ := q D hDn
  -- the new list
  generalize hs3 : ({ s2 with heap := s2.heap.push { cls := .type "list", data := .seq ([] : List Value).toArray } } : Shared) = s3
  have I3 : Inv X pins σ (upd H2 D (.lst [])) s3 := by
    rw [← hs3]
    refine I2.laid (t' := s2.toks) (fun b o e => Heap.get?_push_of_some _ e) (Nat.le_of_eq hD) ⟨Nat.zero_le _, [], 0, .nil, ?_⟩
    rw [← hD]
    exact Heap.get?_push_size _ rfl
  have h3 : s3.heap = s2.heap.push { cls := .type "list", data := .seq ([] : List Value).toArray } := by rw [← hs3]
  have sz : ∀ b ∈ fp, b < s2.heap.objs.size := fun b hb => by
    obtain ⟨o, e, _⟩ := T.obj _ _ st2 b hb
    exact Heap.lt_size e
  have f3 : ∀ b ∈ fp, FpOk X pins (upd H2 D (.lst [])) b ∧ b < s3.heap.objs.size := fun b hb => by
    have hlt := sz b hb
    refine ⟨⟨?_, (f2 b hb).2⟩, by rw [h3, Heap.size_push]; exact Nat.lt_succ_of_lt hlt⟩
    rw [upd_ne (by rw [← hD]; exact Nat.ne_of_lt hlt)]
    exact (f2 b hb).1
  have st3 : tn 0 s3.heap := T.keep _ _ _ st2 fun b _ o e => by rw [h3]; exact Heap.get?_push_of_some _ e
  have I4 := block_start I3 ok hN f3
  have pg := hg s3 (upd H2 D (.lst [])) s3.heap.objs.size (cellsFrom (s3.heap.objs.size + 1) scope.names (cloFrom X.env.cells scope.names [])) fp
  have pt := ht s3 (upd H2 D (.lst [])) s3.heap.objs.size (cellsFrom (s3.heap.objs.size + 1) scope.names (cloFrom X.env.cells scope.names [])) fp
  have pe := he s3 (upd H2 D (.lst [])) s3.heap.objs.size (cellsFrom (s3.heap.objs.size + 1) scope.names (cloFrom X.env.cells scope.names [])) fp
  show codeAny _ _ (.compStart (.ListComp elt [⟨tg, iter, ifs, 0⟩] scope pos) 0 (.ref it) (.ref D) (compEnvC scope (cellsFrom (s3.heap.objs.size + 1) scope.names (cloFrom X.env.cells scope.names [])) s3.heap.objs.size X.env)) (compPost (model X.prog X.w) X.A X.xe use Qf (.ref D) s3.heap.objs.size) { s3 with heap := pushCells (s3.heap.push { cls := .type "dict", data := .dict #[] }) scope.names }
  have nfp : ∀ b ∈ fp, (upd H2 D (.lst [])) b = none := fun b hb => (f3 b hb).1.1
  generalize hce : compEnvC scope (cellsFrom (s3.heap.objs.size + 1) scope.names (cloFrom X.env.cells scope.names [])) s3.heap.objs.size X.env = ce at I4 pg pt pe ⊢
  have cL : ce.locals = s3.heap.objs.size := by subst hce; rfl
  generalize hH3 : upd H2 D (.lst []) = H3 at I3 I4 pg pt pe w0 nfp f3
  generalize hs4 : ({ s3 with heap := pushCells (s3.heap.push { cls := .type "dict", data := .dict #[] }) scope.names } : Shared) = s4 at I4 ⊢
  have st4 : tn 0 s4.heap := T.keep _ _ _ st3 fun b _ o e => by rw [← hs4]; exact pushCells_keeps _ _ _ _ (Heap.get?_push_of_some _ e)
  have stat : ∀ {σ' : St} {H' : Hp} {s' : Shared}, Inv (X.blk s3 H3 scope ce fp) [] σ' H' s' → (∀ b ∈ fp, H' b = none) → ∀ b ∈ fp, FpOk (X.blk s3 H3 scope ce fp) [] H' b := fun {σ' H' s'} I' hn b hb =>
    ⟨hn b hb, (I'.ok.exf b hb).1, I'.ok.exfs b hb, .inl hb, fun x c e => (I'.ok.exf b hb).2 x c e, fun p hp => absurd (show p ∈ ([] : List (Addr × Obj)) ++ [] from hp) (by simp)⟩
  have loop : codeAny (model X.prog X.w) X.A (.compLoop (.ListComp elt [⟨tg, iter, ifs, 0⟩] scope pos) 0 (.ref it) (.ref D) ce) (compPost (model X.prog X.w) X.A X.xe use Qf (.ref D) s3.heap.objs.size) s4 := by
    refine compLoop_any (fun n s' => ∃ i H', Inv (X.blk s3 H3 scope ce fp) [] (wipe σ (own.map (·.2))) H' s' ∧ tn i s'.heap ∧ (∀ b ∈ fp, H' b = none) ∧ W i n H') ?_ m0 ⟨0, H3, I4, st4, nfp, w0⟩
    rintro n s5 ⟨i, H5, I5, st5, n5, w5⟩
    rcases turn i n H5 w5 with ⟨stop, qq⟩ | ⟨go, Nx, hNx, step⟩
    · have td := T.done (X.blk s3 H3 scope ce fp) rfl rfl rfl hc i [] s5 _ H5 (fun _ _ => False) I5 (stat I5 n5) st5 stop
      refine thnF td fun r s6 ⟨hr, I6⟩ => ?_
      subst hr
      -- back in the def's context
      have I7 : Inv X pins σ H5 s6 := I3.call' (ch := fp) I6.os I6.base I6.hok I6.bare fun b hb => ⟨(f3 b hb).1.2.2.2.1, (f3 b hb).1.2.1, (f3 b hb).1.2.2.2.2.1, (f3 b hb).1.2.2.2.2.2⟩
      have nC : H5 s3.heap.objs.size = none := by
        have z : H5 ce.locals = none := I6.free
        rw [cL] at z
        exact z
      obtain ⟨m, hn, _⟩ := I6.loc
      have hn : s6.heap.Ns ce.locals m := hn
      rw [cL] at hn
      exact hRR D s3.heap.objs.size s6 m H5 I7 qq hn (I3.fpOk (Nat.le_refl _) nC)
    · have ti := T.item (X.blk s3 H3 scope ce fp) rfl rfl rfl hc i [] s5 _ H5 (fun _ _ => False) I5 (stat I5 n5) st5 go
      refine thnF ti fun r s6 ⟨u, hr, h6⟩ => ?_
      subst hr
      refine thnF h6 fun _ s7 ⟨x, H7, I7, r7, y7, st7, n7⟩ => ?_
      have I7' := I7.pinned (stat I7 n7) (T.obj _ _ st7)
      refine thnF (pg _ s7 _ H7 x u _ I7' r7 (step x H7 y7)) fun _ s8 ⟨σ8, H8, I8, hw8, q8⟩ => ?_
      refine thnF (pt _ s8 σ8 H8 _ I8 q8) fun b s9 ⟨H9, I9, q9⟩ => ?_
      -- the turn's end
      have fin : ∀ {s' : Shared} {H' : Hp}, Inv (X.blk s3 H3 scope ce fp) ([] ++ pinsAt fp s7.heap) σ8 H' s' → Nx H' → ∃ m, m < n ∧ ∃ i H', Inv (X.blk s3 H3 scope ce fp) [] (wipe σ (own.map (·.2))) H' s' ∧ tn i s'.heap ∧ (∀ b ∈ fp, H' b = none) ∧ W i m H' := fun {s' H'} I' nx => by
        obtain ⟨m', hm, w'⟩ := hNx H' nx
        have pin' : ∀ b ∈ fp, ∀ o, s7.heap.get? b = some o → s'.heap.get? b = some o ∧ H' b = none := fun b hb o e =>
          let z := I'.pin (b, o) (List.mem_append_right _ (List.mem_append_right _ (mem_pinsAt hb e)))
          ⟨z.1, z.2.1⟩
        have hl : (wipe σ (own.map (·.2))).length = σ8.length := by rw [← hw8, wipe_length]
        refine ⟨m', hm, i + 1, H', (I'.unpinned (pins := [])).weak hl (fun j v e => ?_), T.keep _ _ _ st7 fun b hb o e => (pin' b hb o e).1, fun b hb => ?_, w'⟩
        · rw [← hw8] at e
          exact (wipe_some e).1
        · obtain ⟨o, e, _⟩ := T.obj _ _ st7 b hb
          exact (pin' b hb o e).2
      cases b with
      | false =>
        simp only [Bool.false_eq_true, if_false] at q9 ⊢
        exact fin I9 q9
      | true =>
        simp only [if_true] at q9 ⊢
        refine thnF (pe _ s9 σ8 H9 _ I9 q9) fun z s10 ⟨yv, H10, I10, r10, acc, hD10, hz10, nx⟩ => ?_
        exact app_ok (X := X.blk s3 H3 scope ce fp) I10 hD10 hz10 r10 fun s11 I11 => fin I11 nx
  exact codeAny_compStart_list loop (T.self X.A 0 _ _ _ st4 loop)
/-- as a value -/
theorem pe_lc {elt tg iter : Expr} {ifs : List Expr} {scope : Scope} {own : List (Str × Nat)} {pos : Pos} {wi : TI} {g : TG} {tt : TT} {te : TE} (hc : X.calm = true) (hN : X.N.Nodup) (hi : PI X tg iter wi) (ok : BlkOk X.N X.env.scope scope own)
    (hg : ∀ (s : Shared) (H : Hp) (C : Addr) (cl : List (Str × Addr)) (fp : List Addr), PG (X.blk s H scope (compEnvC scope cl C X.env) fp) tg g) (ht : ∀ (s : Shared) (H : Hp) (C : Addr) (cl : List (Str × Addr)) (fp : List Addr), PTs (X.blk s H scope (compEnvC scope cl C X.env) fp) ifs tt)
    (he : ∀ (s : Shared) (H : Hp) (C : Addr) (cl : List (Str × Addr)) (fp : List Addr), PE (X.blk s H scope (compEnvC scope cl C X.env) fp) elt te) (hs : ∀ x, foldedSetIterable iter X.env x = pure x := by intro _; rfl) :
    PE X (.ListComp elt [⟨tg, iter, ifs, 0⟩] scope pos) (tLc wi g tt te (own.map (·.2))) := by
  intro pins s σ H Q I h
  rw [eval_ListComp]
  refine lc_core hc hN I hi ok hg ht he hs h fun D C s' m H' I' q hn f => ⟨m, hn, fun h'' sb => ?_⟩
  obtain ⟨f0, f1, f2, f3, f4, f5⟩ := f
  exact ⟨.ref D, H', I'.turned (t' := s'.toks) (fun b o hb e => (sb.2 b hb).trans e) f0 f1 f3 f4 f5, rfl, q⟩
/-- name = [..] on one line, the name a local -/
theorem ps_setLc {i : Nat} {y : Str} {py : Pos} {elt tg iter : Expr} {ifs : List Expr} {scope : Scope} {own : List (Str × Nat)} {pos spos : Pos} {wi : TI} {g : TG} {tt : TT} {te : TE} (hc : X.calm = true) (hN : X.N.Nodup) (hy : X.N[i]? = some y) (hyl : X.env.scope.names.lookup y = some .local)
    (hsw : swapsWith (.ListComp elt [⟨tg, iter, ifs, 0⟩] scope pos) (some (.Name y py)) spos.line X.env = pure true) (hi : PI X tg iter wi) (ok : BlkOk X.N X.env.scope scope own)
    (hg : ∀ (s : Shared) (H : Hp) (C : Addr) (cl : List (Str × Addr)) (fp : List Addr), PG (X.blk s H scope (compEnvC scope cl C X.env) fp) tg g) (ht : ∀ (s : Shared) (H : Hp) (C : Addr) (cl : List (Str × Addr)) (fp : List Addr), PTs (X.blk s H scope (compEnvC scope cl C X.env) fp) ifs tt)
    (he : ∀ (s : Shared) (H : Hp) (C : Addr) (cl : List (Str × Addr)) (fp : List Addr), PE (X.blk s H scope (compEnvC scope cl C X.env) fp) elt te) (hs : ∀ x, foldedSetIterable iter X.env x = pure x := by intro _; rfl) :
    PS X (.Assign [.Name y py] (.ListComp elt [⟨tg, iter, ifs, 0⟩] scope pos) spos) (tAsg (tLc wi g tt te (own.map (·.2))) (gName i)) := by
  intro pins s σ H D I h
  rw [exec_Assign_Name_used _ _ _ _ hsw]
  refine wpAny_bind (wpAny_standAt (wpAny_bind ?_))
  show wpAny _ X.A (do let _ ← comprehension (.ListComp elt [⟨tg, iter, ifs, 0⟩] scope pos) scope X.env (firstIterPos [⟨tg, iter, ifs, 0⟩] pos) (newList []) false (eval iter X.env) (some (assign (.Name y py) X.env))) _ _ s
  have h : tLc wi g tt te (own.map (·.2)) σ H (fun x H1 => gName i x σ H1 D.nx) := h
  refine wpAny_bind (thn (lc_core (Qf := fun _ s' => SP X pins D .next s') hc hN I hi ok hg ht he hs h fun L C s' m H' I' q hn f => ?_) fun _ s' hq => wpAny_pure (wpAny_pure hq))
  show wpAny _ _ (assign (.Name y py) X.env (.ref L)) _ _ _
  refine wpAny_assign_Name (store_ok2 (v := V.ref L) I' hN hy (.inl hyl) rfl (fun s2 I2 ⟨a, sb, ha⟩ => ?_) (.inr hyl))
  obtain ⟨f0, f1, f2, f3, f4, f5⟩ := f
  have haC : C ≠ a := by
    rcases ha with z | z
    · rw [z]; exact f1
    · exact fun e => f4 y a z e.symm
  refine ⟨m, hn.sameBut sb haC, fun h3 sb3 => ?_⟩
  exact ⟨_, H', I2.turned (t' := s2.toks) (fun b o hb e => (sb3.2 b hb).trans e) f0 f1 f3 f4 f5, q⟩
theorem sw_true {elt : Expr} {gs : List Comprehension} {scope : Scope} {pos py : Pos} {y : Str} {l : Nat} {env : Env} (hk : env.scope.kind = .function) (hy : env.scope.names.lookup y = some .local) (hl : (py.line == pos.line) = true)
    (ha : (scope.names.any fun (n, k) => n == y && (k == .local || k == .cell)) = false) : swapsWith (.ListComp elt gs scope pos) (some (.Name y py)) l env = pure true := by
  have ky : env.kindOf y = some .local := hy
  have hb : env.blockKind = .function := by unfold Env.blockKind; rw [hk]; rfl
  unfold swapsWith
  simp only [hb, ky, ha, Expr.pos, hl]
  rfl
end

/-! ### the forms one uses -/
def blkC (N : List Str) (sc scope : Scope) (own : List (Str × Nat)) : Bool :=
  (match scope.kind with | .function => true | _ => false) && (scope.names.all fun y => decide (scope.names.lookup y.1 = some y.2)) && (own.all fun p => decide (N[p.2]? = some p.1)) &&
    (scope.names.all fun y => match y.2 with
      | .free => (match sc.names.lookup y.1 with | some .cell => true | some .free => true | _ => false)
      | .local => decide (y.1 ∈ own.map (·.1)) || decide (y.1 ∉ N)
      | .cell => decide (y.1 ∈ own.map (·.1)) || decide (y.1 ∉ N)
      | _ => true)
theorem blkOk_by {N : List Str} {sc scope : Scope} {own : List (Str × Nat)} (h : blkC N sc scope own = true) : BlkOk N sc scope own := by
  unfold blkC at h
  simp only [Bool.and_eq_true, List.all_eq_true, decide_eq_true_eq] at h
  obtain ⟨⟨⟨h1, h2⟩, h3⟩, h4⟩ := h
  refine ⟨?_, h2, h3, fun y hy e => ?_, fun y hy e => ?_⟩
  · split at h1
    · assumption
    · cases h1
  · have q := h4 y hy
    simp only [e] at q
    split at q <;> first | exact .inl (by assumption) | exact .inr (by assumption) | cases q
  · have q := h4 y hy
    rcases e with e | e <;> (simp only [e, Bool.or_eq_true, decide_eq_true_eq] at q; exact q)
end L2

namespace L2
open PySem PySem.Spec PyProof.Rows

section
variable {prog : Program} {w : World} {A : Around} {R : Result → Shared → Prop} {s : Shared} {elt t0 i0 t1 i1 : Expr} {ifs0 ifs1 : List Expr} {scope : Scope} {pos : Pos} {it acc : Value} {env : Env}
end

section
variable {X : Cx}
end
end L2

namespace L2
open PySem PySem.Spec PyProof.Rows

/-! ### lists of pairs as tables -/
section
variable {κ : Type} [DecidableEq κ]

end

/-! ### a tracked dict, its keys ints and texts or tuples of these -/

section
variable {P : Program} {w : World} {H : Hp} {h : Heap} {a : Addr}
end

section
variable {X : Cx} {pins : List (Addr × Obj)} {σ : St} {H : Hp} {s : Shared} {a : Addr} {y v : V} {u r : Value} {o : Option V} {A : Around} {E : Value → Shared → Prop}

end

section
variable {X : Cx} {pins : List (Addr × Obj)} {σ : St} {H : Hp} {s : Shared} {a : Addr} {kvs : List (Key × V)} {k : Key} {u : Value} {A : Around} {E : Value → Shared → Prop}
end

/-! ### readings and rules -/
/-- the element of a subscription, not a slice -/
def NoSl (i : Expr) : Prop := ∀ ov iv, subscripted i false ov iv = operate [ov, iv] (getItem ov iv)
theorem subD_of {prog : Program} {w : World} {A : Around} {E : Value → Shared → Prop} {s : Shared} {env : Env} {value slice : Expr} {pos : Pos} {T id : String} {Q : Value → Shared → Prop}
    (hl : typeLookup (.type T) "__getitem__" = pure (some (.builtin id))) (hs : NoSl slice)
    (h : wpAny (model prog w) A (eval value env) (fun o s₁ => wpAny (model prog w) A (eval slice env) (fun i s₂ => s₂.TypeIs o T ∧ wpAny (model prog w) A (getItem o i) Q E s₂) E s₁) E s) :
    wpAny (model prog w) A (eval (.Subscript value slice pos) env) Q E s := by
  refine Subscript_ (wpAny_mono h (fun o s₁ h₁ => wpAny_mono h₁ (fun i s₂ h₂ => ?_) fun _ _ x => x) fun _ _ x => x)
  obtain ⟨hT, h₂⟩ := h₂
  unfold subscriptTail
  refine wpAny_bind ?_
  rw [getitemInPython_of_ne hT.not_modules]
  refine wpAny_bind (wpAny_specialOf hT hl ?_)
  have fin : wpAny (model prog w) A (subscripted slice false o i) (fun r s₃ => wpAny (model prog w) A (letTemporaryGo value o r >>= fun _ => pure r) Q E s₃) E s₂ := by
    rw [hs o i]
    exact wpAny_operating (wpAny_mono h₂ (fun r s₃ h₃ => wpAny_bind (wpAny_letTemporaryGo (wpAny_pure h₃))) fun _ _ x => x)
  first
    | exact wpAny_pure (wpAny_bind fin)
    | exact wpAny_bind (wpAny_pure (wpAny_bind fin))
    | exact wpAny_bind fin

section
variable {X : Cx} {o i e value : Expr} {pos pos' tpos : Pos} {td ty tv : TE}
end

/-! ### displays -/
section
variable {X : Cx} {pos : Pos}
end

/-! ### methods -/

section
variable {X : Cx} {pins : List (Addr × Obj)} {σ : St} {H : Hp} {s : Shared} {a : Addr} {y d : V} {u r : Value} {o : Option V} {A : Around} {E : Value → Shared → Prop}
end

section
variable {X : Cx} {o e f : Expr} {apos cpos : Pos} {td ty tx : TE}
end

/-! ### dict(d): a copy -/
section
variable {X : Cx} {pins : List (Addr × Obj)} {σ : St} {H : Hp} {s : Shared} {a : Addr} {kvs : List (Key × V)} {A : Around} {E : Value → Shared → Prop}
end

section
variable {X : Cx} {pins : List (Addr × Obj)} {σ : St} {H : Hp} {s : Shared} {a : Addr} {y : V} {u : Value} {A : Around} {E : Value → Shared → Prop}
end
end L2

namespace L2
open PySem PySem.Spec PyProof.Rows

section
variable {prog : Program} {w : World} {A : Around} {E : Value → Shared → Prop}

end

section
variable {X : Cx}
end
end L2

namespace L2
open PySem PySem.Spec PyProof.Rows

section
variable {X : Cx} {pins : List (Addr × Obj)} {σ : St} {H : Hp} {s : Shared} {h' : Heap}
/-- several records of ours have turned -/
theorem Inv.turnedL {t' : Nat} {ch : List Addr} (I : Inv X pins σ H s) (k : ∀ b o, b ∉ ch → s.heap.get? b = some o → h'.get? b = some o) (hf : ∀ b ∈ ch, FpOk X pins H b) : Inv X pins σ H { s with heap := h', toks := t' } := by
  have nit : ∀ b u, H b = some u → b ∉ ch := fun b u e z => by
    have q := (hf b z).1
    rw [q] at e; cases e
  refine I.step (g' := s.gens) (d' := s.drawn) (ch := ch) (fun b hb => ⟨(hf b hb).2.2.2.1, (hf b hb).2.1, (hf b hb).2.2.2.2.1, (hf b hb).2.2.2.2.2⟩) (fun b o _ _ hc e _ => k b o hc e) (fun b o _ _ hc e _ => ⟨o.slots, k b o hc e⟩)
    (fun _ _ _ _ n => n) (fun b o hc e => ⟨o, k b o hc e⟩) (fun _ _ e => e) (fun _ _ _ e => e) (fun b ps e => ⟨#[], by rw [e]; simp⟩) (fun m hm => ?_) (fun b u e => ?_) I.bare
  · obtain ⟨o, es, ep, ho, r⟩ := hm
    exact ⟨o, es, ep, k _ o (fun z => (hf _ z).2.1 rfl) ho, r⟩
  · refine (I.hok b u e).stay (fun c v hc q => k c v ?_ q) (fun _ q => q) fun _ _ q => q
    rcases hc with z | z
    · rw [z]; exact nit b u e
    · exact nit c _ z
/-- .. and one new object is laid -/
theorem Inv.turnedNew {t' : Nat} {ch : List Addr} {T : Addr} {ob : HO} (I : Inv X pins σ H s) (k : ∀ b o, b ∉ ch → s.heap.get? b = some o → h'.get? b = some o) (hf : ∀ b ∈ ch, FpOk X pins H b) (hT : s.heap.objs.size ≤ T)
    (new : ObjOk X.prog X.w (upd H T ob) h' T ob) : Inv X pins σ (upd H T ob) { s with heap := h', toks := t' } := by
  have hn : H T = none := I.hok.fresh hT
  have nit : ∀ b u, H b = some u → b ∉ ch := fun b u e z => by
    have q := (hf b z).1
    rw [q] at e; cases e
  refine I.step (g' := s.gens) (d' := s.drawn) (ch := ch) (fun b hb => ⟨(hf b hb).2.2.2.1, (hf b hb).2.1, (hf b hb).2.2.2.2.1, (hf b hb).2.2.2.2.2⟩) (fun b o _ _ hc e _ => k b o hc e) (fun b o _ _ hc e _ => ⟨o.slots, k b o hc e⟩)
    (fun b o _ e n => ?_) (fun b o hc e => ⟨o, k b o hc e⟩) (fun b xs e => ?_) (fun b o u e => ?_) (fun b ps e => ⟨#[], ?_⟩) (fun m hm => ?_) (fun b u e => ?_) I.bare
  · rw [upd_ne (Nat.ne_of_lt (Nat.lt_of_lt_of_le (Heap.lt_size e) hT))]; exact n
  · rw [upd_ne (ne_of_none e hn)]; exact e
  · rw [upd_ne (ne_of_none e hn)]; exact e
  · rw [upd_ne (ne_of_none e hn), e]; simp
  · obtain ⟨o, es, ep, ho, r⟩ := hm
    exact ⟨o, es, ep, k _ o (fun z => (hf _ z).2.1 rfl) ho, r⟩
  · by_cases hb : b = T
    · subst hb
      rw [upd_same] at e
      cases e
      exact new
    · rw [upd_ne hb] at e
      refine (I.hok b u e).stay (fun c v hc q => k c v ?_ q) (fun c q => by rw [upd_ne (ne_of_none q hn)]; exact q) fun c xs q => by rw [upd_ne (ne_of_none q hn)]; exact q
      rcases hc with z | z
      · rw [z]; exact nit b u e
      · exact nit c _ z

/-! ### locking a thing while a statement runs -/
end
section
variable {X : Cx}

/-! ### one iterator just laid -/
end

/-! ### range with a step -/
/-- range(i, j, c): small bounds, n items -/
def RgC (i j c : Int) (n : Nat) : Prop := c ≠ 0 ∧ c.natAbs < 1073741824 ∧ Builtin.Range.small i j c = true ∧ Builtin.Range.rangeSize i j c = n
section
variable {X : Cx} {tg : Expr}
end

/-! ### reversed(list) -/
section
variable {X : Cx} {tg : Expr}
end

/-! ### a str -/

/-! ### a dict's keys: any dict's entries -/
section
variable {prog : Program} {w : World} {A : Around} {E : Value → Shared → Prop} {s : Shared}
end

/-! ### a locked dict -/
section
variable {X : Cx} {pins : List (Addr × Obj)} {σ : St} {H : Hp} {s : Shared} {d : Addr} {o : Obj}
end

section
variable {P : Program} {w : World} {K : PySem.W.Frag} {tg : Expr} {d : Addr} {o : Obj} {es : Array DictEntry} {ep : Nat}
end

/-! ### for k in d, d.keys(), d.values(), d.items() -/
section
variable {X : Cx} {tg e : Expr} {td : TE} {apos cpos : Pos}
end

/-! ### enumerate(list) -/
/-! ### zip(list, list) -/
theorem boot_zip5 : bootBuiltins "zip" = some (.type "zip") := by decide +kernel
/-- the lists at a and b as they stand at each turn, the items in new pairs -/
def Itz (K : PySem.W.Frag) (a b : Addr) : It :=
  ⟨fun i H => ∃ (xs ys : List V) (x y : V), SqL K H a xs ∧ SqL K H b ys ∧ xs[i]? = some x ∧ ys[i]? = some y,
    fun i H v H' => ∃ T x y, v = .ref T ∧ H T = none ∧ H' = upd H T (.tup [x, y]) ∧ (∀ xs, SqL K H a xs → xs[i]? = some x) ∧ ∀ ys, SqL K H b ys → ys[i]? = some y,
    fun i H => ∃ xs ys : List V, SqL K H a xs ∧ SqL K H b ys ∧ (xs.length ≤ i ∨ ys.length ≤ i)⟩
theorem turn_zip {P : Program} {w : World} {K : PySem.W.Frag} {elts : List Expr} {kk : Nat} {tpos : Pos} {a b z TI TO i1 i2 : Addr} (D : ZipApart z TI TO i1 i2 a b) :
    Turn P w K (.Tuple elts kk tpos) (Itz K a b) [z, TI, TO, i1, i2] z (fun i h => IsZip h z TI TO .none ∧ IsPair h TI (.ref i1) (.ref i2) ∧ (∃ x y, IsPair h TO x y) ∧ h.IsListIter i1 a i ∧ h.IsListIter i2 b i) where
  mem := by simp
  obj := fun i h st c hc => by
    obtain ⟨hz, hTI, ⟨x, y, hTO⟩, ⟨o1, e1, _, d1⟩, ⟨o2, e2, _, d2⟩⟩ := st
    have e' : c = z ∨ c = TI ∨ c = TO ∨ c = i1 ∨ c = i2 := by simpa using hc
    rcases e' with q | q | q | q | q
    · rw [q]; exact ⟨_, hz, fun v q => nomatch q⟩
    · rw [q]; exact ⟨_, hTI, fun v q => nomatch q⟩
    · rw [q]; exact ⟨_, hTO, fun v q => nomatch q⟩
    · rw [q]; exact ⟨o1, e1, fun v q => by rw [d1] at q; cases q⟩
    · rw [q]; exact ⟨o2, e2, fun v q => by rw [d2] at q; cases q⟩
  keep := fun i h h' st k => by
    obtain ⟨hz, hTI, ⟨x, y, hTO⟩, h1, h2⟩ := st
    exact ⟨k z (by simp) _ hz, k TI (by simp) _ hTI, ⟨x, y, k TO (by simp) _ hTO⟩, h1.at fun o q => k i1 (by simp) o q, h2.at fun o q => k i2 (by simp) o q⟩
  item := by
    intro X hP hw hK hc i pins s σ H E I hf st hg
    subst hP hw hK
    obtain ⟨hz, hTI, ⟨x0, y0, hTO⟩, h1, h2⟩ := st
    obtain ⟨xs, ys, x, y, hqx, hqy, hx, hy⟩ := hg
    obtain ⟨its, rv, p, _⟩ := I.list hqx
    obtain ⟨its2, rv2, p2, _⟩ := I.list hqy
    obtain ⟨u, hu, ru⟩ := rv.get hx
    obtain ⟨u2, hu2, ru2⟩ := rv2.get hy
    have hzl : z < s.heap.objs.size := Heap.lt_size hz
    refine wpAny_pyNext_zip_item D hz hTI hTO h1 h2 p.isList p2.isList (x := u) (y := u2) (by simpa using hu) (by simpa using hu2) fun h' z' TO' h1' h2' hT hsz hk => ?_
    refine ⟨_, rfl, wpAny_letOwnedTupleGo_zip (s := { s with heap := h' }) z' fun h'' z'' sb => ?_⟩
    have hT2 : h''.get? s.heap.objs.size = some { cls := .type "tuple", data := .seq #[u, u2] } := (sb.2 _ (Nat.ne_of_gt hzl)).trans hT
    have new : ObjOk X.prog X.w (upd H s.heap.objs.size (.tup [x, y])) h'' s.heap.objs.size (.tup [x, y]) :=
      ⟨by show 2 ≤ sizeLine; decide, [u, u2], .cons ru (.cons ru2 .nil), ⟨_, hT2, rfl, _, rfl⟩⟩
    have I1 : Inv X pins σ (upd H s.heap.objs.size (.tup [x, y])) { s with heap := h'' } :=
      I.turnedNew (t' := s.toks) (ch := [z, TI, TO, i1, i2]) (fun c o hb q => (sb.2 c (fun q' => hb (by simp [q']))).trans (hk c o (fun q' => hb (by simp [q'])) (fun q' => hb (by simp [q'])) (fun q' => hb (by simp [q'])) (fun q' => hb (by simp [q'])) q)) hf (Nat.le_refl _) new
    refine ⟨.ref s.heap.objs.size, _, I1, rfl, ⟨_, x, y, rfl, I.hok.fresh (Nat.le_refl _), rfl, fun l hl => by rw [I.list_inj hl hqx]; exact hx, fun l hl => by rw [I.list_inj hl hqy]; exact hy⟩, ⟨z'', ?_, ⟨u, u2, ?_⟩, ?_, ?_⟩, fun c hcm => ?_⟩
    · exact (sb.2 _ D.TIz).trans (hk _ _ D.TIz D.TITO D.TIi1 D.TIi2 hTI)
    · exact (sb.2 _ D.TOz).trans TO'
    · exact h1'.at fun o q => (sb.2 _ D.i1z).trans q
    · exact h2'.at fun o q => (sb.2 _ D.i2z).trans q
    · have hlt : c < s.heap.objs.size := by
        have e' : c = z ∨ c = TI ∨ c = TO ∨ c = i1 ∨ c = i2 := by simpa using hcm
        rcases e' with q | q | q | q | q
        · rw [q]; exact hzl
        · rw [q]; exact Heap.lt_size hTI
        · rw [q]; exact Heap.lt_size hTO
        · rw [q]; obtain ⟨_, e1, _⟩ := h1; exact Heap.lt_size e1
        · rw [q]; obtain ⟨_, e2, _⟩ := h2; exact Heap.lt_size e2
      rw [upd_ne (Nat.ne_of_lt hlt)]
      exact (hf c hcm).1
  done := by
    intro X hP hw hK hc i pins s σ H E I hf st hg
    subst hP hw hK
    obtain ⟨hz, hTI, ⟨x0, y0, hTO⟩, h1, h2⟩ := st
    obtain ⟨xs, ys, hqx, hqy, hend⟩ := hg
    obtain ⟨its, rv, p, _⟩ := I.list hqx
    obtain ⟨its2, rv2, p2, _⟩ := I.list hqy
    have l1 := rv.length
    have l2 := rv2.length
    have he : its.toArray[i]? = none ∨ its2.toArray[i]? = none := by
      rcases hend with q | q
      · exact .inl (by simp; omega)
      · exact .inr (by simp; omega)
    exact wpAny_pyNext_zip_end (I.ok.hd hc) D hz hTI hTO h1 h2 p.isList p2.isList he fun h' hk => ⟨rfl, I.turnedL (t' := s.toks) (ch := [z, TI, TO, i1, i2]) (fun c o hb q =>
      hk c o (fun q' => hb (by simp [q'])) (fun q' => hb (by simp [q'])) (fun q' => hb (by simp [q'])) (fun q' => hb (by simp [q'])) q) hf⟩
  self := fun A i s Q E st h => wpAny_pyIter_zip st.1 h
def iZip (K : PySem.W.Frag) (ta : TA) : TI := fun σ H R => ta σ H fun vs H1 => ∃ a b xs ys, vs = [.ref a, .ref b] ∧ SqL K H1 a xs ∧ SqL K H1 b ys ∧ R (Itz K a b) H1
theorem pi_zip {X : Cx} {e e2 : Expr} {ta : TA} {p pos tpos : Pos} {elts : List Expr} {kk : Nat} (hg : Gl X "zip") (hm : X.mg "zip" = none) (ha : PA X [e, e2] ta)
    (hs : starEach [e, e2] X.env = (false, eval e X.env) :: starEach [e2] X.env := by rfl) (hpl : (backTo pos (starEach [e2] X.env)).any (·.1) = false := by rfl) :
    PI X (.Tuple elts kk tpos) (.Call (.Name "zip" p) [e, e2] [] pos) (iZip X.K ta) := by
  intro pins s σ H R I h
  refine Call_ (ld_blt I hg hm boot_zip5 (PyProof.Rows.callWith_type1 (thn (ha pos pins s σ H _ I h) fun us s1 ⟨vs, H1, I1, r1, q1⟩ => ?_) hs hpl))
  obtain ⟨a, b, xs, ys, ex, hqx, hqy, q⟩ := q1
  subst ex
  cases r1 with
  | cons r rr =>
    cases rr with
    | cons r' rr =>
      cases rr
      cases r
      cases r'
      obtain ⟨its, rv, p1, _⟩ := I1.list hqx
      obtain ⟨its2, rv2, p2, _⟩ := I1.list hqy
      have la : a < s1.heap.objs.size := p1.lt
      have lb : b < s1.heap.objs.size := p2.lt
      refine call_zip_2 p1.isList p2.isList fun h' hz hTI hTO h1 h2 hsz hk => wpAny_pyIter_zip hz ?_
      have I2 : Inv X pins σ H1 { s1 with heap := h' } := I1.kept (t' := s1.toks) hk
      refine ⟨s1.heap.objs.size + 4, [s1.heap.objs.size + 4, s1.heap.objs.size + 2, s1.heap.objs.size + 3, s1.heap.objs.size, s1.heap.objs.size + 1], _, _, H1, rfl, I2, turn_zip (PySem.W.ktu_apart s1.heap.objs.size a b la lb), ⟨hz, hTI, ⟨_, _, hTO⟩, h1, h2⟩, fun c hcm => ?_, q⟩
      have e' : c = s1.heap.objs.size + 4 ∨ c = s1.heap.objs.size + 2 ∨ c = s1.heap.objs.size + 3 ∨ c = s1.heap.objs.size ∨ c = s1.heap.objs.size + 1 := by simpa using hcm
      have hle : s1.heap.objs.size ≤ c := by
        rcases e' with z | z | z | z | z
        · rw [z]; exact Nat.le_add_right _ _
        · rw [z]; exact Nat.le_add_right _ _
        · rw [z]; exact Nat.le_add_right _ _
        · rw [z]; exact Nat.le_refl _
        · rw [z]; exact Nat.le_add_right _ _
      exact I1.fpOk hle (I1.hok.fresh hle)
end L2

section 
namespace Bits
open PySem PyProof.Rows

end Bits
end 

section 
namespace TL
open PySem PySem.Builtin PySem.Builtin.Str PySem.StrLaws

abbrev tl (x : Str) : List Nat := x.cps.toList
theorem len_tl (x : Str) : x.length = (tl x).length := by simp [tl, Str.length]
theorem ext_tl {x y : Str} (h : tl x = tl y) : x = y := Str.ext' (Array.toList_inj.mp h)
theorem tl_append (x y : Str) : tl (x ++ y) = tl x ++ tl y := by
  show (x ++ y).cps.toList = _
  rw [Str.cps_append, Array.toList_append]
theorem tl_mk (l : List Nat) : tl ⟨l.toArray⟩ = l := rfl
theorem tl_ofString (s : String) : tl (Str.ofString s) = s.toList.map Char.toNat := PyProof.Rows.signs_ofString s

/-! ### the list functions -/

/-! ### the model's split and partition are these -/

/-! ### computing spl and par -/

/-- joined lists -/
def joinL (S : List Nat) : List (List Nat) → List Nat
  | [] => []
  | [p] => p
  | p :: q :: r => p ++ (S ++ joinL S (q :: r))
theorem tl_join (y : Str) : ∀ parts : List Str, tl (Str.join y parts) = joinL (tl y) (parts.map tl)
  | [] => rfl
  | [_] => rfl
  | x :: z :: r => by
    show tl (x ++ y ++ Str.join y (z :: r)) = tl x ++ (tl y ++ joinL (tl y) ((z :: r).map tl))
    rw [tl_append, tl_append, tl_join y (z :: r), List.append_assoc]
theorem join_eq (y : Str) (parts : List Str) : Txt.join y parts = Str.join y parts := glued_eq_join y parts

/-! ### digits -/

/-! ### words: x.split() -/
end TL
end 

namespace L2
open PySem PySem.Spec PyProof.Rows

theorem strs_of_vals : ∀ {ys : List Str} {us : List Value}, Vals (ys.map V.str) us → StrsAre us ys
  | [], _, .nil => .nil
  | y :: ys, _, .cons r t => by
    obtain ⟨k, rfl⟩ := r
    exact .cons y k (strs_of_vals t)

section
variable {X : Cx} {pins : List (Addr × Obj)} {σ : St} {H : Hp} {s : Shared} {Q : VK}
end

section
variable {X : Cx}

/-- sep.join(a list | a tuple of texts) -/
theorem mt_join : MtR X "str.join" (fun x xs H Q => ∃ a p, ∃ ys : List Str, x = .str a ∧ xs = [.ref p] ∧ (SqL X.K H p (ys.map V.str) ∨ SqT X.K H p (ys.map V.str)) ∧
    (ys.map (·.length)).sum + ys.length * a.length ≤ 16777216 ∧ Q (.str (Txt.join a ys)) H) := by
  intro pins s σ H x xs v us Q I rx rs h
  obtain ⟨a, p, ys, rfl, rfl, hp, hz, h⟩ := h
  obtain ⟨t, rfl⟩ := rx
  cases rs with
  | cons r1 rs =>
    cases rs
    cases r1
    rcases hp with hp | hp
    · obtain ⟨its, r, ⟨o, n, ho, hc, _, hd⟩, _⟩ := I.list hp
      exact PyProof.Rows.join_list (items := its.toArray) ⟨o, ho, hc, n, hd⟩ (by rw [List.toList_toArray]; exact strs_of_vals r) hz fun t' k => ⟨.str _, H, I.tok k, ⟨t', rfl⟩, h⟩
    · obtain ⟨its, r, ht, _⟩ := I.tuple hp
      exact PyProof.Rows.join_tuple (items := its.toArray) ht (by rw [List.toList_toArray]; exact strs_of_vals r) hz fun t' k => ⟨.str _, H, I.tok k, ⟨t', rfl⟩, h⟩

/-! ### of a text alone -/

/-! ### of a text and a text -/

end

section
variable {X : Cx} {o e : Expr} {to te : TE}
def tM1 (r : V → List V → Hp → VK → Prop) (to te : TE) : TE := fun σ H Q => to σ H fun x H1 => (∃ a, x = .str a) ∧ te σ H1 fun y H2 => r x [y] H2 Q
theorem pe_m1 {id : String} {name : Str} {apos pos : Pos} {r : V → List V → Hp → VK → Prop} (slot : Slot "str" name id) (ty : typeOf (.builtin id) = pure (.type "method_descriptor")) (rule : MtR X id r) (ho : PE X o to) (he : PE X e te)
    (hs : starEach [e] X.env = [(false, eval e X.env)] := by rfl) (hbase : attributeBase o name X.env (eval o X.env) = eval o X.env := by rfl) (hline : (apos.endLine == pos.line) = true := by rfl) :
    PE X (.Call (.Attribute o name apos) [e] [] pos) (tM1 r to te) := by
  intro pins s σ H Q I h
  refine PySem.Call_method1 hbase hs hline (thn (ho pins s σ H _ I h) fun v s1 ⟨x, H1, I1, r1, q1⟩ => ?_)
  obtain ⟨⟨a, rfl⟩, q1⟩ := q1
  obtain ⟨t, rfl⟩ := _root_.id r1
  refine ⟨"str", _, F.plainAttrs_str, slot, ty, typeIs_str _ _ _, (fun _ e => nomatch e), Calls.callWith_builtin rfl (Calls.evalArgs_plain (Calls.spliced_cons ?_))⟩
  exact thn (he pins s1 σ H1 _ I1 q1) fun u s2 ⟨y, H2, I2, r2, q2⟩ => Calls.spliced_nil (rule pins s2 σ H2 _ [y] _ [u] Q I2 r1 (.cons r2 .nil) q2)

theorem pe_join {apos pos : Pos} (ho : PE X o to) (he : PE X e te) (hs : starEach [e] X.env = [(false, eval e X.env)] := by rfl) (hbase : attributeBase o "join" X.env (eval o X.env) = eval o X.env := by rfl) (hline : (apos.endLine == pos.line) = true := by rfl) :
    PE X (.Call (.Attribute o "join" apos) [e] [] pos) (tM1 (fun x xs H Q => ∃ a p, ∃ ys : List Str, x = .str a ∧ xs = [.ref p] ∧ (SqL X.K H p (ys.map V.str) ∨ SqT X.K H p (ys.map V.str)) ∧
      (ys.map (·.length)).sum + ys.length * a.length ≤ 16777216 ∧ Q (.str (Txt.join a ys)) H) to te) :=
  pe_m1 F.slot_str_join F.type_str_join mt_join ho he hs hbase hline
end
end L2

namespace L2
open PySem PySem.Spec PyProof.Rows

section
variable {X : Cx}
end

/-! ### slices of a text -/

end L2

namespace Att
open PySem PySem.W PySem.Calls PyProof.Rows

/-! ### the script -/
theorem ints_of_wellAll {P : Params} {h : Heap} : ∀ (ns : List Int) (vs : List Value), WellAll P h vs (ns.map WData.int) → IntsAre vs ns := by
  intro ns
  induction ns with
  | nil =>
    intro vs w
    rw [List.map_nil] at w
    cases w
    exact .nil
  | cons n ns ih =>
    intro vs w
    rw [List.map_cons] at w
    cases w with
    | cons a b =>
      cases a
      exact .cons _ _ (ih _ b)

/-! ### the attachment: holds_open's last premise (the goal 'hc' behind k_head) from a wpAny of the law's body -/

/-! ### rules over ANY heap (no ledger) from facts about the written part K: the library's own take a ledger (News) for what they write -/
section
variable {prog : Program} {w : World} {A : Around} {E : Value → Shared → Prop} {s : Shared} {K : Frag}

/-! the whole heap as the ledger: makes every rule that writes through a ledger a rule over any heap -/

end
end Att

namespace L2
open PySem PySem.Spec PyProof.Rows

theorem vals_ints : ∀ {vs : List Value} {ns : List Int}, IntsAre vs ns → Vals (ns.map V.int) vs
  | _, _, .nil => .nil
  | _, _, .cons n t h => .cons ⟨t, rfl⟩ (vals_ints h)

/-- nothing is tracked but the script, known to the object (or it is an object of the module) -/
def Only (H : Hp) : Prop := ∀ b, H b = none ∨ ∃ o xs, H b = some (.frz o (.lst xs))

end L2

namespace L2
open PySem PySem.Spec PyProof.Rows

end L2

/- THE LAST THEOREM (shape; LID, My.* are yours):
   My.Adr: a structure of the addresses that your layer names (classes, functions); My.Txt K t: a structure (Prop) of the equations over K;
   My.txt_mk : {K} {implicit addresses ..} (e1 : nsIn K mainGlobals "law" = some (some (.ref f))) (e2 : K.lookup f = some ⟨oc, od, .func (fnOf "law" "law" params body scope dV kV doc pm an cdv ct), sl⟩) (e3 : codeIn K cdv "law" = true) .. : ∃ t, My.Txt K t

set_option maxRecDepth 100000 in
set_option maxHeartbeats 0 in
theorem PySem.Challenge.cw_LID_holds : PySem.Challenge.rw_LID.Holds := by
  w_on; o_law; k_head; (case hw => w_witness2)
  k_fill
  refine L2.walk_of (l := PySem.Challenge.rw_LID) (n := 63) (k := 40) (x := "script") (CX := fun w => ..) (sp := fun _ => My.sp_law) rfl (by decide) rfl ⟨rfl, by decide, by decide⟩ (fun w h Y => PySem.W.kIn_of Y) ?F ?S ?C
  case F =>
    intro w mg fa h KX G hmg
    have T : ∃ t, My.Txt (L2.KOf KX) t := by
      dsimp only [L2.KOf]                          -- K must stand as «<heap const> w.params» for k_is
      refine' My.txt_mk ?e1 ?e2 ?e3 ..
      (case e1 => PySem.W.k_is)                    -- in the order: a name -> its address -> its object -> its parts
      (case e2 => PySem.W.k_is)
      ..
    obtain ⟨t, T⟩ := T
    have e0 := hmg.symm.trans (PySem.W.mg_of KX G T.law)
    cases e0                                       -- fa is the law's own address
    exact ⟨_, fun s u => .of_eq rfl, fun base kb nb => My.law_fn T kb nb⟩     -- if «.of_eq rfl» comes too early: refine' ⟨_, ?b, fun base kb nb => My.law_fn T kb nb⟩; exact fun s u => .of_eq rfl
  case S => exact fun w H a ns hl hO hS => ..
  case C => exact ..
(the tactic k_is has no namespace: write k_is) -/

/-! SHORT WORDS over the layer: a def of the text, its body, what a loop and a test want. -/
namespace L2
open PySem PySem.Spec PyProof.Rows

/-! ### the text by places -/
/-- the j-th statement of a class's body -/
def inClass (s : Stmt) (j : Nat) : Stmt := match s with
  | .ClassDef _ _ _ body _ _ _ _ _ _ _ => body.getD j (.Pass ⟨0, 0, 0, 0⟩)
  | _ => .Pass ⟨0, 0, 0, 0⟩
def defArgs (s : Stmt) : Arguments := match s with
  | .FunctionDef _ a _ _ _ _ _ _ _ _ => a
  | _ => { posonlyargs := [], args := [], vararg := none, kwonlyargs := [], kw_defaults := [], kwarg := none, defaults := [] }
def defBody (s : Stmt) : List Stmt := match s with
  | .FunctionDef _ _ b _ _ _ _ _ _ _ => b
  | _ => []
def defScope (s : Stmt) : Scope := match s with
  | .FunctionDef _ _ _ _ _ _ sc _ _ _ => sc
  | _ => { kind := .function, names := [], isGenerator := false, isCoroutine := false }

/-! ### no exception leaves a def -/
abbrev CX0 : CXT := fun _ _ _ _ _ _ => False
abbrev E0 : XK := fun _ _ _ => False
theorem pass0 {X : Cx} : Passes CX0 X E0 := fun _ _ _ _ _ _ _ h => h.elim

/-! ### a def (or method) of the text as it stands behind the top -/
structure Fun (K : PySem.W.Frag) (x qual : Str) (st : Stmt) (f : Addr) (fd : FuncData) : Prop where
  ex : ∃ (oc : Value) (od : Option Addr) (kV doc pm : Value) (an : Option Addr) (cdv ct : Value) (osl : Array (Option Value)),
    fd = PySem.W.fnOf x qual (defArgs st) (defBody st) (defScope st) .none kV doc pm an cdv ct ∧ K.lookup f = some ⟨oc, od, .func fd, osl⟩ ∧ PySem.W.codeIn K cdv qual = true
  kp : PySem.W.keepIn K (.ref f) = true
section
variable {P : Program} {w : World} {K : PySem.W.Frag} {mg : Str → Option Value} {base : Heap}
/-- THE RULE for a def: its body as a term of rules, and the reading of that term -/
theorem Fun.ok {x qual : Str} {st : Stmt} {f : Addr} {fd : FuncData} {N ps : List Str} {k : Nat} {sp : Sp} (F : Fun K x qual st f fd) (S : FnScope N ps (defScope st)) (len : ∀ vs H Q E, sp vs H Q E → vs.length = ps.length)
    (hbody : ∀ (cdv : Value) (A : Around) (outer : List Env) (s : Shared) (H : Hp) (vs : List V) (Q : VK) (E : XK), Room k (A.deeper (envOfC qual (defScope st) s.heap.objs.size f cdv)) → sp vs H Q E →
      ∃ t, PSs (cxOf CX0 P w K mg base N qual (defScope st) f cdv A outer s H E).nox (defBody st) t ∧ t { nx := fun _ H' => Q .non H', rt := Q } (start N vs) H) : FnOk P w K mg base CX0 (k + 1) f fd ps sp := by
  obtain ⟨oc, od, kV, doc, pm, an, cdv, ct, osl, rfl, lk, hcd⟩ := F.ex
  refine fn_of lk hcd S len fun A outer s H vs Q E hr hsp => ?_
  obtain ⟨t, h, q⟩ := hbody cdv A outer s H vs Q E hr hsp
  exact ⟨t, h.nox, q⟩
/-- how its arguments bind (no defaults): h is «fun _ _ _ _ _ _ us hl => match us, hl with | [_, _], _ => rfl», one _ a parameter -/
theorem Fun.binds {x qual : Str} {st : Stmt} {f : Addr} {fd : FuncData} {ps : List Str} (F : Fun K x qual st f fd)
    (h : ∀ (kV doc pm : Value) (an : Option Addr) (cdv ct : Value) (us : List Value), us.length = ps.length → bindArgs (PySem.W.fnOf x qual (defArgs st) (defBody st) (defScope st) .none kV doc pm an cdv ct) ⟨us, []⟩ = pure (ps.zip us)) : Binds K fd ps [] := by
  obtain ⟨oc, od, kV, doc, pm, an, cdv, ct, osl, rfl, lk, hcd⟩ := F.ex
  exact .all (h kV doc pm an cdv ct)
theorem fun_mk {x qual : Str} {st : Stmt} {f : Addr} {oc : Value} {od an : Option Addr} {osl : Array (Option Value)} {kV doc pm cdv ct : Value} (l : K.lookup f = some ⟨oc, od, .func (PySem.W.fnOf x qual (defArgs st) (defBody st) (defScope st) .none kV doc pm an cdv ct), osl⟩)
    (c : PySem.W.codeIn K cdv qual = true) (k : PySem.W.keepIn K (.ref f) = true) : Fun K x qual st f (PySem.W.fnOf x qual (defArgs st) (defBody st) (defScope st) .none kV doc pm an cdv ct) := ⟨⟨oc, od, kV, doc, pm, an, cdv, ct, osl, rfl, l, c⟩, k⟩
end
theorem small1000 {n : Nat} (h : n ≤ 1000) : n < sizeLine := Nat.lt_of_le_of_lt h (by decide)

/-! ### expressions in short: the name that stands in the i-th slot -/
section
variable {X : Cx}
theorem pv (i : Nat) {x : Str} {pos : Pos} (hN : X.N[i]? = some x := by rfl) (hv : Vis X.env.scope x := by first | exact Or.inl rfl | exact Or.inr (Or.inl rfl) | exact Or.inr (Or.inr rfl)) (hd : (x == ("__debug__" : Str)) = false := by decide)
    (hcd : (x == ("__classdict__" : Str)) = false := by decide) : PE X (.Name x pos) (tVar i) := pe_var hN hv hd hcd
end

/-! ### tests -/
theorem iteF {A B : Prop} (h : B) : if false = true then A else B := by
  rw [if_neg Bool.false_ne_true]
  exact h
theorem iteT {A B : Prop} (h : A) : if true = true then A else B := by
  rw [if_pos rfl]
  exact h
theorem ite2 {c A B : Prop} [Decidable c] (h1 : c → A) (h2 : ¬ c → B) : if c then A else B := by
  by_cases h : c
  · rw [if_pos h]
    exact h1 h
  · rw [if_neg h]
    exact h2 h

/-! ### heaps -/
/-- all that was tracked is as it was -/
def Same (H H' : Hp) : Prop := ∀ b o, H b = some o → H' b = some o

/-! ### a dict's pairs: keys that differ -/
section
variable {κ : Type} [DecidableEq κ]
end
/-! ### lists -/
/-- a new instance and its __init__ leave all that was tracked as it was -/
theorem Same.made {H H1 : Hp} {x dx C : Addr} (nx : H x = Option.none) (nd : H dx = Option.none) (k : ∀ b o, (upd (upd H dx (.own x)) x (.ins C dx [])) b = some o → b ≠ x → H1 b = some o) : Same H H1 := fun b o e =>
  k b o (by rw [upd_ne (ne_of_none e nx), upd_ne (ne_of_none e nd)]; exact e) (ne_of_none e nx)
end L2

namespace L2
open PySem

/-! ### an exception passes a frame: what is changed, to the object -/
section
variable {M : Model} {A : Around} {E : Value → Shared → Prop} {s : Shared}

/-- how the heap stands behind a frame that an exception at e has passed; told: e's own traceback so far -/
structure Passed (fr : List Addr) (e : Addr) (oe : Obj) (vs : Array Value) (h h' : Heap) : Prop where
  keep : ∀ b o, h.get? b = some o → b ≠ e → (∀ T, vs[1]? = some (.ref T) → b ≠ T) → b ∉ fr → h'.get? b = some o
  slot : ∀ b o, h.get? b = some o → b ∈ fr → ∃ sl, h'.get? b = some { o with slots := sl }
  stay : ∀ b o, h.get? b = some o → ∃ o', h'.get? b = some o'
  exc : ∃ T oT ts, h'.get? e = some (oe.mapFields (·.setIfInBounds 1 (.ref T))) ∧ h.get? T = none ∧ T ≠ e ∧ h'.get? T = some oT ∧ oT.data = .fields ts ∧ ts[3]? = some .none

theorem entry_x {base : Heap} {env : Env} {outer : List Env} {L e : Addr} {oe : Obj} {vs : Array Value} {hd0 : Value} {nx : Bool} {Q : Unit → Shared → Prop}
    (hfr : A.frames = some (env :: outer)) (hl : s.heap.FunFrames base (env :: outer)) (hf : env.frame = some L) (he : s.heap.get? e = some oe) (hd : oe.data = .fields vs) (hsz : 1 < vs.size)
    (h : ∀ h', (∀ b o, s.heap.get? b = some o → b ≠ e → b ∉ (env :: outer).filterMap (·.frame) → h'.get? b = some o) →
      (∀ b o, s.heap.get? b = some o → b ∈ (env :: outer).filterMap (·.frame) → ∃ sl, h'.get? b = some { o with slots := sl }) →
      (∃ T oT ts, h'.get? e = some (oe.mapFields (·.setIfInBounds 1 (.ref T))) ∧ s.heap.objs.size ≤ T ∧ T ≠ e ∧ h'.get? T = some oT ∧ oT.data = .fields ts ∧ ts[3]? = some .none) → Q () { s with heap := h' }) :
    wpAny M A (do let a ← frameOf env; let pl ← entryPlaceOf L nx; let b ← EntryCells.newEntry hd0 a .none (rawInt L) .none pl; setField (.ref e) 1 b) (fun _ s' => wpAny M A (setFlight (.ref e) none) Q E s') E s := by
  have nfr : e ∉ (env :: outer).filterMap (·.frame) := by
    intro hm
    obtain ⟨_, o, ho, hn⟩ := hl.mem hm
    rw [he] at ho
    cases ho
    exact hn vs hd
  refine wpAny_bind (wpAny_frameOf_fun hfr hl hf ?_)
  intro g1 hs1
  refine wpAny_bind (wpAny_entryPlaceOf ?_)
  intro pl hpl
  unfold EntryCells.newEntry newFields
  refine wpAny_bind (wpAny_newObj_type ?_ (hpl.sizeOk5 _ _ _ _ _))
  have e1 : g1.get? e = some oe := (hs1.2.1 e nfr).trans he
  generalize hob : ({ cls := .type "traceback", dict := none, data := .fields ([hd0, .ref L, .none, rawInt L, .none] ++ (if pl.isEmpty then List.replicate 6 Value.none else pl)).toArray } : Obj) = tbo
  have e2 : (g1.push tbo).get? e = some oe := Heap.get?_push_of_some tbo e1
  refine wpAny_setField e2 hd hsz ?_
  have neT : g1.objs.size ≠ e := Nat.ne_of_gt (Heap.lt_size e1)
  have d3 := Obj.data_mapFields hd (·.setIfInBounds 1 (Value.ref g1.objs.size))
  have e3 := Heap.get?_update_self (Obj.mapFields (·.setIfInBounds 1 (Value.ref g1.objs.size))) e2 (Obj.isFreed_of_fields d3)
  have t3 : ((g1.push tbo).update e (Obj.mapFields (·.setIfInBounds 1 (Value.ref g1.objs.size)))).get? g1.objs.size = some tbo :=
    (Heap.get?_update_other _ _ (Ne.symm neT)).trans (Heap.get?_push_size g1 (by rw [← hob]; rfl))
  unfold setFlight
  refine wpAny_bind (wpAny_field e3 d3 (x := .ref g1.objs.size) (by simp [hsz]) ?_)
  rw [if_pos (by simp : (Value.ref g1.objs.size != Value.none) = true)]
  have dT : tbo.data = .fields ([hd0, .ref L, .none, rawInt L, .none] ++ (if pl.isEmpty then List.replicate 6 Value.none else pl)).toArray := by rw [← hob]
  have z3 : 3 < ([hd0, .ref L, .none, rawInt L, .none] ++ (if pl.isEmpty then List.replicate 6 Value.none else pl)).toArray.size := by
    simp only [List.size_toArray, List.length_append, List.length_cons, List.length_nil]
    omega
  refine wpAny_setField t3 dT z3 (h _ ?_ ?_ ?_)
  · intro b o hb hbe hbf
    have hb1 : g1.get? b = some o := (hs1.2.1 b hbf).trans hb
    rw [Heap.get?_update_other _ _ (Nat.ne_of_gt (Heap.lt_size hb1)), Heap.get?_update_other _ _ (Ne.symm hbe)]
    exact Heap.get?_push_of_some _ hb1
  · intro b o hb hbf
    obtain ⟨sl, hsl⟩ := hs1.2.2 b o hb
    have hbe : b ≠ e := fun q => nfr (q ▸ hbf)
    refine ⟨sl, ?_⟩
    rw [Heap.get?_update_other _ _ (Nat.ne_of_gt (Heap.lt_size hsl)), Heap.get?_update_other _ _ (Ne.symm hbe)]
    exact Heap.get?_push_of_some _ hsl
  · refine ⟨g1.objs.size, _, _, ?_, Nat.le_of_eq hs1.1.symm, neT, Heap.get?_update_self _ t3 (Obj.isFreed_of_fields (Obj.data_mapFields dT _)), Obj.data_mapFields dT _, ?_⟩
    · rw [Heap.get?_update_other _ _ neT]
      exact e3
    · rw [Array.getElem?_setIfInBounds_self_of_lt z3]
      rfl

theorem note_x {base : Heap} {env : Env} {outer : List Env} {L e : Addr} {oe : Obj} {vs : Array Value} {Q : Unit → Shared → Prop}
    (hfr : A.frames = some (env :: outer)) (hl : s.heap.FunFrames base (env :: outer)) (hf : env.frame = some L) (he : s.heap.get? e = some oe) (hd : oe.data = .fields vs)
    (ht : vs[1]? = some .none ∨ ∃ T oT ts, vs[1]? = some (.ref T) ∧ T ≠ e ∧ s.heap.get? T = some oT ∧ oT.data = .fields ts ∧ ts[3]? = some .none)
    (h : ∀ h', Passed ((env :: outer).filterMap (·.frame)) e oe vs s.heap h' → Q () { s with heap := h' }) :
    wpAny M A (noteFrame (.ref e) env) (fun _ s' => wpAny M A (setFlight (.ref e) none) Q E s') E s := by
  unfold noteFrame
  simp only [hf]
  rcases ht with h1 | ⟨T, oT, ts, h1, hTe, hT, hdT, h3⟩
  · refine wpAny_bind (wpAny_field he hd h1 ?_)
    rw [if_neg (by decide)]
    refine entry_x hfr hl hf he hd (Array.getElem?_eq_some_iff.mp h1).1 fun h' k1 k2 k3 => h h' ⟨fun b o hb hbe _ hbf => k1 b o hb hbe hbf, k2, fun b o hb => ?_, ?_⟩
    · by_cases hbe : b = e
      · obtain ⟨T, _, _, x, _⟩ := k3
        exact ⟨_, hbe ▸ x⟩
      · by_cases hbf : b ∈ (env :: outer).filterMap (·.frame)
        · obtain ⟨sl, x⟩ := k2 b o hb hbf
          exact ⟨_, x⟩
        · exact ⟨_, k1 b o hb hbe hbf⟩
    · obtain ⟨T, oT, ts, x1, x2, x3, x4⟩ := k3
      exact ⟨T, oT, ts, x1, Heap.get?_none_of_le x2, x3, x4⟩
  · refine wpAny_bind (wpAny_field he hd h1 ?_)
    rw [if_pos (by simp : (Value.ref T != Value.none) = true)]
    refine wpAny_bind (wpAny_field hT hdT h3 ?_)
    rw [if_neg (by simp [rawInt] : ¬ ((Value.none == rawInt L) = true))]
    refine wpAny_bind (wpAny_setField hT hdT (Array.getElem?_eq_some_iff.mp h3).1 ?_)
    have other : ∀ b, b ≠ T → (s.heap.update T (Obj.mapFields (·.setIfInBounds 3 Value.none))).get? b = s.heap.get? b := fun b hb => Heap.get?_update_other _ _ (Ne.symm hb)
    have noT : ∀ b o, s.heap.get? b = some o → (∀ us, o.data ≠ .fields us) → b ≠ T := fun b o hb hn q => by
      rw [q, hT] at hb
      cases hb
      exact hn ts hdT
    have frT : ∀ b, b ∈ (env :: outer).filterMap (·.frame) → b ≠ T := fun b hb => by
      obtain ⟨_, o, ho, hn⟩ := hl.mem hb
      exact noT b o ho hn
    have hT' := Heap.get?_update_self (Obj.mapFields (·.setIfInBounds 3 Value.none)) hT (Obj.isFreed_of_fields (Obj.data_mapFields hdT _))
    refine entry_x (base := base) hfr (hl.of_keeps fun b o hb hn => ⟨o, (other b (noT b o hb hn)).trans hb, rfl⟩) hf ((other e (Ne.symm hTe)).trans he) hd (Array.getElem?_eq_some_iff.mp h1).1 fun h' k1 k2 k3 => h h' ⟨fun b o hb hbe hbT hbf => k1 b o ((other b (hbT T h1)).trans hb) hbe hbf, fun b o hb hbf => k2 b o ((other b (frT b hbf)).trans hb) hbf, fun b o hb => ?_, ?_⟩
    · by_cases hbT : b = T
      · subst hbT
        have hbf : b ∉ (env :: outer).filterMap (·.frame) := fun q => frT b q rfl
        exact ⟨_, k1 b _ hT' hTe hbf⟩
      · by_cases hbe : b = e
        · obtain ⟨T', _, _, x, _⟩ := k3
          exact ⟨_, hbe ▸ x⟩
        · by_cases hbf : b ∈ (env :: outer).filterMap (·.frame)
          · obtain ⟨sl, x⟩ := k2 b o ((other b hbT).trans hb) hbf
            exact ⟨_, x⟩
          · exact ⟨_, k1 b o ((other b hbT).trans hb) hbe hbf⟩
    · obtain ⟨T', oT', ts', x1, x2, x3, x4⟩ := k3
      have : s.heap.objs.size ≤ T' := by
        have q : (s.heap.update T (Obj.mapFields (·.setIfInBounds 3 Value.none))).objs.size = s.heap.objs.size := Heap.size_after_update ..
        rw [← q]; exact x2
      exact ⟨T', oT', ts', x1, Heap.get?_none_of_le this, x3, x4⟩
end
end L2

namespace L2
open PySem
open Builtin Builtin.ObjectAttr

/-! ### an own error class right under Exception: its objects' attributes, its raise -/
abbrev bmE : List Value := [.type "Exception", .type "BaseException", .type "object"]
/-- the class's own object -/
def ExcCls (h : Heap) (C N : Addr) : Prop := ∃ nm q bs sn sub ab col dd k0 k1 k2 k3 k5 newId, newId = "Exception.__new__" ∧ h.get? C = some (excClassObj nm q C N bs bmE true sn sub ab col dd k0 k1 k2 k3 k5 newId)

section
variable {prog : Program} {w : World} {A : Around} {E : Value → Shared → Prop} {h : Heap} {g : Array GenState} {d : Drawn} {t : Nat} {os : OsState}
variable {C N x : Addr} {mN : Str → Option Value} {name : Str} {v : Value}

variable {nm q : Str} {bs bm : List Value} {sn : List Str} {sub : List Value} {ab : Bool} {col : Option Bool} {dd : Option Addr} {k0 k1 k2 k3 k5 : Option Value} {B newId sa owner : String}
theorem exc_store (SF : StoreFacts B bm sa owner) {tk : Tok} {o : Obj} {vs : Array Value} {Q : Fin → Shared → Prop} (hC : h.get? C = some (excClassObj nm q C N bs bm true sn sub ab col dd k0 k1 k2 k3 k5 newId)) (hn : h.Ns N mN) (hna : mN name = none) (hB : typeLookup (.type B) name = pure none)
    (hx : h.get? x = some o) (hc : o.cls = .ref C) (hdn : o.dict = none) (hdt : o.data = .fields vs)
    (hq : ∀ h' tk', h'.get? x = some { o with dict := some h.objs.size } → h'.Ns1 h.objs.size (fun y => if y = name then some v else none) → (∀ b ob, b ≠ x → h.get? b = some ob → h'.get? b = some ob) → Q (.done (.ret .none)) ⟨h', g, d, tk', os⟩) :
    wpAny (model prog w) A (Builtin.«object.__setattr__» ⟨[.ref x, .str name tk, v], []⟩) Q E ⟨h, g, d, t, os⟩ := by
  have hpass := SF.passes (.ref x)
  unfold Builtin.«object.__setattr__»
  repeat (first | rw [refuse_eq] | (rw [refuseLoop_ref, hpass]) | (with_reducible refine wpAny_loadPart_at hx ?_; rw [hc]) | with_reducible refine wpAny_mroOf_exc hC ?_ | (with_reducible refine wpAny_typeLookup_exc hC hn SF.mro hB ?_; rw [hna]) | wp_step)
  rw [hdn, if_neg (by simp [typeHasDict])]
  split
  · rename_i hcd
    cases hcd
  split
  · rename_i c hcd
    rw [hdt] at hcd
    cases hcd
  have x1 : (h.push { cls := .type "dict", data := .dict #[] }).get? x = some o := Heap.get?_push_of_some _ hx
  have nx : x ≠ h.objs.size := Nat.ne_of_lt (Heap.lt_size hx)
  refine wpAny_bind (wpAny_alloc' ?_)
  refine wpAny_bind (wpAny_update' x1 ?_)
  refine wpAny_pure ?_
  generalize hg2 : ((h.push { cls := .type "dict", data := .dict #[] }).update x fun o => { cls := o.cls, dict := some h.objs.size, data := o.data, slots := o.slots }) = h2
  have d2 : h2.get? h.objs.size = some { cls := .type "dict", data := .dict #[] } := by
    rw [← hg2]
    exact (Heap.get?_update_ne _ _ _ _ nx.symm).trans (Heap.get?_push_at rfl rfl)
  have x2 : h2.get? x = some { o with dict := some h.objs.size } := by
    rw [← hg2]
    exact Heap.get?_update_self _ x1 (Obj.isFreed_of_fields (vs := vs) hdt)
  have n2 : h2.Ns h.objs.size (fun _ => none) := ⟨_, #[], _, d2, rfl, fun e he => absurd he (by simp), fun _ => rfl⟩
  show wpAny _ _ (storeInDict h.objs.size (.str name tk) name v) _ _ _
  unfold storeInDict newKeyGuard
  refine wpAny_bind (wpAny_pure (wpAny_bind (wpAny_nsSet1 (Heap.Ns1.of_empty n2) ?_)))
  intro h' hn' hs
  obtain ⟨oD, esD, epD, hoD, hdD, hcD⟩ := hn'.count (Within.cons name v Within.nil)
  refine wpAny_bind (wpAny_lookBehind hoD (by rw [hdD]; exact pastItsLine_dict (Nat.le_trans hcD (by rw [List.length_cons, List.length_nil, sizeLine_eq]; omega))) ?_)
  wp_walk
  refine hq h' _ ((hs.2 x nx).trans x2) hn' fun b ob hb e => ?_
  refine (hs.2 b (Nat.ne_of_lt (Heap.lt_size e))).trans ?_
  rw [← hg2]
  exact (Heap.get?_update_ne _ _ _ _ hb).trans (Heap.get?_push_of_some _ e)

theorem exc_set0 (SF : StoreFacts B bm sa owner) {o : Obj} {vs : Array Value} {Q : Unit → Shared → Prop} (hC : h.get? C = some (excClassObj nm q C N bs bm true sn sub ab col dd k0 k1 k2 k3 k5 newId)) (hn : h.Ns N mN) (hns : mN "__setattr__" = none) (hna : mN name = none) (hB : typeLookup (.type B) name = pure none)
    (hx : h.get? x = some o) (hc : o.cls = .ref C) (hdn : o.dict = none) (hdt : o.data = .fields vs)
    (hq : ∀ h' tk', h'.get? x = some { o with dict := some h.objs.size } → h'.Ns1 h.objs.size (fun y => if y = name then some v else none) → (∀ b ob, b ≠ x → h.get? b = some ob → h'.get? b = some ob) → Q () ⟨h', g, d, tk', os⟩) :
    wpAny (model prog w) A (setAttr (.ref x) name v) Q E ⟨h, g, d, t, os⟩ := by
  have f3 := SF.slot.bind (.ref x)
  unfold setAttr callSpecial? specialOf
  repeat (any_goals (first | assumption | (with_reducible refine wpAny_loadPart_at hx ?_; rw [hc]) | (with_reducible refine wpAny_typeLookup_exc hC hn SF.mro SF.slot.lookup ?_; rw [hns]) | wp_step))
  refine codeAny_call_builtin SF.slot.plain SF.entry (wpAny_check_sa SF hC hx hc (exc_store SF hC hn hna hB hx hc hdn hdt fun h' tk' i1 i2 i3 => ?_))
  repeat (any_goals (first | assumption | wp_step))
  exact hq h' tk' i1 i2 i3

theorem exc_set {o : Obj} {vs : Array Value} {Q : Unit → Shared → Prop} (hC : ExcCls h C N) (hn : h.Ns N mN) (hns : mN "__setattr__" = none) (hna : mN name = none) (hB : typeLookup (.type "Exception") name = pure none)
    (hx : h.get? x = some o) (hc : o.cls = .ref C) (hdn : o.dict = none) (hdt : o.data = .fields vs)
    (hq : ∀ h' tk', h'.get? x = some { o with dict := some h.objs.size } → h'.Ns1 h.objs.size (fun y => if y = name then some v else none) → (∀ b ob, b ≠ x → h.get? b = some ob → h'.get? b = some ob) → Q () ⟨h', g, d, tk', os⟩) :
    wpAny (model prog w) A (setAttr (.ref x) name v) Q E ⟨h, g, d, t, os⟩ := by
  obtain ⟨nm, q, bs, sn, sub, ab, col, dd, k0, k1, k2, k3, k5, newId, hnew, hC'⟩ := id hC
  exact exc_set0 PySem.F.store_Exception hC' hn hns hna hB hx hc hdn hdt hq

theorem exc_ga_check {M : Model} {o : Obj} {nv : Value} {Q : Unit → Shared → Prop} (hC : ExcCls h C N) (hx : h.get? x = some o) (hc : o.cls = .ref C) (hq : Q () ⟨h, g, d, t, os⟩) :
    wpAny M A (checkBuiltinCall "BaseException.__getattribute__" ⟨[.ref x, nv], []⟩) Q E ⟨h, g, d, t, os⟩ := by
  obtain ⟨nm, q, bs, sn, sub, ab, col, dd, k0, k1, k2, k3, k5, newId, hnew, hC⟩ := hC
  have b1 : builtinKind "BaseException.__getattribute__" = some .slot := by decide +kernel
  have b2 : splitId "BaseException.__getattribute__" = some ("BaseException", "__getattribute__") := by decide +kernel
  have b3 : (Value.ref C :: bmE).contains (.type "BaseException") = true := by rw [List.contains_cons, Bool.or_eq_true]; exact .inr (by decide)
  have b4 := PySem.F.args_bexc_ga (.ref x) nv
  simp only [checkBuiltinCall, b1, b2]
  refine wpAny_bind ?_
  unfold isInstance
  repeat (first | (with_reducible refine wpAny_loadPart_at hx ?_; rw [hc]) | (with_reducible refine wpAny_isSubtype_exc hC ?_; rw [b3]) | wp_step)
  exact hq

theorem exc_ga {tk : Tok} {o : Obj} {dx : Addr} {mA : Str → Option Value} {Q : Fin → Shared → Prop} (hC : ExcCls h C N) (hn : h.Ns N mN) (hna : mN name = none) (hB : typeLookup (.type "Exception") name = pure none)
    (hx : h.get? x = some o) (hc : o.cls = .ref C) (hd : o.dict = some dx) {vs : Array Value} (hdt : o.data = .fields vs) (hm : h.Ns1 dx mA) (hv : mA name = some v) (hq : Q (.done (.ret v)) ⟨h, g, d, t, os⟩) :
    wpAny (model prog w) A (Builtin.«object.__getattribute__» ⟨[.ref x, .str name tk], []⟩) Q E ⟨h, g, d, t, os⟩ := by
  obtain ⟨nm, q, bs, sn, sub, ab, col, dd, k0, k1, k2, k3, k5, newId, hnew, hC⟩ := hC
  unfold Builtin.«object.__getattribute__»
  repeat (first | (with_reducible refine wpAny_loadPart_at hx ?_; rw [hc]) | (with_reducible refine wpAny_typeLookup_exc hC hn PySem.F.store_Exception.mro hB ?_; rw [hna]) | wp_step)
  split
  · rename_i c hcd
    rw [hdt] at hcd
    cases hcd
  unfold instanceDict
  repeat (first | (with_reducible refine wpAny_loadPart_at hx ?_; rw [hc]) | with_reducible refine wpAny_loadPart_at hC ?_ | wp_step)
  rw [hd]
  repeat (first | (with_reducible refine wpAny_nsGet hm.ns ?_; rw [hv]) | wp_step)
  exact hq

theorem exc_get {expr : Bool} {o : Obj} {dx : Addr} {mA : Str → Option Value} {Q : Value → Shared → Prop} (hC : ExcCls h C N) (hn : h.Ns N mN) (hg1 : mN "__getattribute__" = none) (hg2 : mN "__getattr__" = none) (hna : mN name = none) (hB : typeLookup (.type "Exception") name = pure none)
    (hx : h.get? x = some o) (hc : o.cls = .ref C) (hd : o.dict = some dx) {vs : Array Value} (hdt : o.data = .fields vs) (hm : h.Ns1 dx mA) (hv : mA name = some v) (hh : handedOut v = pure v) (hq : Q v ⟨h, g, d, t + 1, os⟩) :
    wpAny (model prog w) A (getAttr (.ref x) name expr) Q E ⟨h, g, d, t, os⟩ := by
  have FB := PySem.F.attrBase_Exception
  have f3 := FB.ga.bind (.ref x)
  have hx0 : (expr && onTheHeap (Value.builtin "BaseException.__getattribute__")) = false := by cases expr <;> rfl
  have hx2 : (Value.builtin "BaseException.__getattribute__" == Value.builtin "object.__getattribute__") = false := by decide +kernel
  have hx1 : (onTheHeap (Value.ref C) && Value.builtin "BaseException.__getattribute__" == Value.builtin "object.__getattribute__") = false := by rw [hx2]; rfl
  obtain ⟨nm, q, bs, sn, sub, ab, col, dd, k0, k1, k2, k3, k5, newId, hnew, hC'⟩ := id hC
  unfold getAttr
  repeat (any_goals (first | assumption | (with_reducible refine wpAny_loadPart_at hx ?_; rw [hc]) | (with_reducible refine wpAny_typeLookup_exc hC' hn FB.mro FB.ga.lookup ?_; rw [hg1]) | (with_reducible refine wpAny_typeLookup_exc hC' hn FB.mro FB.noGetattr ?_; rw [hg2]) | wp_step))
  refine codeAny_call_builtin FB.ga.plain PySem.F.entry_bexc_ga (exc_ga_check hC hx hc (exc_ga hC hn hna hB hx hc hd hdt hm hv ?_))
  repeat (any_goals (first | assumption | wp_step))
  all_goals (try (rw [hh]; exact wpAny_pure hq))
end

section
variable {M : Model} {A : Around} {E : Value → Shared → Prop} {env : Env}
/-- raise of what is made: the object may have its dict -/
theorem exc_raise {C N : Addr} {s : Shared} {x : Sem Value} {Q : Flow → Shared → Prop} (hh : A.handled = none)
    (h : wpAny M A x (fun v s₁ => ∃ e o t, v = .ref e ∧ ExcCls s₁.heap C N ∧ s₁.heap.get? e = some o ∧ o.cls = .ref C ∧ o.data = .fields #[.ref t, .none, .none, .none, .bool false, .none] ∧ E (.ref e) s₁) E s) :
    wpAny M A (raiseStmt env (some x) none) Q E s := by
  have b3 : (Value.ref C :: bmE).contains (.type "BaseException") = true := by rw [List.contains_cons, Bool.or_eq_true]; exact .inr (by decide)
  unfold raiseStmt
  refine wpAny_bind (wpAny_mono h (fun v s₁ h₁ => ?_) fun _ _ x => x)
  obtain ⟨e, o, t, rfl, ⟨nm, q, bs, sn, sub, ab, col, dd, k0, k1, k2, k3, k5, newId, hnew, hC⟩, he, hc, hd, hE⟩ := h₁
  obtain ⟨hp, g, d, tk, os⟩ := s₁
  obtain ⟨oc, od, odt, osl⟩ := o
  dsimp only at hc hd
  subst hc hd
  repeat (first | with_reducible refine wpAny_loadPart_at he ?_ | with_reducible refine wpAny_loadPart_at hC ?_ | (with_reducible refine wpAny_isSubtype_exc hC ?_; rw [b3]) | wp_step)
  exact wpAny_raiseNew_none hh hE
end
end L2

namespace L2
open PySem

/-! ### max(.., default = d) -/
section
variable {prog : Program} {w : World} {A : Around} {R : Result → Shared → Prop} {I : Addr} {fp wr : List Addr} {n : Nat} {P : Nat → Value → Prop} {St : Nat → Heap → Prop} {kw : List (Str × Value)}

end

section
variable {prog : Program} {w : World} {A : Around} {E : Value → Shared → Prop} {s : Shared} {l : Addr} {xs : Array (Int × Tok)}
end

/-! ### t.index(x) -/
section
open PySem.SeqAt PySem.Builtin
theorem tupix_walk {M : Model} {A : Around} {E : Value → Shared → Prop} {β : Type} (items : Array Value) (e : Value → Bool) (j : Nat) (hj : j < items.size) (hit : e items[j] = true) (hno : ∀ m (hm : m < items.size), m < j → e items[m] = false) {s : Shared}
    (F : Nat → β → Sem (ForInStep β)) (b0 : β) (r : Value → β) (he : ∀ i (hi : i < items.size), ∀ (Q' : ForInStep β → Shared → Prop), (e items[i] = false → Q' (.yield b0) s) → (e items[i] = true → Q' (.done (r (.int i s.toks))) { s with toks := s.toks + 1 }) → wpAny M A (F i b0) Q' E s) :
    ∀ (k i : Nat), i ≤ j → i + k = items.size → ∀ {G : β → Shared → Prop}, G (r (.int j s.toks)) { s with toks := s.toks + 1 } → wpAny M A (forIn (List.range' i k) b0 F) G E s := by
  intro k
  induction k with
  | zero => intro i h1 h2; omega
  | succ k ih =>
    intro i h1 h2 G hG
    rw [List.range'_succ, List.forIn_cons]
    refine wpAny_bind (he i (by omega) _ (fun hf => ?_) fun ht => ?_)
    · have ne : i ≠ j := fun z => by subst z; rw [hit] at hf; cases hf
      exact ih (i + 1) (by omega) (by omega) hG
    · have ej : i = j := by
        rcases Nat.lt_or_ge i j with z | z
        · rw [hno i (by omega) z] at ht; cases ht
        · omega
      subst ej
      exact wpAny_pure hG
theorem tuple_indexAt (l : Addr) (items : Array Value) (n : Nat) (dd : Option Addr) (sl : Array (Option Value)) (x : Value) (e : Value → Bool) (j : Nat) (hj : j < items.size) (hit : e items[j] = true) (hno : ∀ m (hm : m < items.size), m < j → e items[m] = false) :
    Meets (Builtin.«tuple.index» ⟨[.ref l, x], []⟩) (fun A R s => s.heap.get? l = some { cls := .type "tuple", dict := dd, data := .seq items n, slots := sl } ∧ (∀ y, y ∈ items → EqAt A.in1 s y x (e y)) ∧ R (.ok (.ret (.int j s.toks))) { s with toks := s.toks + 1 }) := by
  intro prog w A R s h
  obtain ⟨hp, g, d, tk, os⟩ := s; obtain ⟨hl, he, h⟩ := h
  wp_walk using wpAny_loadPart' hl
  refine (show wpAny (model prog w) A.in1 (forIn [:min items.size items.size] ((none : Option PySem.Fin), ()) fun (i : Nat) (_ : Option PySem.Fin × Unit) => match items[i]? with
    | some y => do
      let b ← eqBool y x
      if b = true then do
        let v ← retInt (i : Int)
        pure (ForInStep.done (some v, ()))
      else pure (ForInStep.yield (none, ()))
    | x => pure (ForInStep.yield (none, ()))) _ _ _ from ?_)
  rw [Std.Legacy.Range.forIn_eq_forIn_range']
  have sz : [:min items.size items.size].size = items.size := by simp [Std.Legacy.Range.size]
  rw [sz]
  refine tupix_walk items e j hj hit hno _ (none, ()) (fun v => (some (.done (.ret v)), ())) (fun i hi Q' k1 k2 => ?_) items.size 0 (Nat.zero_le _) (Nat.zero_add _) ?_
  · rw [Array.getElem?_eq_getElem hi]
    refine wpAny_bind (he _ (Array.getElem_mem hi) prog w _ _ ?_)
    cases hb : e items[i] with
    | false => exact wpAny_pure (k1 hb)
    | true =>
      rw [if_pos rfl]
      unfold retInt
      wp_walk
      exact k2 hb
  · exact wpAny_pure h
end
end L2

namespace L2
open PySem PySem.Spec PyProof.Rows

/-! ### an own error class of the module, right under Exception, with an __init__ -/
structure XCls (K : PySem.W.Frag) (C N fI : Addr) : Prop where
  obj : ∃ nm q bs sn sub ab col dd k0 k1 k2 k3 k5, K.lookup C = some (excClassObj nm q C N bs bmE true sn sub ab col dd k0 k1 k2 k3 k5 "Exception.__new__")
  ok : PySem.W.nsOkIn K N = true
  ini : PySem.W.nsIn K N "__init__" = some (some (.ref fI))
  sa : PySem.W.nsIn K N "__setattr__" = some none
  ga : PySem.W.nsIn K N "__getattribute__" = some none
  gh : PySem.W.nsIn K N "__getattr__" = some none
  fn : PySem.W.isFn K (.ref fI) = true
  kp : PySem.W.keepIn K (.ref C) = true
section
variable {K : PySem.W.Frag} {C N fI : Addr} {h : Heap}
theorem XCls.cls (x : XCls K C N fI) (k : K.In h) : ExcCls h C N := by
  obtain ⟨nm, q, bs, sn, sub, ab, col, dd, k0, k1, k2, k3, k5, e⟩ := x.obj
  exact ⟨nm, q, bs, sn, sub, ab, col, dd, k0, k1, k2, k3, k5, _, rfl, k _ _ e⟩
theorem XCls.ns (x : XCls K C N fI) (k : K.In h) : h.Ns N (h.nsMap N) := .of_isNs (PySem.W.isNs_of_in k x.ok)
theorem ns_some_of {m : Str → Option Value} {n : Str} {v : Value} (k : K.In h) (G : h.Ns N m) (e : PySem.W.nsIn K N n = some (some v)) : m n = some v := by
  obtain ⟨o, es, ep, ho, hd, _, hf⟩ := G
  unfold PySem.W.nsIn at e
  split at e
  · rename_i c d es' n' sl q
    have := k _ _ q
    rw [ho] at this
    cases this
    cases hd
    split at e
    · rename_i en he
      cases e
      rw [← hf]
      unfold nsFind findBy
      rw [← Array.find?_toList, he]
      rfl
    · split at e <;> cases e
  · cases e
theorem XCls.fnAt (x : XCls K C N fI) (k : K.In h) : ∃ o, h.get? fI = some o ∧ o.cls = .type "function" := by
  have e : PySem.W.typeIn K (.ref fI) = some (.type "function") := beq_iff_eq.mp x.fn
  unfold PySem.W.typeIn at e
  cases q : K.lookup fI with
  | none => simp [q] at e
  | some o => simp [q] at e; exact ⟨o, k _ _ q, e⟩
end

/-! ### one of its objects, tracked -/
abbrev excOb (C t : Addr) (d : Option Addr) : Obj := { cls := .ref C, dict := d, data := .fields #[.ref t, .none, .none, .none, .bool false, .none] }
def excO (e C t : Addr) (d : Option Addr) : HO := .ext fun h => h.get? e = some (excOb C t d)
theorem excO_ok {P : Program} {w : World} {H : Hp} {h : Heap} {e C t : Addr} {d : Option Addr} (q : h.get? e = some (excOb C t d)) : ObjOk P w H h e (excO e C t d) :=
  ⟨q, ⟨_, q⟩, fun _ _ a b => b _ a⟩
theorem excO_at {P : Program} {w : World} {H : Hp} {h : Heap} {e C t : Addr} {d : Option Addr} (ok : HOk P w H h) (q : H e = some (excO e C t d)) : h.get? e = some (excOb C t d) := (ok e _ q).1
/-- no longer tracked -/
def del (H : Hp) (e : Addr) : Hp := fun b => if b = e then none else H b
theorem del_same {H : Hp} {e : Addr} : del H e e = none := by unfold del; rw [if_pos rfl]
theorem del_ne {H : Hp} {e b : Addr} (h : b ≠ e) : del H e b = H b := by unfold del; rw [if_neg h]
section
variable {X : Cx} {pins : List (Addr × Obj)} {σ : St} {H : Hp} {s : Shared} {e : Addr} {φ : Heap → Prop}
theorem Inv.forget (I : Inv X pins σ H s) (h : H e = some (.ext φ)) : Inv X pins σ (del H e) s := by
  have some_of : ∀ {b : Addr} {o : HO}, H b = some o → (∀ ψ, o ≠ .ext ψ) → del H e b = some o := fun {b o} q hn => by
    rw [del_ne]
    · exact q
    · rintro rfl
      rw [h] at q
      cases q
      exact hn φ rfl
  have none_of : ∀ {b : Addr}, H b = none → del H e b = none := fun {b} q => by
    unfold del
    by_cases hb : b = e
    · rw [if_pos hb]
    · rw [if_neg hb]; exact q
  refine ⟨I.ok, I.os, I.bare, ⟨I.base.keep, I.base.slot, fun b o q n hx => none_of (I.base.free b o q n hx), I.base.there, fun b xs q => some_of (I.base.tups b xs q) (by intro _ z; cases z), fun b o u q => some_of (I.base.frzs b o u q) (by intro _ z; cases z), fun b ps q => ?_⟩,
    I.loc, I.cell, none_of I.free, fun x c q => none_of (I.freeC x c q), fun p hp => ?_, fun a o q => ?_, I.len⟩
  · obtain ⟨more, z⟩ := I.base.tbls b ps q
    exact ⟨more, some_of z (by intro _ y; cases y)⟩
  · obtain ⟨a, b, c⟩ := I.pin p hp
    exact ⟨a, none_of b, c⟩
  · have q' : H a = some o := by
      unfold del at q
      by_cases hb : a = e
      · rw [if_pos hb] at q; cases q
      · rw [if_neg hb] at q; exact q
    exact (I.hok a o q').stay (fun b u _ z => z) (fun b z => some_of z (by intro _ y; cases y)) fun b xs z => some_of z (by intro _ y; cases y)
/-- a new object at an address that had none -/
theorem HOk.none_of {P : Program} {w : World} {h : Heap} {a : Addr} (x : HOk P w H h) (e : h.get? a = none) : H a = none := by
  cases q : H a with
  | none => rfl
  | some o =>
    exfalso
    have z := x a o q
    have : ∃ ob, h.get? a = some ob := by
      clear q
      induction o with
      | lst xs => obtain ⟨_, _, _, _, e⟩ := z; exact ⟨_, e⟩
      | tup xs => obtain ⟨_, _, _, _, e, _⟩ := z; exact ⟨_, e⟩
      | dK kvs => obtain ⟨_, _, _, _, _, _, _, e, _⟩ := z; exact ⟨_, e⟩
      | dT kvs => obtain ⟨_, _, _, _, _, _, _, e, _⟩ := z; exact ⟨_, e⟩
      | set S n => obtain ⟨_, _, _, _, e, _⟩ := z; exact ⟨_, e⟩
      | ins C dx fs => obtain ⟨_, _, _, e, _⟩ := z; exact ⟨_, e⟩
      | own y => exact z
      | xd fs => obtain ⟨_, ⟨_, _, _, e, _⟩, _⟩ := z; exact ⟨_, e⟩
      | rng lo hi => obtain ⟨_, _, _, e⟩ := z; exact ⟨_, e⟩
      | frz ob u ih => exact ⟨_, z.1⟩
      | tbl ps => exact ⟨_, z⟩
      | met f y => exact ⟨_, z⟩
      | ext φ => exact z.2.1
    obtain ⟨ob, y⟩ := this
    rw [e] at y
    cases y
theorem Inv.laidN {a : Addr} {o : HO} {h' : Heap} {t' : Nat} (I : Inv X pins σ H s) (k : ∀ b u, s.heap.get? b = some u → h'.get? b = some u) (hp : s.heap.get? a = none) (new : ObjOk X.prog X.w (upd H a o) h' a o) : Inv X pins σ (upd H a o) { s with heap := h', toks := t' } := by
  have hn : H a = none := I.hok.none_of hp
  have ne : ∀ {b : Addr} {u : Obj}, s.heap.get? b = some u → b ≠ a := fun {b u} q z => by rw [z, hp] at q; cases q
  refine I.un ⟨fun b u q _ _ _ => k b u q, fun b u q _ _ _ => ⟨u.slots, k b u q⟩, fun b u q n _ => by rw [upd_ne (ne q)]; exact n, fun b u q _ => ⟨u, k b u q⟩, fun b xs q => by rw [upd_ne (ne_of_none q hn)]; exact q, fun b u xs q => by rw [upd_ne (ne_of_none q hn)]; exact q, fun b ps q => ⟨#[], by rw [upd_ne (ne_of_none q hn), q]; simp⟩⟩ fun b u q => ?_
  by_cases hb : b = a
  · subst hb; rw [upd_same] at q; cases q; exact new
  · rw [upd_ne hb] at q
    exact (I.hok b u q).stay (fun c v _ z => k c v z) (fun c z => by rw [upd_ne (ne_of_none z hn)]; exact z) fun c xs z => by rw [upd_ne (ne_of_none z hn)]; exact z
end

/-! ### self.f = value in its __init__ -/
section
variable {X : Cx} {C N fI : Addr} {o value : Expr} {f : Str} {pos pos' : Pos} {to tv : TE}
theorem ps_xset (x : XCls X.K C N fI) (nf : PySem.W.nsIn X.K N f = some none) (hB : typeLookup (.type "Exception") f = pure none) (ho : PE X o to) (hv : PE X value tv) (hs : swapsWith value (some (.Attribute o f pos')) pos.line X.env = pure false) :
    PS X (.Assign [.Attribute o f pos'] value pos) (fun D σ H => tv σ H fun y H1 => to σ H1 fun z H2 => ∃ e t, z = .ref e ∧ H2 e = some (excO e C t none) ∧ ∀ d, H2 d = none → d ≠ e → D.nx σ (upd (upd H2 d (.xd [(f, y)])) e (excO e C t (some d)))) := by
  intro pins s σ H D I h
  refine plainObj_wpAny_Assign_Attribute (thn (hv pins s σ H _ I h) fun u s1 ⟨y, H1, I1, ry, q⟩ => thn (ho pins s1 σ H1 _ I1 q) fun ov s2 ⟨z, H2, I2, rz, e, t, ez, ee, q2⟩ => ?_) hs
  subst ez
  obtain rfl : ov = Value.ref e := rz
  have KI := I2.kIn
  have oe := excO_at I2.hok ee
  have G := x.ns KI
  obtain ⟨hh, gg, dd, tt, os⟩ := s2
  refine exc_set (x.cls KI) G (PySem.W.ns_none_of KI G x.sa) (PySem.W.ns_none_of KI G nf) hB oe rfl rfl rfl fun h' tk' i1 i2 i3 => ?_
  have dn : hh.get? hh.objs.size = none := Heap.get?_none_of_le (Nat.le_refl _)
  have de : hh.objs.size ≠ e := Nat.ne_of_gt (Heap.lt_size oe)
  have Hd : H2 hh.objs.size = none := I2.hok.fresh (Nat.le_refl _)
  -- first the dict, beside the object as it was; then the object
  refine ⟨σ, _, ?_, q2 hh.objs.size Hd de⟩
  have big : ∀ {b : Addr} {u : Obj}, hh.get? b = some u → b ≠ hh.objs.size := fun {b u} q => Nat.ne_of_lt (Heap.lt_size q)
  have ne1 : ∀ {b : Addr} {u : HO}, H2 b = some u → (∀ ψ, u ≠ .ext ψ) → b ≠ e := fun {b u} q hn z => by
    subst z
    rw [ee] at q
    cases q
    exact hn _ rfl
  have keepU : ∀ {b : Addr} {u : HO}, H2 b = some u → (∀ ψ, u ≠ .ext ψ) → upd (upd H2 hh.objs.size (.xd [(f, y)])) e (excO e C t (some hh.objs.size)) b = some u := fun {b u} q hn => by
    rw [upd_ne (ne1 q hn), upd_ne (ne_of_none q Hd)]
    exact q
  refine I2.un (t' := tk') (h' := h') ⟨fun b u q n _ _ => ?_, fun b u q n _ _ => ⟨u.slots, ?_⟩, fun b u q n _ => ?_, fun b u q _ => ?_, fun b xs q => keepU q (by intro _ z; cases z), fun b ob u q => keepU q (by intro _ z; cases z), fun b ps q => ⟨#[], ?_⟩⟩ fun b u q => ?_
  · exact i3 b u (fun z => by rw [z, ee] at n; cases n) q
  · exact i3 b u (fun z => by rw [z, ee] at n; cases n) q
  · rw [upd_ne (fun z => by rw [z, ee] at n; cases n), upd_ne (big q)]
    exact n
  · by_cases hb : b = e
    · rw [hb]; exact ⟨_, i1⟩
    · exact ⟨u, i3 b u hb q⟩
  · rw [keepU q (by intro _ z; cases z)]; simp
  · by_cases hb : b = e
    · subst hb
      rw [upd_same] at q
      cases q
      exact excO_ok i1
    · rw [upd_ne hb] at q
      by_cases hd : b = hh.objs.size
      · subst hd
        rw [upd_same] at q
        cases q
        refine ⟨_, i2, fun g => ?_⟩
        show RelO (List.lookup g [(f, y)]) (if g = f then some u else none)
        by_cases hg : g = f
        · rw [if_pos hg, hg]; simp only [List.lookup, beq_self_eq_true]; exact ry
        · rw [if_neg hg]
          have : (g == f) = false := beq_eq_false_iff_ne.mpr hg
          simp only [List.lookup, this]
          exact True.intro
      · rw [upd_ne hd] at q
        refine (I2.hok b u q).stay (fun c v hc z => i3 c v ?_ z) (fun c z => keepU z (by intro _ w; cases w)) fun c xs z => keepU z (by intro _ w; cases w)
        rcases hc with hc | hc
        · rw [hc]; exact hb
        · exact ne1 hc (by intro _ w; cases w)
end

/-! ### how an exception lies behind a call -/
def CXE (P : Program) (w : World) (C : Addr) : CXT := fun outer H s E ev s' =>
  ∃ (e d : Addr) (H' : Hp) (oe : Obj) (vs : Array Value) (T : Addr) (oT : Obj) (ts : Array Value), ev = .ref e ∧ s'.os = s.os ∧ AllBare s'.gens ∧ Un (frs outer) [] H H' s.heap s'.heap ∧ HOk P w H' s'.heap ∧ E (.ref C) (some d) H' ∧
    (s'.heap.get? e = some oe ∧ oe.cls = .ref C ∧ oe.dict = some d ∧ oe.data = .fields vs ∧ vs[1]? = some (.ref T) ∧ T ≠ e ∧ s'.heap.get? T = some oT ∧ oT.data = .fields ts ∧ ts[3]? = some .none) ∧
    s.heap.get? e = none ∧ s.heap.get? T = none ∧ H' e = none ∧ H' T = none

section
variable {P : Program} {w : World} {K : PySem.W.Frag} {mg : Str → Option Value} {base : Heap} {N : List Str} {qual : Str} {scope : Scope} {f : Addr} {cd : Value} {A : Around} {outer : List Env} {s₀ : Shared} {H₀ : Hp} {E : XK} {C : Addr}
/-- the exception at e, in a def's body: it leaves the frame -/
theorem flies {pins : List (Addr × Obj)} {σ : St} {H : Hp} {s : Shared} {e d : Addr} {oe : Obj} {vs : Array Value} (I : Inv (cxOf (CXE P w C) P w K mg base N qual scope f cd A outer s₀ H₀ E) pins σ H s)
    (he : s.heap.get? e = some oe) (hc : oe.cls = .ref C) (hdc : oe.dict = some d) (hd : oe.data = .fields vs) (hs1 : 1 < vs.size)
    (ht : vs[1]? = some .none ∨ ∃ T oT ts, vs[1]? = some (.ref T) ∧ T ≠ e ∧ s.heap.get? T = some oT ∧ oT.data = .fields ts ∧ ts[3]? = some .none ∧ s₀.heap.get? T = none ∧ H T = none)
    (hn : s₀.heap.get? e = none) (hH : H e = none) (hE : E (.ref C) (some d) H) : (cxOf (CXE P w C) P w K mg base N qual scope f cd A outer s₀ H₀ E).xe (.ref e) s := by
  have hl : s.heap.FunFrames base (envOfC qual scope s₀.heap.objs.size f cd :: outer) := I.stack
  show wpAny _ _ (noteFrame (.ref e) (envOfC qual scope s₀.heap.objs.size f cd) >>= fun _ => setFlight (.ref e) none) _ _ s
  refine wpAny_bind (note_x (vs := vs) I.ok.frames hl rfl he hd (ht.imp id fun ⟨T, oT, ts, a, b, c, d, e, _⟩ => ⟨T, oT, ts, a, b, c, d, e⟩) fun h' p => ?_)
  obtain ⟨T, oT, ts, x1, x2, x3, x4, x5, x6⟩ := p.exc
  have fr0 : ∀ {b : Addr} {o : Obj}, s₀.heap.get? b = some o → b ∉ frs outer → b ∉ (envOfC qual scope s₀.heap.objs.size f cd :: outer).filterMap (·.frame) := fun {b o} q hb hm => by
    have hm' : b = s₀.heap.objs.size ∨ b ∈ frs outer := List.mem_cons.mp (show b ∈ s₀.heap.objs.size :: frs outer from hm)
    rcases hm' with z | z
    · exact absurd (Heap.lt_size q) (by rw [z]; exact Nat.lt_irrefl _)
    · exact hb z
  have ne0 : ∀ {b : Addr} {o : Obj}, s₀.heap.get? b = some o → b ≠ e ∧ ∀ T, vs[1]? = some (.ref T) → b ≠ T := fun {b o} q => by
    refine ⟨fun z => (by rw [z, hn] at q; cases q), fun T hT z => ?_⟩
    rcases ht with h1 | ⟨T', _, _, h1, _, _, _, _, h0, _⟩
    · rw [hT] at h1; cases h1
    · rw [hT] at h1
      cases h1
      rw [z, h0] at q
      cases q
  have frF : ∀ {b : Addr} {o : HO}, H b = some o → b ∉ (envOfC qual scope s₀.heap.objs.size f cd :: outer).filterMap (·.frame) := fun {b o} q hm => by
    have := I.stkFree b hm
    rw [q] at this
    cases this
  have neH : ∀ {b : Addr} {o : HO}, H b = some o → b ≠ e ∧ ∀ T, vs[1]? = some (.ref T) → b ≠ T := fun {b o} q => by
    refine ⟨fun z => (by rw [z, hH] at q; cases q), fun T hT z => ?_⟩
    rcases ht with h1 | ⟨T', _, _, h1, _, _, _, _, _, h0⟩
    · rw [hT] at h1; cases h1
    · rw [hT] at h1
      cases h1
      rw [z, h0] at q
      cases q
  have ub := I.base
  refine ⟨e, d, H, _, _, T, oT, ts, rfl, I.os, I.bare, ⟨fun b o q n hb hx => ?_, fun b o q n hb hx => ?_, ub.free, fun b o q hx => ?_, ub.tups, ub.frzs, ub.tbls⟩, fun b o q => ?_, hE, ⟨x1, (Obj.cls_mapFields _ _).trans hc, ?_, Obj.data_mapFields hd _, ?_, x3, x4, x5, x6⟩, hn, ?_, hH, I.hok.none_of x2⟩
  · have q1 := ub.keep b o q n hb hx
    exact p.keep b o q1 (ne0 q).1 (ne0 q).2 (fr0 q hb)
  · obtain ⟨sl, q1⟩ := ub.slot b o q n hb hx
    obtain ⟨sl2, q2⟩ := p.slot b _ q1 (List.mem_cons_of_mem _ (show b ∈ frs outer from hb))
    exact ⟨sl2, q2⟩
  · obtain ⟨o', q1⟩ := ub.there b o q hx
    exact p.stay b o' q1
  · refine (I.hok b o q).stay (fun c u hc z => ?_) (fun _ z => z) fun _ _ z => z
    rcases hc with rfl | hc
    · exact p.keep _ u z (neH q).1 (neH q).2 (frF q)
    · exact p.keep c u z (neH hc).1 (neH hc).2 (frF hc)
  · rw [← hdc]
    obtain ⟨a, b, c, d⟩ := oe
    cases c <;> rfl
  · rw [Array.getElem?_setIfInBounds_self_of_lt hs1]
  · cases q : s₀.heap.get? T with
    | none => rfl
    | some o =>
      obtain ⟨o', q1⟩ := ub.there T o q (by intro z; exact absurd (show T ∈ ([] : List Addr) from z) (by simp))
      rw [x2] at q1
      cases q1

/-- a callee's exception passes on -/
theorem passE : Passes (CXE P w C) (cxOf (CXE P w C) P w K mg base N qual scope f cd A outer s₀ H₀ E) E := by
  intro pins σ H s ev s' I h
  obtain ⟨e, d, H', oe, vs, T, oT, ts, rfl, hos, hg, un, hok, hE, ⟨he, hc, hdc, hd, h1, hTe, hT, hdT, h3⟩, ne, nT, hHe, hHT⟩ := h
  have J := I.call' (ch := []) hos un hok hg fun b hb => absurd hb (by simp)
  have before : ∀ {b : Addr}, s.heap.get? b = none → s₀.heap.get? b = none := fun {b} q => by
    cases z : s₀.heap.get? b with
    | none => rfl
    | some o =>
      obtain ⟨o', q1⟩ := I.base.there b o z (by intro y; exact absurd (show b ∈ ([] : List Addr) from y) (by simp))
      rw [q] at q1
      cases q1
  exact flies J he hc hdc hd (Array.getElem?_eq_some_iff.mp h1).1 (.inr ⟨T, oT, ts, h1, hTe, hT, hdT, h3, before nT, hHT⟩) (before ne) hHe hE
end

/-! ### raise C(value) in a def's body -/
/-- what __init__ promises: the attribute -/
def spXInit (C : Addr) (f : Str) : Sp := fun vs H Q _ => ∃ e t v, vs = [.ref e, v] ∧ H e = some (excO e C t none) ∧ ∀ d, H d = none → d ≠ e → Q .non (upd (upd H d (.xd [(f, v)])) e (excO e C t (some d)))
section
variable {P : Program} {w : World} {K : PySem.W.Frag} {mg : Str → Option Value} {base : Heap} {Ns : List Str} {qual : Str} {scope : Scope} {fa : Addr} {cd : Value} {A : Around} {outer : List Env} {s₀ : Shared} {H₀ : Hp} {E : XK} {C N fI : Addr} {k : Nat} {fd : FuncData} {ps : List Str} {f x : Str} {np cpos pos : Pos} {a : Expr} {ta : TE}
theorem ps_raiseC (xc : XCls K C N fI) (F : FnOk P w K mg base CX0 k fI fd ps (spXInit C f)) (hr : Room (k + 1) (cxOf (CXE P w C) P w K mg base Ns qual scope fa cd A outer s₀ H₀ E).A) (hb : Binds K fd ps [])
    (hg : Gl (cxOf (CXE P w C) P w K mg base Ns qual scope fa cd A outer s₀ H₀ E) x) (hm : mg x = some (.ref C)) (ha : PE (cxOf (CXE P w C) P w K mg base Ns qual scope fa cd A outer s₀ H₀ E) a ta)
    (hdb : (x == ("__debug__" : Str)) = false := by decide) (hst : starEach [a] (envOfC qual scope s₀.heap.objs.size fa cd) = [(false, eval a (envOfC qual scope s₀.heap.objs.size fa cd))] := by rfl) :
    PS (cxOf (CXE P w C) P w K mg base Ns qual scope fa cd A outer s₀ H₀ E) (.Raise (some (.Call (.Name x np) [a] [] cpos)) none pos) (fun _ σ H => ta σ H fun v H1 => ∀ d, H1 d = none → E (.ref C) (some d) (upd H1 d (.xd [(f, v)]))) := by
  intro pins s σ H D I h
  have hh : (cxOf (CXE P w C) P w K mg base Ns qual scope fa cd A outer s₀ H₀ E).A.handled = none := I.ok.hd rfl
  rw [arm_exec_Raise]
  refine wpAny_bind (wpAny_standAt (exc_raise (C := C) (N := N) hh (wpAny_bind (wpAny_mono (wpAny_Call_Name_kw (ld_glob I hg hm ?_ hdb)) (fun v s₃ h₃ => wpAny_bind (wpAny_standAt (wpAny_pure h₃))) fun _ _ y => y))))
  have hpa := pa_cons ha pa_nil hst
  refine PySem.W.callWith_K (h₀ := base) I.ok.mod.kin xc.kp (thn (hpa cpos pins s σ H (fun vs H1 => match vs with
    | [v] => ∀ d, H1 d = none → E (.ref C) (some d) (upd H1 d (.xd [(f, v)]))
    | _ => False) I h) fun us s1 ⟨vs, H1, I1, r, q⟩ => ⟨I1.kIn, ?_⟩) hst rfl
  match vs, r, q with
  | [v], r, q =>
    obtain ⟨u, rfl, ru⟩ := Vals.one r
    obtain ⟨nm, qn, bs, sn, sub, ab, col, dd, k0, k1, k2, k3, k5, hC⟩ := xc.obj
    have KI := I1.kIn
    have G := xc.ns KI
    obtain ⟨oI, hoI, hoc⟩ := xc.fnAt KI
    obtain ⟨hh, gg, dr, tt, os⟩ := s1
    refine wpAny_call_exc_init PySem.F.excBase_Exception (KI _ _ hC) G (ns_some_of KI G xc.ini) hoI hoc (fun h' e hmd => ?_) (by show 1 ≤ sizeLine; decide)
    obtain ⟨t, hte, _, _⟩ := hmd.there
    have he0 : hh.get? e = none := hmd.new
    have I2 := I1.laidN (a := e) (o := excO e C t none) (h' := h') (t' := tt) hmd.keeps he0 (excO_ok hte)
    have H1e : H1 e = none := I1.hok.none_of he0
    have hsp : spXInit C f [.ref e, v] (upd H1 e (excO e C t none)) (fun z H3 => z = .non ∧ ∃ d, H1 d = none ∧ d ≠ e ∧ H3 = upd (upd (upd H1 e (excO e C t none)) d (.xd [(f, v)])) e (excO e C t (some d))) E0 :=
      ⟨e, t, v, rfl, upd_same, fun d hd hde => ⟨rfl, d, by rw [upd_ne hde] at hd; exact hd, hde, rfl⟩⟩
    have r2 : Vals [V.ref e, v] [Value.ref e, u] := .cons rfl (.cons ru .nil)
    have hlen : ([Value.ref e, u] ++ ([] : List Value)).length = ps.length := F.len _ _ _ _ hsp
    refine wpAny_call (codeAny_mono (F.run _ _ _ _ ⟨[Value.ref e, u], []⟩ [Value.ref e, u] [V.ref e, v] _ _ (hr.make C [u] []) (I2.env0.make C [u] []) (hb _ [Value.ref e, u] I2.kIn hlen) r2 hsp) fun r' s' hq' => ?_)
    cases r' with
    | error _ => exact False.elim hq'
    | ok fl =>
      cases fl with
      | next => exact False.elim hq'
      | brk => exact False.elim hq'
      | cont => exact False.elim hq'
      | ret u' =>
        obtain ⟨v', H3, J, rv', ev, d, hd, hde, eH⟩ := I2.after hq'
        subst ev
        obtain rfl : u' = Value.none := rv'
        refine ⟨rfl, e, _, t, rfl, xc.cls J.kIn, excO_at J.hok (by rw [eH]; exact upd_same), rfl, rfl, ?_⟩
        have H3e : H3 e = some (excO e C t (some d)) := by rw [eH]; exact upd_same
        have edel : del H3 e = upd H1 d (.xd [(f, v)]) := by
          funext b
          rw [eH]
          by_cases hb : b = e
          · rw [hb, del_same, upd_ne (Ne.symm hde), H1e]
          · rw [del_ne hb, upd_ne hb]
            by_cases hbd : b = d
            · rw [hbd, upd_same, upd_same]
            · rw [upd_ne hbd, upd_ne hbd, upd_ne hb]
        have J2 := J.forget H3e
        have hn0 : s₀.heap.get? e = none := by
          cases z : s₀.heap.get? e with
          | none => rfl
          | some o =>
            obtain ⟨o', q1⟩ := I1.base.there e o z (by intro y; exact absurd (show e ∈ ([] : List Addr) from y) (by simp))
            have q1' : hh.get? e = some o' := q1
            rw [he0] at q1'
            cases q1'
        exact flies J2 (excO_at J.hok H3e) rfl rfl rfl (by show 1 < 6; decide) (.inl rfl) hn0 del_same (by rw [edel]; exact q d hd)
  | [], _, q => exact q.elim
  | _ :: _ :: _, _, q => exact q.elim
end
end L2

namespace L2
open PySem PySem.Spec PyProof.Rows

/-! ### except C as n -/
/-- the body of a try -/
abbrev Cx.tryC (X : Cx) (xe : Value → Shared → Prop) (pl : List (Addr × Obj)) : Cx := { X with xe := xe, pn := X.pn ++ pl }
/-- an except suite, the exception at ex -/
abbrev Cx.exC (X : Cx) (ex : Addr) (oe : Obj) : Cx := { X with A := X.A.mark (some (.ref ex)), calm := false, pn := X.pn ++ [(ex, oe)], xe := fun _ _ => False }
section
variable {X : Cx} {pins : List (Addr × Obj)} {σ : St} {H H' : Hp} {s s' : Shared}
theorem Cx.Ok.tryC (ok : X.Ok) (xe : Value → Shared → Prop) (pl : List (Addr × Obj)) : (X.tryC xe pl).Ok :=
  ⟨ok.mod, ok.kind, ok.glob, ok.blt, ok.above, ok.inj, ok.has, ok.cab, ok.hd, ok.frames, ok.stk, ok.exf, ok.bs, ok.bsz, ok.noex, ok.exfs, ok.funs, ok.frf⟩
theorem Cx.Ok.untry {xe : Value → Shared → Prop} {pl : List (Addr × Obj)} (ok : (X.tryC xe pl).Ok) : X.Ok :=
  ⟨ok.mod, ok.kind, ok.glob, ok.blt, ok.above, ok.inj, ok.has, ok.cab, ok.hd, ok.frames, ok.stk, ok.exf, ok.bs, ok.bsz, ok.noex, ok.exfs, ok.funs, ok.frf⟩
theorem Cx.Ok.exC (ok : X.Ok) (ex : Addr) (oe : Obj) : (X.exC ex oe).Ok :=
  ⟨ok.mod, ok.kind, ok.glob, ok.blt, ok.above, ok.inj, ok.has, ok.cab, fun z => absurd (show false = true from z) (by decide), ok.frames, ok.stk, ok.exf, ok.bs, ok.bsz, ok.noex, ok.exfs, ok.funs, ok.frf⟩
theorem Inv.tryC (I : Inv X pins σ H s) (xe : Value → Shared → Prop) : Inv (X.tryC xe pins) [] σ H s :=
  ⟨I.ok.tryC xe pins, I.os, I.bare, I.base, I.loc, I.cell, I.free, I.freeC, fun p hp => I.pin p (by simpa using hp), I.hok, I.len⟩
theorem Inv.untry {xe : Value → Shared → Prop} {pl : List (Addr × Obj)} (I : Inv (X.tryC xe pins) pl σ H s) : Inv X pins σ H s :=
  ⟨I.ok.untry, I.os, I.bare, I.base, I.loc, I.cell, I.free, I.freeC, fun p hp => I.pin p (List.mem_append_left _ hp), I.hok, I.len⟩
theorem SP.untry {xe : Value → Shared → Prop} {D : Ends} {f : Flow} (h : SP (X.tryC xe pins) [] D f s') : SP X pins D f s' := by
  cases f with
  | next => obtain ⟨a, b, c, d⟩ := h; exact ⟨a, b, c.untry, d⟩
  | brk => obtain ⟨a, b, c, d⟩ := h; exact ⟨a, b, c.untry, d⟩
  | cont => obtain ⟨a, b, c, d⟩ := h; exact ⟨a, b, c.untry, d⟩
  | ret u => obtain ⟨v, a, b, c, d⟩ := h; exact ⟨v, a, b, c.untry, d⟩
theorem Inv.exC {ex : Addr} {oe : Obj} (I : Inv X pins σ H s) (h1 : s.heap.get? ex = some oe) (h2 : H ex = none) (h3 : ex ≠ X.env.locals) (h4 : ex ∉ X.fs) (h5 : ∀ v, oe.data ≠ .cell v) : Inv (X.exC ex oe) pins σ H s := by
  refine ⟨I.ok.exC ex oe, I.os, I.bare, I.base, I.loc, I.cell, I.free, I.freeC, fun p hp => ?_, I.hok, I.len⟩
  rcases List.mem_append.mp hp with z | z
  · rcases List.mem_append.mp z with y | y
    · exact I.pin p (List.mem_append_left _ y)
    · rw [List.mem_singleton.mp y]; exact ⟨h1, h2, h3, h4, h5⟩
  · exact I.pin p (List.mem_append_right _ z)
theorem Inv.unex {ex : Addr} {oe : Obj} (ok : X.Ok) (I : Inv (X.exC ex oe) pins σ H s) : Inv X pins σ H s := by
  refine ⟨ok, I.os, I.bare, I.base, I.loc, I.cell, I.free, I.freeC, fun p hp => I.pin p ?_, I.hok, I.len⟩
  rcases List.mem_append.mp hp with z | z
  · exact List.mem_append_left _ (List.mem_append_left _ z)
  · exact List.mem_append_right _ z
/-- the name goes -/
theorem Inv.unbound {i : Nat} {n : Str} {h' : Heap} {t' : Nat} {v : Option Value} {m : Str → Option Value} (I : Inv X pins σ H s) (hN : X.N.Nodup) (hi : X.N[i]? = some n) (hm : s.heap.Ns X.env.locals m)
    (hl : ∀ (j : Nat) (y : Str) (w : V), X.N[j]? = some y → σ[j]? = some (some w) → Vis X.env.scope y → ∃ u, RelV w u ∧ Look X.env s.heap m y u)
    (hn : h'.Ns X.env.locals (fun x => if x = n then v else m x)) (hs : Heap.SameBut X.env.locals s.heap h') : Inv X pins (σ.set i none) H { s with heap := h', toks := t' } := by
  have far : ∀ {b : Addr} {o : Obj}, X.s₀.heap.get? b = some o → b ≠ X.env.locals := fun {b o} e => Nat.ne_of_lt (Nat.lt_of_lt_of_le (Heap.lt_size e) I.ok.above)
  refine ⟨I.ok, I.os, I.bare, ⟨fun b o e n' hb hx => (hs.2 b (far e)).trans (I.base.keep b o e n' hb hx), fun b o e n' hb hx => ?_, I.base.free, fun b o e hx => ?_, I.base.tups, I.base.frzs, I.base.tbls⟩, ⟨_, hn, fun j y w e1 e2 e3 => ?_⟩, fun y c e => ?_, I.free, I.freeC, fun p hp => ?_, fun b o e => ?_, by simpa using I.len⟩
  · obtain ⟨sl, e1⟩ := I.base.slot b o e n' hb hx
    exact ⟨sl, (hs.2 b (far e)).trans e1⟩
  · obtain ⟨o', e1⟩ := I.base.there b o e hx
    exact ⟨o', (hs.2 b (far e)).trans e1⟩
  · by_cases hj : j = i
    · subst hj
      rw [List.getElem?_set] at e2
      simp at e2
    · rw [List.getElem?_set_ne (Ne.symm hj)] at e2
      obtain ⟨u', r', q⟩ := hl j y w e1 e2 e3
      refine ⟨u', r', ?_⟩
      rcases q with ⟨k, e⟩ | ⟨k, c, e, z⟩
      · refine .inl ⟨k, ?_⟩
        have : y ≠ n := fun e => hj (nodup_ix hN e1 (e ▸ hi))
        simp [this, e]
      · exact .inr ⟨k, c, e, z.sameBut hs (I.cne y c e)⟩
  · obtain ⟨w', z⟩ := I.cell y c e
    exact ⟨w', z.sameBut hs (I.cne y c e)⟩
  · obtain ⟨e, n', ne, nf, d⟩ := I.pin p hp
    exact ⟨(hs.2 p.1 ne).trans e, n', ne, nf, d⟩
  · refine (I.hok b o e).stay (fun c w' hc q => (hs.2 c ?_).trans q) (fun _ q => q) fun _ _ q => q
    rintro rfl
    have fr := I.free
    rcases hc with rfl | hc
    · rw [fr] at e; cases e
    · rw [fr] at hc; cases hc
end

section
variable {X : Cx} {C N fI : Addr} {f : Str} {e : Expr} {te : TE} {pos : Pos}
/-- e.f of an exception that is held -/
theorem pe_xget (xc : XCls X.K C N fI) (nf : PySem.W.nsIn X.K N f = some none) (hB : typeLookup (.type "Exception") f = pure none) (he : PE X e te) (hb : attributeBase e f X.env (eval e X.env) = eval e X.env) :
    PE X (.Attribute e f pos) (fun σ H Q => te σ H fun x H1 => ∃ ex oe d fs v vs, x = .ref ex ∧ (ex, oe) ∈ X.pn ∧ oe.cls = .ref C ∧ oe.dict = some d ∧ oe.data = .fields vs ∧ H1 d = some (.xd fs) ∧ fs.lookup f = some v ∧ Q v H1) := by
  intro pins s σ H Q I h
  refine attr_of hb (thn (he pins s σ H _ I h) fun u s1 ⟨x, H1, I1, rx, ex, oe, d, fs, v, vs, ez, hp, h1, h2, h3, h4, h5, q⟩ => ?_)
  subst ez
  obtain rfl : u = Value.ref ex := rx
  have KI := I1.kIn
  have G := xc.ns KI
  obtain ⟨hx, _⟩ := I1.pin (ex, oe) (List.mem_append_left _ hp)
  obtain ⟨mA, n1, rel⟩ := I1.hok d _ h4
  have r := rel f
  rw [h5] at r
  obtain ⟨u', eu, ru⟩ := r.some_of
  have I2 := I1.tok (s1.toks + 1)
  obtain ⟨hh, gg, dr, tt, os⟩ := s1
  exact exc_get (xc.cls KI) G (PySem.W.ns_none_of KI G xc.ga) (PySem.W.ns_none_of KI G xc.gh) (PySem.W.ns_none_of KI G nf) hB hx h1 h2 h3 n1 eu (PySem.W.handedOut_of (handed_of ru)) ⟨v, H1, I2, ru, q⟩
end

section
variable {X : Cx} {C N fI : Addr} {x n : Str} {i : Nat} {np hpos pos : Pos} {body suite : List Stmt} {b₀ : Stmt} {tb : TS} {ts : Addr → Obj → Addr → TS}
/-- the ends behind an except suite: the name has gone -/
def Ends.gone (D : Ends) (i : Nat) : Ends := ⟨fun σ H => D.nx (σ.set i none) H, D.rt, fun σ H => D.bk (σ.set i none) H, fun σ H => D.ct (σ.set i none) H⟩
theorem ps_try (G : Addr → Hp → Prop) (hstk : X.stack = X.env :: X.outer) (hfr : X.env.frame = some X.env.locals) (xc : XCls X.K C N fI) (hg : Gl X x) (hm : X.mg x = some (.ref C)) (hN : X.N.Nodup) (hi : X.N[i]? = some n) (hn : X.env.scope.names.lookup n = some .local)
    (hb : ∀ xe pl, Passes (CXE X.prog X.w C) (X.tryC xe pl) (fun c d H => c = .ref C ∧ ∃ dd, d = some dd ∧ G dd H) → PSs (X.tryC xe pl) body tb)
    (hs : ∀ ex oe d vs, oe.cls = .ref C → oe.dict = some d → oe.data = .fields vs → PSs (X.exC ex oe) (b₀ :: suite) (ts ex oe d)) (hdb : (x == ("__debug__" : Str)) = false := by decide) :
    PS X (.Try body [.ExceptHandler (some (.Name x np)) (some n) (b₀ :: suite) hpos] [] [] pos) (fun D σ H => tb D σ H ∧ ∀ (σ' : St) (H' : Hp) (ex : Addr) (oe : Obj) (d : Addr) (vs : Array Value), σ'.length = X.N.length → oe.cls = .ref C → oe.dict = some d → oe.data = .fields vs → G d H' → ts ex oe d (D.gone i) (σ'.set i (some (.ref ex))) H') := by
  intro pins s σ H D I ⟨h1, h2⟩
  refine wpAny_Try_except ?_
  refine wpAny_mono (hb _ pins ?_ [] s σ H D (I.tryC _) h1) (fun fl s1 q => ?_) fun _ _ q => q
  · -- a callee's exception
    intro pl σc Hc sc ev s' Ic hcx
    obtain ⟨e, d, H', oe, vs, T, oT, tz, rfl, hos, hgs, un, hok, ⟨-, dd, edd, hG⟩, ⟨he, hc, hdc, hd, h1', hTe, hT, hdT, h3⟩, ne, nT, hHe, hHT⟩ := hcx
    cases edd
    have J := Ic.call' (ch := []) hos un hok hgs fun b hb => absurd hb (by simp)
    have hl : s'.heap.FunFrames X.base (X.env :: X.outer) := hstk ▸ J.stack
    have hAf : X.A.frames = some (X.env :: X.outer) := hstk ▸ I.ok.frames
    refine note_x (vs := vs) hAf hl hfr he hd (.inr ⟨T, oT, tz, h1', hTe, hT, hdT, h3⟩) fun h' p => ?_
    have estk : frs X.stack = (X.env :: X.outer).filterMap (·.frame) := by rw [hstk]; rfl
    have apart : ∀ {b : Addr} {o : Obj}, sc.heap.get? b = some o → b ≠ e ∧ ∀ T', vs[1]? = some (.ref T') → b ≠ T' := fun {b o} q => by
      refine ⟨fun z => (by rw [z, ne] at q; cases q), fun T' hT' z => ?_⟩
      rw [h1'] at hT'
      cases hT'
      rw [z, nT] at q
      cases q
    have apartH : ∀ {b : Addr} {o : HO}, H' b = some o → (b ≠ e ∧ ∀ T', vs[1]? = some (.ref T') → b ≠ T') ∧ b ∉ (X.env :: X.outer).filterMap (·.frame) := fun {b o} q => by
      refine ⟨⟨fun z => (by rw [z, hHe] at q; cases q), fun T' hT' z => ?_⟩, fun hm' => ?_⟩
      · rw [h1'] at hT'
        cases hT'
        rw [z, hHT] at q
        cases q
      · have := J.stkFree b (show b ∈ frs X.stack by rw [estk]; exact hm')
        rw [q] at this
        cases this
    have un2 : Un (frs X.stack) [] Hc H' sc.heap h' := by
      refine ⟨fun b o q n' hb hx => ?_, fun b o q n' hb hx => ?_, un.free, fun b o q hx => ?_, un.tups, un.frzs, un.tbls⟩
      · exact p.keep b o (un.keep b o q n' hb hx) (apart q).1 (apart q).2 (by rw [← estk]; exact hb)
      · obtain ⟨sl, q1⟩ := un.slot b o q n' hb hx
        obtain ⟨sl2, q2⟩ := p.slot b _ q1 (by rw [← estk]; exact hb)
        exact ⟨sl2, q2⟩
      · obtain ⟨o', q1⟩ := un.there b o q hx
        exact p.stay b o' q1
    have hok2 : HOk X.prog X.w H' h' := fun b o q => by
      refine (hok b o q).stay (fun c u hc z => ?_) (fun _ z => z) fun _ _ z => z
      rcases hc with rfl | hc
      · exact p.keep _ u z (apartH q).1.1 (apartH q).1.2 (apartH q).2
      · exact p.keep c u z (apartH hc).1.1 (apartH hc).1.2 (apartH hc).2
    have J2 : Inv (X.tryC _ pins) pl σc H' { s' with heap := h' } := Ic.call' (s' := { s' with heap := h' }) (ch := []) hos un2 hok2 hgs fun b hb => absurd hb (by simp)
    have J3 : Inv X pins σc H' { s' with heap := h' } := J2.untry
    obtain ⟨T2, oT2, ts2, x1, x2, x3, x4, x5, x6⟩ := p.exc
    have oc2 : (oe.mapFields (·.setIfInBounds 1 (.ref T2))).cls = .ref C := (Obj.cls_mapFields _ _).trans hc
    have od2 : (oe.mapFields (·.setIfInBounds 1 (.ref T2))).dict = some d := by
      rw [← hdc]
      obtain ⟨a, b, c, d⟩ := oe
      cases c <;> rfl
    have ot2 := Obj.data_mapFields hd (·.setIfInBounds 1 (Value.ref T2))
    generalize hoe2 : oe.mapFields (·.setIfInBounds 1 (Value.ref T2)) = oe2 at *
    have neL : e ≠ X.env.locals := by
      obtain ⟨o, es, ep, q, _⟩ := Ic.loc.choose_spec.1
      exact fun z => (apart q).1 z.symm
    have neF : e ∉ X.fs := fun z => by
      have q := Ic.ok.funs
      obtain ⟨_, o, ho, _⟩ := q.mem (show e ∈ X.outer.filterMap (·.frame) from z)
      obtain ⟨o', q1⟩ := Ic.base.there e o ho (fun y => absurd y (fun y => (Ic.ok.exfs e y) z))
      rw [ne] at q1
      cases q1
    have J4 : Inv (X.exC e oe2) pins σc H' { s' with heap := h' } := J3.exC x1 hHe neL neF (fun v z => by rw [ot2] at z; cases z)
    refine wpAny_handleBy_cons (codeAny_handlers_test (ld_glob J4 hg hm ?_ hdb)) (by intro q; cases q)
    obtain ⟨nm, qn, bs, sn, sub, ab, col, ddd, k0, k1, k2, k3, k5, hC⟩ := xc.obj
    refine wpAny_excMatches_sub_self (J4.kIn _ _ hC) x1 oc2 (by decide) (codeAny_handlers_suite_as ?_)
    refine wpAny_setFlight_none (s := { s' with heap := h' }) x1 ot2 (by rw [Array.getElem?_setIfInBounds_self_of_lt (Array.getElem?_eq_some_iff.mp h1').1]) x4 x5 (Array.getElem?_eq_some_iff.mp x6).1 ?_
    have same : h'.update T2 (Obj.mapFields (·.setIfInBounds 3 Value.none)) = h' := Heap.update_setField_same h' T2 oT2 ts2 3 .none x4 x5 x6
    show wpAny _ _ _ _ _ { s' with heap := h'.update T2 (Obj.mapFields (·.setIfInBounds 3 Value.none)) }
    rw [same]
    refine store_ok (X := X.exC e oe2) (v := .ref e) J4 hN hi (.inl hn) rfl (fun s4 J5 => ?_) (.inr hn)
    refine wpAny_mono (hs e oe2 d _ oc2 od2 ot2 pins s4 _ H' (D.gone i) J5 (h2 σc H' e oe2 d _ J4.len oc2 od2 ot2 hG)) (fun fl s5 q => ?_) fun _ _ q => q.elim
    have goes : ∀ {σ' : St} {H2 : Hp} (_ : Inv (X.exC e oe2) pins σ' H2 s5) {Q : Unit → Shared → Prop} {E : Value → Shared → Prop}, (∀ s6, Inv X pins (σ'.set i none) H2 s6 → Q () s6) → wpAny (model X.prog X.w) X.A (do bindName X.env n .none; unbindBehindTheSuite X.env n hpos) Q E s5 := by
      intro σ' H2 J6 Q E hq
      obtain ⟨m, hm', hl'⟩ := id J6.loc
      refine wpAny_nameGoes_keeps hn hm' (by have k := I.ok.kind; show (X.env.scope.kind == .class || (X.env.scope.kind == .module && X.env.locals != X.env.globals)) = false; rw [k]; rfl) fun h7 v hn7 hs7 => hq _ ?_
      exact (J6.unex I.ok).unbound hN hi hm' hl' hn7 hs7
    cases fl with
    | next => obtain ⟨a, b, c, z⟩ := q; exact goes c fun s6 J7 => ⟨_, _, J7, z⟩
    | brk => obtain ⟨a, b, c, z⟩ := q; exact goes c fun s6 J7 => ⟨_, _, J7, z⟩
    | cont => obtain ⟨a, b, c, z⟩ := q; exact goes c fun s6 J7 => ⟨_, _, J7, z⟩
    | ret u => obtain ⟨v, a, b, c, r, z⟩ := q; exact goes c fun s6 J7 => ⟨v, _, _, J7, r, z⟩
  · have q' := SP.untry q
    cases fl with
    | next => exact wpAny_execs_nil q'
    | brk => exact q'
    | cont => exact q'
    | ret u => exact q'
end
end L2

namespace L2
open PySem PySem.Spec PyProof.Rows

/-! ### tuples of the module -/
def strOf? : Value → Option Str
  | .str x _ => some x
  | _ => none
def intOf? : Value → Option Int
  | .int x _ => some x
  | _ => none
def strTup (K : PySem.W.Frag) (a : Addr) (ss : List Str) : Bool := match K.lookup a with
  | some ⟨.type "tuple", none, .seq its _, _⟩ => decide (its.size ≤ 1000) && (its.toList.map strOf? == ss.map some)
  | _ => false
def intTup (K : PySem.W.Frag) (a : Addr) (ns : List Int) : Bool := match K.lookup a with
  | some ⟨.type "tuple", none, .seq its _, _⟩ => decide (its.size ≤ 1000) && (its.toList.map intOf? == ns.map some)
  | _ => false
theorem vals_strOf : ∀ {us : List Value} {ss : List Str}, us.map strOf? = ss.map some → Vals (ss.map V.str) us
  | [], [], _ => .nil
  | [], _ :: _, h => by cases h
  | _ :: _, [], h => by cases h
  | u :: us, x :: ss, h => by
    simp only [List.map_cons, List.cons.injEq] at h
    refine .cons ?_ (vals_strOf h.2)
    cases u <;> first | (cases h.1; done) | skip
    rename_i z t
    have e : z = x := by simpa [strOf?] using h.1
    exact ⟨t, by rw [e]⟩
theorem vals_intOf : ∀ {us : List Value} {ns : List Int}, us.map intOf? = ns.map some → Vals (ns.map V.int) us
  | [], [], _ => .nil
  | [], _ :: _, h => by cases h
  | _ :: _, [], h => by cases h
  | u :: us, x :: ss, h => by
    simp only [List.map_cons, List.cons.injEq] at h
    refine .cons ?_ (vals_intOf h.2)
    cases u <;> first | (cases h.1; done) | skip
    rename_i z t
    have e : z = x := by simpa [intOf?] using h.1
    exact ⟨t, by rw [e]⟩
/-- a tuple of the module -/
structure TupK (K : PySem.W.Frag) (a : Addr) (xs : List V) : Prop where
  sq : ∀ H, SqT K H a xs
  ty : ∃ o, K.lookup a = some o ∧ o.cls = .type "tuple" ∧ o.dict = none
theorem le1000 {n : Nat} (h : n ≤ 1000) : n ≤ sizeLine := Nat.le_of_lt (small1000 h)
theorem TupK.strs {K : PySem.W.Frag} {a : Addr} {ss : List Str} (h : strTup K a ss = true) : TupK K a (ss.map V.str) := by
  unfold strTup at h
  split at h
  · rename_i its n sl ho
    rw [Bool.and_eq_true, decide_eq_true_eq, beq_iff_eq] at h
    exact ⟨fun H => .inr ⟨_, its, n, ho, rfl, rfl, le1000 h.1, vals_strOf h.2⟩, _, ho, rfl, rfl⟩
  · cases h
theorem TupK.ints {K : PySem.W.Frag} {a : Addr} {ns : List Int} (h : intTup K a ns = true) : TupK K a (ns.map V.int) := by
  unfold intTup at h
  split at h
  · rename_i its n sl ho
    rw [Bool.and_eq_true, decide_eq_true_eq, beq_iff_eq] at h
    exact ⟨fun H => .inr ⟨_, its, n, ho, rfl, rfl, le1000 h.1, vals_intOf h.2⟩, _, ho, rfl, rfl⟩
  · cases h

/-! ### t.index(x), flat items -/
section
variable {X : Cx}
def rIndexT (K : PySem.W.Frag) : V → List V → Hp → VK → Prop := fun x xs H Q => ∃ (a : Addr) (ys : List V) (y : V) (j : Nat) (z : V), x = V.ref a ∧ xs = [y] ∧ SqT K H a ys ∧ flatV y = true ∧ ys.all flatV = true ∧ ys[j]? = some z ∧ eqV z y = true ∧
  (∀ (m : Nat) (z' : V), m < j → ys[m]? = some z' → eqV z' y = false) ∧ Q (.int (j : Nat)) H
theorem mt_indexT : MtR X "tuple.index" (rIndexT X.K) := by
  intro pins s σ H x xs v us Q I rx rxs h
  obtain ⟨a, ys, y, j, z, rfl, rfl, hs, fy, fys, hz, hzj, hno, q⟩ := h
  cases rx
  obtain ⟨uy, rfl, ry⟩ := Vals.one rxs
  obtain ⟨its, rv, ⟨⟨cls, dd, data, sl⟩, ho, hc, n, hd⟩, hlen⟩ := I.tuple hs
  simp only at hc hd
  subst hc hd
  obtain ⟨u, hu, ru⟩ := rv.get hz
  obtain ⟨hjl, hje⟩ := List.getElem?_eq_some_iff.mp hu
  have hvl := rv.length
  have hj : j < its.toArray.size := by simpa using hjl
  refine call_meets PySem.F.slot_tuple_index ⟨_, ho, rfl⟩ PySem.F.entry_tuple_index (PySem.F.args_tuple_index_2 _ _)
    (tuple_indexAt a its.toArray n dd sl uy (eqU y) j hj ?_ ?_) ⟨ho, fun u' hu' => mem_eqAt ry fy rv fys u' (by simpa using hu'), ?_⟩
  · have e1 : its.toArray[j] = u := by simpa using hje
    rw [e1, eqU_of ru (flat_at fys hz)]
    exact hzj
  · intro m hm hmj
    have hmy : m < ys.length := by have : m < its.length := by simpa using hm
                                   omega
    have hy' : ys[m]? = some ys[m] := List.getElem?_eq_getElem hmy
    obtain ⟨u2, hu2, ru2⟩ := rv.get hy'
    obtain ⟨_, hme⟩ := List.getElem?_eq_some_iff.mp hu2
    have e1 : its.toArray[m] = u2 := by simpa using hme
    rw [e1, eqU_of ru2 (flat_at fys hy')]
    exact hno m _ hmj hy'
  · exact ⟨.int (j : Nat), H, I.tok _, ⟨_, rfl⟩, q⟩
end

/-! ### dicts of the module -/
section
variable {X : Cx} {a : Addr}
theorem op_in_itab {D : List (Int × PyData)} (e : KTD.keyedLook (fun b => X.K.lookup b) a D = true) : OpR X (compareOp .In) (fun x y H Q => ∃ i, x = .int i ∧ y = .ref a ∧ Q (.bl (KTD.datumAt i D).isSome) H) := by
  rintro pins s σ H x y v u Q I rx ry ⟨i, rfl, rfl, q⟩
  obtain ⟨t, rfl⟩ := (show ∃ t, v = Value.int i t from rx)
  obtain rfl : u = Value.ref a := ry
  refine in_intTab (PySem.W.kt_keyed_in I.kIn e X.prog X.w) ?_
  rw [KTD.lookup_keyed]
  exact ⟨.bl _, H, I.tok _, rfl, q⟩
theorem op_notIn_itab {D : List (Int × PyData)} (e : KTD.keyedLook (fun b => X.K.lookup b) a D = true) : OpR X (compareOp .NotIn) (fun x y H Q => ∃ i, x = .int i ∧ y = .ref a ∧ Q (.bl (!(KTD.datumAt i D).isSome)) H) := by
  rintro pins s σ H x y v u Q I rx ry ⟨i, rfl, rfl, q⟩
  obtain ⟨t, rfl⟩ := (show ∃ t, v = Value.int i t from rx)
  obtain rfl : u = Value.ref a := ry
  refine notin_intTab (PySem.W.kt_keyed_in I.kIn e X.prog X.w) ?_
  rw [KTD.lookup_keyed]
  exact ⟨.bl _, H, I.tok _, rfl, q⟩
/-- d[i], the value a text -/
theorem pe_itab {D : List (Int × PyData)} (e : KTD.keyedLook (fun b => X.K.lookup b) a D = true) {o i : Expr} {to ti : TE} {pos : Pos} (ho : PE X o to) (hi : PE X i ti) (hs : NoSl i) :
    PE X (.Subscript o i pos) (fun σ H Q => to σ H fun x H1 => ti σ H1 fun y H2 => ∃ k z, x = .ref a ∧ y = .int k ∧ KTD.datumAt k D = some (.str z) ∧ Q (.str z) H2) := by
  intro pins s σ H Q I h
  refine subD_of PySem.F.slot_dict_getitem.lookup hs (thn (ho pins s σ H _ I h) fun u s1 ⟨x, H1, I1, rx, q1⟩ => thn (hi pins s1 σ H1 _ I1 q1) fun iv s2 ⟨y, H2, I2, ry, k, z, ex, ey, hz, q2⟩ => ?_)
  subst ex ey
  obtain rfl : u = Value.ref a := rx
  obtain ⟨t, rfl⟩ := (show ∃ t, iv = Value.int k t from ry)
  have T := PySem.W.kt_keyed_in I2.kIn e X.prog X.w
  have ty : s2.TypeIs (.ref a) "dict" := let ⟨_, _, hd, _⟩ := T; hd.typeIs
  refine ⟨ty, getItem_tab PyProof.V.same_int (intKind_is X.prog X.w k t) T (by rw [KTD.lookup_keyed]; exact hz) fun v hv => ?_⟩
  obtain ⟨t', rfl⟩ := hv.str_inv
  exact ⟨.str z, H2, I2.tok _, ⟨_, rfl⟩, q2⟩
/-- a dict of the module whose keys are texts, its values ints -/
structure STab (P : Program) (w : World) (K : PySem.W.Frag) (a : Addr) (D : List (Str × Int)) : Prop where
  tab : ∀ h : Heap, K.In h → StrTab P w h a (D.map fun p => (PyData.str p.1, PyData.int p.2))
def sAt (x : Str) : List (Str × Int) → Option Int
  | [] => none
  | (y, v) :: r => if y = x then some v else sAt x r
theorem sAt_lookup (x : Str) : ∀ D : List (Str × Int), PySem.Spec.lookup (PyData.str x) (D.map fun p => (PyData.str p.1, PyData.int p.2)) = (sAt x D).map PyData.int
  | [] => rfl
  | (y, v) :: r => by
    show (if same (PyData.str y) (PyData.str x) = true then some (PyData.int v) else PySem.Spec.lookup (PyData.str x) (r.map fun p => (PyData.str p.1, PyData.int p.2))) = (if y = x then some v else sAt x r).map PyData.int
    rw [PyProof.V.same_str, sAt_lookup x r]
    by_cases h : y = x
    · simp [h]
    · simp [h]
theorem pe_stab {D : List (Str × Int)} (T : STab X.prog X.w X.K a D) {o i : Expr} {to ti : TE} {pos : Pos} (ho : PE X o to) (hi : PE X i ti) (hs : NoSl i) :
    PE X (.Subscript o i pos) (fun σ H Q => to σ H fun x H1 => ti σ H1 fun y H2 => ∃ k z, x = .ref a ∧ y = .str k ∧ sAt k D = some z ∧ Q (.int z) H2) := by
  intro pins s σ H Q I h
  refine subD_of PySem.F.slot_dict_getitem.lookup hs (thn (ho pins s σ H _ I h) fun u s1 ⟨x, H1, I1, rx, q1⟩ => thn (hi pins s1 σ H1 _ I1 q1) fun iv s2 ⟨y, H2, I2, ry, k, z, ex, ey, hz, q2⟩ => ?_)
  subst ex ey
  obtain rfl : u = Value.ref a := rx
  obtain ⟨t, rfl⟩ := (show ∃ t, iv = Value.str k t from ry)
  have T' := T.tab _ I2.kIn
  have ty : s2.TypeIs (.ref a) "dict" := let ⟨_, _, hd, _⟩ := T'; hd.typeIs
  refine ⟨ty, getItem_tab PyProof.V.same_str (strKind_is X.prog X.w k t) T' (by rw [sAt_lookup, hz]; rfl) fun v hv => ?_⟩
  obtain ⟨t', rfl⟩ := hv.int_inv
  exact ⟨.int z, H2, I2.tok _, ⟨_, rfl⟩, q2⟩
end

/-! ### max(ints, default = 0) -/
section
variable {X : Cx} {p pos kpos : Pos} {e d : Expr} {te td : TE}
end
end L2

namespace L2
open PySem PySem.Spec PyProof.Rows
section
variable {X : Cx} {p pos kpos : Pos} {e d : Expr} {te td : TE} {x : Str}
/-- isinstance(x, C) of an own class -/
def rInst (K : PySem.W.Frag) (cls : Addr) : List V → Hp → VK → Prop := fun vs H Q => ∃ x t b, vs = [x, .ref cls] ∧ TyOf K H x t ∧ PySem.W.kitOne K t (.ref cls) = some b ∧ Q (.bl b) H
theorem cr_isinst {cls : Addr} : CallR X (.builtin "isinstance") (rInst X.K cls) := by
  intro pins s σ H vs us Q I r h
  obtain ⟨x, t, b, rfl, ty, hk, q⟩ := h
  obtain ⟨u, c, rfl, ru, rc⟩ := Vals.two r
  obtain rfl : c = Value.ref cls := rc
  exact isinst_ok I ru ty hk fun tk => ⟨.bl b, H, I.tok _, rfl, q⟩
end
end L2

namespace L2
open PySem PySem.Spec PySem.Calls PyProof.Rows
theorem reads_ints {R : PySem.W.WRecords} {cl : Str → Option Addr} {h : Heap} : ∀ {vs : List Value} {ns : List Int}, IntsAre vs ns → PySem.W.ReadsAllW R cl h vs (ns.map PySem.W.WData.int) []
  | _, _, .nil => .nil
  | _, _, .cons n t h => .cons (.int n t) (reads_ints h)
end L2

namespace L2
open PySem PySem.Spec PySem.Calls PyProof.Rows
theorem spec_callG {P : Program} {w : World} {K : PySem.W.Frag} {mg mb : Str → Option Value} {CX : CXT} {k : Nat} {fa a : Addr} {fd : FuncData} {ps : List Str} {sp : Sp} {s₁ : Shared} {us : List Value} {xs : List V} {vs : List Value} {ns out : List Int}
    (KX : K.In s₁.heap) (hns : s₁.heap.Ns mainGlobals mg) (hb : s₁.heap.Ns builtinsNs mb) (hbb : ∀ x : Str, x ≠ "__name__" → mb x = bootBuiltins x) (hlim : s₁.heap.NoLimit) (hg : s₁.gens = #[])
    (ha : s₁.heap.get? a = some { cls := .type "list", data := .seq vs.toArray }) (hi : IntsAre vs ns) (hl : ns.length ≤ sizeLine) (hr : Room k callerA)
    (F : ∀ base : Heap, K.In base → base.Ns mainGlobals mg → FnOk P w K mg base CX k fa fd ps sp) (hbind : ∀ s : Shared, BindsTo s fd ⟨us, []⟩ (ps.zip us)) (hvals : Vals xs us)
    (hsp : ∀ H : Hp, SqL K H a (ns.map V.int) → sp xs H (fun v H' => ∃ p, v = .ref p ∧ H' p = some (.lst (out.map V.int))) fun _ _ _ => False)
    (hCX : ∀ H e s', CX [] H s₁ (fun _ _ _ => False) e s' → False) :
    codeAny (model P w) callerA (.call (.ref fa) ⟨us, []⟩) (fun r s' => (∃ p vs' n, r = .ok (.ret (.ref p)) ∧ s'.heap.get? p = some { cls := .type "list", data := .seq (List.toArray vs') n } ∧ IntsAre vs' out) ∧ OldK s₁.heap s'.heap ∧ s'.os = s₁.os ∧ AllBare s'.gens) s₁ := by
  have rv := vals_ints hi
  have lenV := hi.length
  have core : ∀ H : Hp, Only H → SqL K H a (ns.map V.int) → HOk P w H s₁.heap → (∀ b, H b ≠ none → b = a) → (H a ≠ none → K.lookup a = none) →
      codeAny (model P w) callerA (.call (.ref fa) ⟨us, []⟩) (fun r s' => (∃ p vs' n, r = .ok (.ret (.ref p)) ∧ s'.heap.get? p = some { cls := .type "list", data := .seq (List.toArray vs') n } ∧ IntsAre vs' out) ∧ OldK s₁.heap s'.heap ∧ s'.os = s₁.os ∧ AllBare s'.gens) s₁ := by
    intro H hO hS hok hA hK
    have base_of : ∀ {b : Addr} {o : Obj}, s₁.heap.get? b = some o → H b = none → (hidT s₁.heap H).get? b = some o := fun e n => hidT_get e n
    have noA : ∀ {b : Addr} {o : Obj} {es : Array DictEntry} {ep : Nat}, s₁.heap.get? b = some o → o.data = .dict es ep → H b = none := fun {b o es ep} e d => by
      cases q : H b with
      | none => rfl
      | some u =>
        have e' : b = a := hA b (by rw [q]; simp)
        subst e'
        rw [ha] at e; cases e
        have d' : Data.seq vs.toArray _ = Data.dict es ep := d
        cases d'
    have nsK : ∀ {b : Addr} {m : Str → Option Value}, s₁.heap.Ns b m → (hidT s₁.heap H).Ns b m := fun {b m} ⟨o, es, ep, e, d, r⟩ => ⟨o, es, ep, base_of e (noA e d), d, r⟩
    have hKb : K.In (hidT s₁.heap H) := fun b o e => base_of (KX b o e) (by
      cases q : H b with
      | none => rfl
      | some u =>
        have e' : b = a := hA b (by rw [q]; simp)
        subst e'
        rw [hK (by rw [q]; simp)] at e; cases e)
    have hM : Mod K mg (hidT s₁.heap H) := ⟨hKb, nsK hns, ⟨mb, nsK hb, hbb⟩, let ⟨mc, h1, h2⟩ := hlim; ⟨mc, nsK h1, h2⟩⟩
    have e0 : Env0 P w K mg (hidT s₁.heap H) callerA [] s₁ H := ⟨rfl, hM, fun b o e => of_hidT e, Nat.le_of_eq (hidT_size _ _), trivial, fun b hb => absurd (show b ∈ ([] : List Addr) from hb) (by simp), hok, .of_eq hg⟩
    refine codeAny_mono ((F _ hKb (nsK hns)).run callerA [] s₁ H ⟨us, []⟩ us xs _ _ hr e0 (hbind s₁) hvals (hsp H hS)) fun r s' h => ?_
    cases r with
    | error e => exact (hCX H e s' h).elim
    | ok fl =>
      cases fl with
      | next => exact False.elim h
      | brk => exact False.elim h
      | cont => exact False.elim h
      | ret u =>
        obtain ⟨v, H', os, bare, un, hok', r', p, q1, q2⟩ := h
        subst q1
        obtain rfl : u = Value.ref p := r'
        obtain ⟨_, its, n, rv', e'⟩ := hok' p _ q2
        refine ⟨⟨p, its, n, rfl, e', rv'.ints⟩, OldK.of_keep fun b o e => ?_, os, bare⟩
        cases q : H b with
        | none => exact un.keep b o e q (by intro z; exact absurd (show b ∈ ([] : List Addr) from z) (by simp)) (by simp)
        | some u =>
          rcases hO b with z | ⟨ob, xs, z⟩
          · rw [q] at z; cases z
          · have z2 := un.frzs b ob _ z
            obtain ⟨e1, _⟩ := hok b _ z
            obtain ⟨e2, _⟩ := hok' b _ z2
            rw [e] at e1; cases e1
            exact e2
  cases hk : K.lookup a with
  | some o =>
    have e := KX a o hk
    rw [ha] at e
    cases e
    refine core (fun _ => none) (fun _ => .inl rfl) (.inr ⟨_, vs.toArray, _, hk, rfl, rfl, rfl, by rw [List.size_toArray, lenV]; exact hl, by simpa using rv⟩) (fun b u z => by have z' : (none : Option HO) = some u := z; cases z') (fun b z => absurd rfl z) fun z => absurd rfl z
  | none =>
    refine core (fun b => if b = a then some (.frz { cls := .type "list", data := .seq vs.toArray } (.lst (ns.map V.int))) else none) (fun b => ?_) (.inl (.inr ⟨{ cls := .type "list", data := .seq vs.toArray }, if_pos rfl⟩)) (fun b u z => ?_) (fun b z => ?_) fun _ => hk
    · by_cases hb : b = a
      · exact .inr ⟨_, _, if_pos hb⟩
      · exact .inl (if_neg hb)
    · by_cases hb : b = a
      · have z' := (if_pos hb).symm.trans z
        cases z'
        subst hb
        exact ⟨ha, by rw [List.length_map]; exact hl, vs, _, rv, ha⟩
      · have z' := (if_neg hb).symm.trans z
        cases z'
    · by_cases hb : b = a
      · exact hb
      · exact absurd (if_neg hb) z
/-- what a row with some whole numbers and a list of whole numbers asks; its answer such a list -/
def IntsList (r : PySem.W.OpenSpec) (m most : Nat) (lo hi : Int) (g : List Int → List Int → List Int) : Prop :=
  ∀ args, r.pre args = true → ∃ zs ns : List Int, zs.length = m ∧ args = zs.map PySem.W.WData.int ++ [PySem.W.WData.list (ns.map PySem.W.WData.int)] ∧ ns.length ≤ most ∧ (∀ x ∈ zs, (-2147483648 : Int) ≤ x ∧ x ≤ 2147483647) ∧ (∀ x ∈ ns, lo ≤ x ∧ x ≤ hi) ∧ r.post args (.list ((g zs ns).map PySem.W.WData.int)) = true
theorem well_args {Pm : Params} {h : Heap} {ns : List Int} : ∀ (zs : List Int) {vals : List Value}, PySem.W.WellAll Pm h vals (zs.map PySem.W.WData.int ++ [PySem.W.WData.list (ns.map PySem.W.WData.int)]) →
    ∃ a vs, Vals (zs.map V.int ++ [.ref a]) vals ∧ h.get? a = some { cls := .type "list", data := .seq (List.toArray vs) } ∧ IntsAre vs ns
  | [], _, hw => by
    cases hw with
    | cons w1 w2 =>
      cases w2
      cases w1 with
      | list ho hall => exact ⟨_, _, .cons rfl .nil, ho, Att.ints_of_wellAll ns _ hall⟩
  | z :: zs, _, hw => by
    cases hw with
    | cons w1 w2 =>
      obtain ⟨a, vs, h1, h2, h3⟩ := well_args zs w2
      cases w1 with
      | int i t => exact ⟨a, vs, .cons ⟨_, rfl⟩ h1, h2, h3⟩
theorem walk_specG {r : PySem.W.OpenSpec} {m most k : Nat} {lo hi : Int} {g : List Int → List Int → List Int} {q : Program} {loose : List Str} {XP : (Str → Option Value) → Heap → Prop} {YP : World → Heap → Prop} {d : DefRec} {K : Params → PySem.W.Frag} {CX : World → CXT} {sp : World → Sp} {ps : List Str}
    (h1 : IntsList r m most lo hi g) (hn2 : most ≤ sizeLine) (hdf : d.params.defaults = []) (hr : Room k callerA)
    (hY : ∀ (w : World) (h : Heap), YP w h → (K w.params).In h)
    (F : ∀ (w : World) (mg : Str → Option Value) (fa : Addr) (h : Heap), (K w.params).In h → h.Ns mainGlobals mg → mg d.name = some (.ref fa) →
      ∃ fd : FuncData, (∀ (s : Shared) (us : List Value), us.length = m + 1 → BindsTo s fd ⟨us, []⟩ (ps.zip us)) ∧
        ∀ base : Heap, (K w.params).In base → base.Ns mainGlobals mg → FnOk r.prog w (K w.params) mg base (CX w) k fa fd ps (sp w))
    (hsp : ∀ (w : World) (H : Hp) (a : Addr) (zs ns : List Int), zs.length = m → ns.length ≤ most → (∀ x ∈ zs, (-2147483648 : Int) ≤ x ∧ x ≤ 2147483647) → (∀ x ∈ ns, lo ≤ x ∧ x ≤ hi) → SqL (K w.params) H a (ns.map V.int) → sp w (zs.map V.int ++ [.ref a]) H (fun v H' => ∃ p, v = .ref p ∧ H' p = some (.lst ((g zs ns).map V.int))) fun _ _ _ => False)
    (hCX : ∀ (w : World) (H : Hp) (s : Shared) (e : Value) (s' : Shared), CX w [] H s (fun _ _ _ => False) e s' → False) :
    PySem.W.WalkOS q loose XP YP r d [] (fun f vs => PySem.call f vs) := by
  intro w s₀ s₁ mg mb G Y fa o pm cd doc dV kV ho hd hcd hD hmg hg args vals as hpre hlay hrd hwl hlo
  obtain rfl : dV = .none := PySem.W.Dflts.none hD hdf
  obtain rfl : kV = .none := PySem.W.Dflts.noKw hD
  obtain ⟨zs, ns, hm, rfl, hlen, hzs, hbnd, hpost⟩ := h1 args hpre
  obtain ⟨a, vs, hvals, hobj, hints⟩ := well_args zs hwl
  have KX := hY w _ Y
  obtain ⟨fd, hb, hF⟩ := F w mg fa _ KX G.T.g hmg
  have hvl : vals.length = m + 1 := by rw [← hvals.length, List.length_append, List.length_map, hm]; rfl
  refine PySem.W.enter_call (codeAny_mono (spec_callG (out := g zs ns) KX G.T.g G.T.b G.T.builtins G.T.nolimit hg hobj hints (Nat.le_trans hlen hn2) hr hF (fun s => hb s vals hvl) hvals (fun H hS => hsp w H a zs ns hm hlen hzs hbnd hS) fun H e s' => hCX w H s₁ e s') fun r' s' hq => ?_)
  obtain ⟨⟨p, vs', n, rfl, hp, hi'⟩, h2, h3, h4⟩ := hq
  exact ⟨.inl ⟨.ref p, .list ((g zs ns).map PySem.W.WData.int), [p], rfl, fun _ => rfl, .list hp rfl rfl (by simpa using reads_ints hi'), hpost, fun hu => by cases hu⟩, h2, h3, h4⟩
end L2

namespace A57
open PySem PySem.W
theorem dec_cons {c : Codec} {cs : List Codec} {d : WData} {ds : List WData} (h : (Codec.decAll (c :: cs) (d :: ds)).isSome = true) :
    (Codec.decAll [c] [d]).isSome = true ∧ (Codec.decAll cs ds).isSome = true := by
  have e : Codec.decAll (c :: cs) (d :: ds) = Codec.both Prod.mk (c.dec d) (Codec.decAll cs ds) := rfl
  have e1 : Codec.decAll [c] [d] = Codec.both Prod.mk (c.dec d) (some ()) := rfl
  rw [e] at h
  rw [e1]
  cases h1 : c.dec d with
  | none =>
    rw [h1] at h
    cases h
  | some a =>
    cases h2 : Codec.decAll cs ds with
    | none =>
      rw [h1, h2] at h
      cases h
    | some r => exact ⟨rfl, rfl⟩
theorem dec_join {c : Codec} {cs : List Codec} {d : WData} {ds : List WData} {a : c.denote} {r : Codec.denoteAll cs} (h1 : Codec.decAll [c] [d] = some (a, ())) (h2 : Codec.decAll cs ds = some r) :
    Codec.decAll (c :: cs) (d :: ds) = some (a, r) := by
  have e : Codec.decAll (c :: cs) (d :: ds) = Codec.both Prod.mk (c.dec d) (Codec.decAll cs ds) := rfl
  have e1 : Codec.decAll [c] [d] = Codec.both Prod.mk (c.dec d) (some ()) := rfl
  rw [e1] at h1
  rw [e, h2]
  cases h3 : c.dec d with
  | none =>
    rw [h3] at h1
    cases h1
  | some b =>
    rw [h3] at h1
    cases h1
    rfl
theorem dec_int {lo hi k : Int} (h : (Codec.decAll [.int lo hi] [WData.int k]).isSome = true) : Codec.decAll [.int lo hi] [WData.int k] = some (k, ()) ∧ lo ≤ k ∧ k ≤ hi := by
  have e : Codec.decAll [.int lo hi] [WData.int k] = Codec.both Prod.mk (if Codec.inInt lo hi k = true then some k else none) (some ()) := rfl
  rw [e] at h ⊢
  cases h1 : Codec.inInt lo hi k with
  | false =>
    rw [h1] at h
    cases h
  | true =>
    unfold Codec.inInt at h1
    simp only [Bool.and_eq_true, decide_eq_true_eq] at h1
    exact ⟨rfl, h1.1, h1.2⟩
end A57

namespace L2
open PySem
/-- one item a turn, each by the heap that was there; nothing else is changed -/
theorem lc_gen {J : It} {n : Nat} {ys : List V} {g : TG} {te : TE} {vs : List Nat} {σ : St} {H1 : Hp} {D : Addr} {Qd : Hp → Prop} (hD : H1 D = none) (hlen : ys.length = n) (hn : n ≤ sizeLine)
    (hstop : ∀ H, Same H1 H → J.stop n H) (hgo : ∀ i H, i < n → Same H1 H → J.go i H)
    (hturn : ∀ i H x H' y, ys[i]? = some y → Same H1 H → H D = some (.lst (ys.take i)) → J.yld i H x H' → ∀ N : VK, (∀ H4, H4 D = some (.lst (ys.take i)) → Same H1 H4 → N y H4) → g x (wipe σ vs) H' fun σ2 H2 => wipe σ2 vs = wipe σ vs ∧ te σ2 H2 N)
    (hd : ∀ H, Same H1 H → H D = some (.lst ys) → Qd H) :
    ∃ W : Nat → Nat → Hp → Prop, (∃ m, W 0 m (upd H1 D (.lst []))) ∧ ∀ i m H, W i m H →
      (J.stop i H ∧ Qd H) ∨ (J.go i H ∧ ∃ Nx : Hp → Prop, (∀ H', Nx H' → ∃ m', m' < m ∧ W (i + 1) m' H') ∧ ∀ x H', J.yld i H x H' → g x (wipe σ vs) H' fun σ2 H2 => wipe σ2 vs = wipe σ vs ∧ tYes σ2 H2 fun b H3 =>
        if b = true then te σ2 H3 fun y H4 => ∃ acc, H4 D = some (.lst acc) ∧ acc.length < sizeLine ∧ Nx (upd H4 D (.lst (acc ++ [y]))) else Nx H3) := by
  have same_at : ∀ H (o : HO), Same H1 H → Same H1 (upd H D o) := fun H o s b u e => by rw [upd_ne (ne_of_none e hD)]; exact s b u e
  refine ⟨fun i m H => m = n - i ∧ i ≤ n ∧ Same H1 H ∧ H D = some (.lst (ys.take i)), ⟨n, rfl, Nat.zero_le _, same_at _ _ (fun _ _ e => e), by rw [upd_same]; rfl⟩, ?_⟩
  rintro i m H ⟨rfl, hi, hs, hdl⟩
  by_cases hlt : i < n
  · have hy : ys[i]? = some (ys[i]'(by omega)) := List.getElem?_eq_getElem (by omega)
    refine .inr ⟨hgo i H hlt hs, fun H' => i + 1 ≤ n ∧ Same H1 H' ∧ H' D = some (.lst (ys.take (i + 1))), fun H' ⟨a, b, c⟩ => ⟨n - (i + 1), by omega, rfl, a, b, c⟩, fun x H' y => ?_⟩
    refine hturn i H x H' _ hy hs hdl y _ fun H4 h4 s4 => ⟨_, h4, ?_, hlt, same_at _ _ s4, ?_⟩
    · rw [List.length_take]
      omega
    · rw [upd_same, List.take_add_one, hy]
      rfl
  · have e : i = n := by omega
    subst e
    refine .inl ⟨hstop H hs, hd H hs ?_⟩
    rw [hdl, ← hlen, List.take_length]
end L2

namespace L2
open PySem PySem.Spec PyProof.Rows
/-! ### a call of what an expression gives -/
section
variable {X : Cx} {CX : CXT} {k : Nat} {E : XK} {pos : Pos} {fe e : Expr} {es : List Expr} {tf : TE} {t : TA}
def tCallX (X : Cx) (CX : CXT) (k : Nat) (E : XK) (tf : TE) (t : TA) : TE := fun σ H Q => tf σ H fun x H1 => ∃ f, x = .ref f ∧ PySem.W.keepIn X.K (.ref f) = true ∧ t σ H1 fun vs H2 => ∃ fd ps sp, Binds X.K fd ps [] ∧ FnOk X.prog X.w X.K X.mg X.base CX k f fd ps sp ∧ sp vs H2 Q E
theorem pe_callX (hf : PE X fe tf) (hr : Room k X.A) (hx : Passes CX X E) (ha : PA X (e :: es) t)
    (hc : eval (.Call fe (e :: es) [] pos) X.env = (do callWith pos (← eval fe X.env) [] (backTo pos (starEach (e :: es) X.env)) (backToKw pos (keywordEach [] X.env))) := by rfl)
    (he : starEach (e :: es) X.env = (false, eval e X.env) :: starEach es X.env := by rfl) (hpl : (backTo pos (starEach es X.env)).any (·.1) = false := by rfl) :
    PE X (.Call fe (e :: es) [] pos) (tCallX X CX k E tf t) := by
  intro pins s σ H Q I h
  refine Call_ (thn (hf pins s σ H _ I h) fun u s1 ⟨x, H1, I1, rx, f, ex, hk, q1⟩ => ?_) hc
  subst ex
  obtain rfl : u = Value.ref f := rx
  refine PySem.W.callWith_K (h₀ := X.base) I1.ok.mod.kin hk (thn (ha pos pins s1 σ H1 _ I1 q1) fun us s2 ⟨vs, H2, I2, r, fd, ps, sp, hb, F, q⟩ => ⟨I2.kIn, ?_⟩) he hpl
  exact run_fn F hr hb .nil hx I2 r (by rw [List.append_nil]; exact q)
end

/-! ### a dict of the module, its values objects of the module -/
structure RTab (P : Program) (w : World) (K : PySem.W.Frag) (a : Addr) (D : List (Str × Addr)) : Prop where
  lo : (a == sysModules) = false
  tab : ∀ h : Heap, K.In h → h.DictOf (strKind P w) a (D.map fun p => (p.1, Value.ref p.2))
structure ITabR (P : Program) (w : World) (K : PySem.W.Frag) (a : Addr) (D : List (Int × Addr)) : Prop where
  lo : (a == sysModules) = false
  tab : ∀ h : Heap, K.In h → h.DictOf (intKind P w) a (D.map fun p => (p.1, Value.ref p.2))
def rAt {κ : Type} [DecidableEq κ] (x : κ) (D : List (κ × Addr)) : Option Addr := (D.find? fun p => p.1 = x).map (·.2)
theorem rAt_value {κ : Type} [DecidableEq κ] (x : κ) (D : List (κ × Addr)) : valueAt (D.map fun p => (p.1, Value.ref p.2)) x = (rAt x D).map Value.ref := by
  unfold valueAt rAt
  rw [List.find?_map, Option.map_map, Option.map_map]
  rfl
section
variable {X : Cx} {a : Addr} {o i : Expr} {to ti : TE} {pos : Pos}
theorem pe_rtab {D : List (Str × Addr)} (T : RTab X.prog X.w X.K a D) (ho : PE X o to) (hi : PE X i ti) (hs : NoSl i) :
    PE X (.Subscript o i pos) (fun σ H Q => to σ H fun x H1 => ti σ H1 fun y H2 => ∃ k f, x = .ref a ∧ y = .str k ∧ rAt k D = some f ∧ Q (.ref f) H2) := by
  intro pins s σ H Q I h
  refine subD_of PySem.F.slot_dict_getitem.lookup hs (thn (ho pins s σ H _ I h) fun u s1 ⟨x, H1, I1, rx, q1⟩ => thn (hi pins s1 σ H1 _ I1 q1) fun iv s2 ⟨y, H2, I2, ry, k, f, ex, ey, hz, q2⟩ => ?_)
  subst ex ey
  obtain rfl : u = Value.ref a := rx
  obtain ⟨t, rfl⟩ := (show ∃ t, iv = Value.str k t from ry)
  have T' := T.tab _ I2.kIn
  exact ⟨T'.typeIs, wpAny_getItem_of (strKind_is X.prog X.w k t) T'.mapOf (by rw [rAt_value, hz]; rfl) ⟨.ref f, H2, I2.tok _, rfl, q2⟩⟩
theorem op_in_rtab {D : List (Str × Addr)} (T : RTab X.prog X.w X.K a D) : OpR X (compareOp .In) (fun x y H Q => ∃ k, x = .str k ∧ y = .ref a ∧ Q (.bl (rAt k D).isSome) H) := by
  rintro pins s σ H x y v u Q I rx ry ⟨k, rfl, rfl, q⟩
  obtain ⟨t, rfl⟩ := (show ∃ t, v = Value.str k t from rx)
  obtain rfl : u = Value.ref a := ry
  refine wpAny_in_of (strKind_is X.prog X.w k t) T.lo (T.tab _ I.kIn).mapOf ?_
  rw [rAt_value, Option.isSome_map]
  exact ⟨.bl _, H, I.tok _, rfl, q⟩
theorem pe_itabR {D : List (Int × Addr)} (T : ITabR X.prog X.w X.K a D) (ho : PE X o to) (hi : PE X i ti) (hs : NoSl i) :
    PE X (.Subscript o i pos) (fun σ H Q => to σ H fun x H1 => ti σ H1 fun y H2 => ∃ k f, x = .ref a ∧ y = .int k ∧ rAt k D = some f ∧ Q (.ref f) H2) := by
  intro pins s σ H Q I h
  refine subD_of PySem.F.slot_dict_getitem.lookup hs (thn (ho pins s σ H _ I h) fun u s1 ⟨x, H1, I1, rx, q1⟩ => thn (hi pins s1 σ H1 _ I1 q1) fun iv s2 ⟨y, H2, I2, ry, k, f, ex, ey, hz, q2⟩ => ?_)
  subst ex ey
  obtain rfl : u = Value.ref a := rx
  obtain ⟨t, rfl⟩ := (show ∃ t, iv = Value.int k t from ry)
  have T' := T.tab _ I2.kIn
  exact ⟨T'.typeIs, wpAny_getItem_of (intKind_is X.prog X.w k t) T'.mapOf (by rw [rAt_value, hz]; rfl) ⟨.ref f, H2, I2.tok _, rfl, q2⟩⟩
theorem pe_itabI {D : List (Int × PyData)} (e : KTD.keyedLook (fun b => X.K.lookup b) a D = true) (ho : PE X o to) (hi : PE X i ti) (hs : NoSl i) :
    PE X (.Subscript o i pos) (fun σ H Q => to σ H fun x H1 => ti σ H1 fun y H2 => ∃ k z, x = .ref a ∧ y = .int k ∧ KTD.datumAt k D = some (.int z) ∧ Q (.int z) H2) := by
  intro pins s σ H Q I h
  refine subD_of PySem.F.slot_dict_getitem.lookup hs (thn (ho pins s σ H _ I h) fun u s1 ⟨x, H1, I1, rx, q1⟩ => thn (hi pins s1 σ H1 _ I1 q1) fun iv s2 ⟨y, H2, I2, ry, k, z, ex, ey, hz, q2⟩ => ?_)
  subst ex ey
  obtain rfl : u = Value.ref a := rx
  obtain ⟨t, rfl⟩ := (show ∃ t, iv = Value.int k t from ry)
  have T := PySem.W.kt_keyed_in I2.kIn e X.prog X.w
  have ty : s2.TypeIs (.ref a) "dict" := let ⟨_, _, hd, _⟩ := T; hd.typeIs
  refine ⟨ty, getItem_tab PyProof.V.same_int (intKind_is X.prog X.w k t) T (by rw [KTD.lookup_keyed]; exact hz) fun v hv => ?_⟩
  obtain ⟨t', rfl⟩ := hv.int_inv
  exact ⟨.int z, H2, I2.tok _, ⟨_, rfl⟩, q2⟩
end
/-! how such a dict is known -/
def refLooks (f : Addr) (v : Value) : Bool := match v with
  | .ref g => g == f
  | _ => false
theorem ref_of_looks {f : Addr} {v : Value} (h : refLooks f v = true) : v = .ref f := by
  unfold refLooks at h
  split at h
  · rw [beq_iff_eq] at h; rw [h]
  · cases h
theorem refs_of_rows (prog : Program) (w : World) {es : List DictEntry} {D : List (Str × Addr)} (h : KTD.Rows (fun f v => v = Value.ref f) es D) : es.map (·.hash) = D.map (fun p => (PySem.strKind prog w).hash p.1) →
    (∀ e ∈ es, ∃ k, (PySem.strKind prog w).is k e.key = true ∧ e.hash = (PySem.strKind prog w).hash k) ∧ Pairs (PySem.strKind prog w) es (D.map fun p => (p.1, Value.ref p.2)) := by
  induction h with
  | nil => exact fun _ => ⟨(fun _ h => (nomatch h)), .nil⟩
  | @cons e x t d es D hkey hv _ ih =>
    intro hh
    simp only [List.map_cons, List.cons.injEq] at hh
    obtain ⟨hk, hp⟩ := ih hh.2
    have hi : (PySem.strKind prog w).is x e.key = true := by rw [hkey]; exact strKind_is prog w x t
    refine ⟨fun e' he' => ?_, .cons hi hv hp⟩
    rcases List.mem_cons.mp he' with he' | he'
    · rw [he']; exact ⟨x, hi, hh.1⟩
    · exact hk e' he'
theorem rtab_of {P : Program} {w : World} {K : PySem.W.Frag} {a : Addr} {D : List (Str × Addr)} (hl : KTD.tabLook refLooks (fun b => K.lookup b) a D = true) (hn : (D.map (·.1)).Nodup)
    (hh : KTD.hashesOf (fun b => K.lookup b) a = D.map fun p => (PySem.strKind P w).hash p.1) : RTab P w K a D := by
  simp only [KTD.tabLook, Bool.and_eq_true] at hl
  obtain ⟨h0, hl⟩ := hl
  split at hl
  · rename_i o ho
    simp only [Bool.and_eq_true] at hl
    obtain ⟨⟨⟨e1, e2⟩, e3⟩, e4⟩ := hl
    split at e4
    · rename_i es ep hd
      have hh' : es.toList.map (·.hash) = D.map fun p => (PySem.strKind P w).hash p.1 := by
        rw [← hh]; unfold KTD.hashesOf; simp only [ho, hd]
      obtain ⟨hk, hp⟩ := refs_of_rows P w (KTD.rows_of_look (fun _ _ x => ref_of_looks x) e4) hh'
      exact ⟨by simpa using h0, fun h X => ⟨o, es, ep, X _ _ ho, ⟨beq_iff_eq.mp e1, by simpa using e2, by simpa using e3⟩, hd, fun e he => hk e (by simpa using he), hp, by rw [List.map_map]; exact hn⟩⟩
    · cases e4
  · cases hl
/-- entries with whole numbers as keys, of these values in their order -/
def numRefs : List DictEntry → List (Int × Addr) → Bool
  | [], [] => true
  | e :: es, (i, f) :: D => (match e.key with | .int j _ => j == i | _ => false) && e.hash == hashInt i && refLooks f e.val && numRefs es D
  | _, _ => false
theorem numRefs_of (prog : Program) (w : World) : ∀ {es : List DictEntry} {D : List (Int × Addr)}, numRefs es D = true →
    (∀ e ∈ es, ∃ k, (PySem.intKind prog w).is k e.key = true ∧ e.hash = (PySem.intKind prog w).hash k) ∧ Pairs (PySem.intKind prog w) es (D.map fun p => (p.1, Value.ref p.2))
  | [], [], _ => ⟨(fun _ h => (nomatch h)), .nil⟩
  | e :: es, (i, d) :: D, h => by
    simp only [numRefs, Bool.and_eq_true] at h
    obtain ⟨⟨⟨h1, h2⟩, h3⟩, h4⟩ := h
    obtain ⟨hk, hp⟩ := numRefs_of prog w h4
    split at h1
    · rename_i j t hkey
      obtain rfl := beq_iff_eq.mp h1
      have hi : (PySem.intKind prog w).is j e.key = true := by rw [hkey]; show Value.isInt j (.int j t) = true; simp [Value.isInt]
      refine ⟨fun e' he' => ?_, .cons hi (ref_of_looks h3) hp⟩
      rcases List.mem_cons.mp he' with rfl | he'
      · exact ⟨j, hi, beq_iff_eq.mp h2⟩
      · exact hk e' he'
    · cases h1
  | [], _ :: _, h => by simp [numRefs] at h
  | _ :: _, [], h => by simp [numRefs] at h
def itabLook (get : Addr → Option Obj) (a : Addr) (D : List (Int × Addr)) : Bool := !(a == sysModules) && decide ((D.map (·.1)).Nodup) && (match get a with
  | some o => o.cls == .type "dict" && o.dict.isNone && o.slots.isEmpty && (match o.data with | .dict es _ => numRefs es.toList D | _ => false)
  | none => false)
theorem itabR_of {P : Program} {w : World} {K : PySem.W.Frag} {a : Addr} {D : List (Int × Addr)} (hl : itabLook (fun b => K.lookup b) a D = true) : ITabR P w K a D := by
  simp only [itabLook, Bool.and_eq_true] at hl
  obtain ⟨⟨h0, hn⟩, hl⟩ := hl
  split at hl
  · rename_i o ho
    simp only [Bool.and_eq_true] at hl
    obtain ⟨⟨⟨e1, e2⟩, e3⟩, e4⟩ := hl
    split at e4
    · rename_i es ep hd
      obtain ⟨hk, hp⟩ := numRefs_of P w e4
      exact ⟨by simpa using h0, fun h X => ⟨o, es, ep, X _ _ ho, ⟨beq_iff_eq.mp e1, by simpa using e2, by simpa using e3⟩, hd, fun e he => hk e (by simpa using he), hp, by rw [List.map_map]; exact of_decide_eq_true hn⟩⟩
    · cases e4
  · cases hl

/-! ### list(range(a, b, c)) -/
section
variable {X : Cx} {p1 p2 pos pos2 : Pos} {a b c : Expr} {ta : TA}
theorem pe_listRange (hg : Gl X "list") (hm : X.mg "list" = none) (hg2 : Gl X "range") (hm2 : X.mg "range" = none) (hc : X.calm = true) (ha : PA X [a, b, c] ta)
    (hs : starEach [a, b, c] X.env = (false, eval a X.env) :: starEach [b, c] X.env := by rfl) (hpl : (backTo pos2 (starEach [b, c] X.env)).any (·.1) = false := by rfl)
    (hs1 : starEach [.Call (.Name "range" p2) [a, b, c] [] pos2] X.env = [(false, eval (.Call (.Name "range" p2) [a, b, c] [] pos2) X.env)] := by rfl) :
    PE X (.Call (.Name "list" p1) [.Call (.Name "range" p2) [a, b, c] [] pos2] [] pos)
      (fun σ H Q => ta σ H fun vs H1 => ∃ (i j k : Int) (n : Nat), vs = [.int i, .int j, .int k] ∧ RgC i j k n ∧ n ≤ sizeLine ∧ ∀ l, H1 l = none → Q (.ref l) (upd H1 l (.lst ((List.range n).map fun m => V.int (i + (m : Nat) * k))))) := by
  intro pins s σ H Q I h
  refine wpAny_Call_Name_kw (ld_blt I hg hm (by decide +kernel : bootBuiltins "list" = some (.type "list")) ?_)
  refine PyProof.Rows.callWith_type1 ?_ hs1 rfl
  rw [hs1]
  show wpAny _ _ (spliced ((false, eval (.Call (.Name "range" p2) [a, b, c] [] pos2) X.env) :: [])) _ _ s
  refine Calls.spliced_cons ?_
  refine Call_ (ld_blt I hg2 hm2 boot_range (PyProof.Rows.callWith_type1 (thn (ha pos2 pins s σ H _ I h) fun us s1 ⟨vs, H1, I1, r1, q1⟩ => ?_) hs hpl))
  obtain ⟨i, j, k, n, e, ⟨c0, c1, c2, c3⟩, hn, q⟩ := q1
  subst e
  cases r1 with
  | cons r rr =>
    cases rr with
    | cons r' rr =>
      cases rr with
      | cons r'' rr =>
        cases rr
        obtain ⟨t, rfl⟩ := r
        obtain ⟨t', rfl⟩ := r'
        obtain ⟨t'', rfl⟩ := r''
        refine call_range_3 c0 ?_ (.inl (PyProof.noPylong_small c1))
        have I2 : Inv X pins σ H1 { s1 with heap := s1.heap.push { cls := .type "range", data := .fields #[.int i t, .int j t', .int k t''] } } := I1.kept (t' := s1.toks) fun b o e => Heap.get?_push_of_some _ e
        refine Calls.spliced_nil ?_
        refine call_list_range (I2.ok.hd hc) (IsRange.new ..) c2 c3 (by rw [sizeLine_eq] at hn; omega) fun h' tk acc' c' kp hS hacc => ?_
        refine ⟨.ref _, _, I2.laid (t' := tk) kp (Nat.le_refl _) (show ObjOk X.prog X.w _ h' _ (.lst ((List.range n).map fun m => V.int (i + (m : Nat) * k))) from ⟨by simpa using hn, acc'.toList, c', ?_, by simpa using hS⟩), rfl, q _ (I2.hok.fresh (Nat.le_refl _))⟩
        obtain ⟨sz, at_⟩ := hacc
        have key : ∀ (l : List Value) (m : Nat), (∀ j v, l[j]? = some v → ∃ t, v = Value.int (i + ((m + j : Nat) : Int) * k) t) → Vals ((List.range' m l.length).map fun m => V.int (i + (m : Nat) * k)) l := by
          intro l
          induction l with
          | nil => intro m _; exact .nil
          | cons v l ih =>
            intro m hv
            obtain ⟨t, rfl⟩ := hv 0 v rfl
            refine .cons ⟨_, rfl⟩ (ih (m + 1) fun j v hj => ?_)
            have := hv (j + 1) v (by simpa using hj)
            rw [show m + 1 + j = m + (j + 1) by omega]
            exact this
        have := key acc'.toList 0 fun j v hj => by
          have := at_ j v (by simpa using hj)
          rw [Nat.zero_add]
          exact this
        rw [List.range_eq_range']
        simpa [sz] using this
end

/-! ### list.count, ints -/

/-! ### a pair of ints against another -/
theorem op_eqP {X : Cx} (hu : X.A.units + 64 < cLine) : OpR X (compareOp .Eq) (fun x y H Q => ∃ (p q : Addr) (a b c d : Int), x = .ref p ∧ y = .ref q ∧ SqT X.K H p [.int a, .int b] ∧ SqT X.K H q [.int c, .int d] ∧ Q (.bl (decide ((a, b) = (c, d)))) H) := by
  intro pins s σ H x y v u Q I rx ry h
  obtain ⟨p, q, a, b, c, d, rfl, rfl, hp, hq, qq⟩ := h
  refine op_eqD hu pins s σ H _ _ v u Q I rx ry ⟨.tuple [.int a, .int b], .tuple [.int c, .int d], .tup hp (.cons (.int a) (.cons (.int b) .nil)), .tup hq (.cons (.int c) (.cons (.int d) .nil)), rfl, rfl, ?_⟩
  have e : PyData.eqv (.tuple [.int a, .int b]) (.tuple [.int c, .int d]) = decide ((a, b) = (c, d)) := by
    have : PyData.eqv (.tuple [.int a, .int b]) (.tuple [.int c, .int d]) = ((a == c) && ((b == d) && true)) := rfl
    rw [this, Bool.eq_iff_iff]
    simp
  rw [e]
  exact qq
end L2

namespace A57
open Sa57

/-! ### words by their names -/
def pick (names : List String) (l : List Bytes) : Option (String × List Bytes) := match l with
  | [] => none
  | w :: r => (names.find? fun s => ascii s == w).map fun s => (s, r)
def pickName (names : List String) (l : List Bytes) : Option (String × List Bytes) := match pick names l with
  | none => none
  | some (n, r) => if n = "bend" ∧ r.head? = some (ascii "sinister") then some ("bend sinister", r.drop 1) else some (n, r)
theorem pick_some {names : List String} {l r : List Bytes} {n : String} (h : pick names l = some (n, r)) : l = ascii n :: r ∧ n ∈ names := by
  cases l with
  | nil => cases h
  | cons w q =>
    simp only [pick, Option.map_eq_some_iff, Prod.mk.injEq] at h
    obtain ⟨s, hs, rfl, rfl⟩ := h
    have h1 := List.find?_some hs
    have h2 := List.mem_of_find?_eq_some hs
    rw [beq_iff_eq] at h1
    rw [h1]
    exact ⟨rfl, h2⟩
theorem pick_none {names : List String} {w : Bytes} {r : List Bytes} (h : pick names (w :: r) = none) : ∀ n ∈ names, ascii n ≠ w := by
  intro n hn e
  simp only [pick, Option.map_eq_none_iff, List.find?_eq_none] at h
  exact h n hn (by simp [e])

/-! ### names of what is read -/
def pName : Parting → String
  | .pale => "pale" | .fess => "fess" | .bend => "bend" | .sinister => "bend sinister" | .chevron => "chevron" | .saltire => "saltire" | .quarterly => "quarterly"
def vName : Varying → String
  | .barry => "barry" | .paly => "paly" | .bendy => "bendy" | .chequy => "chequy" | .lozengy => "lozengy"
def oName : Ordinary → String
  | .fess => "fess" | .pale => "pale" | .bend => "bend" | .sinister => "bend sinister" | .chevron => "chevron" | .cross => "cross" | .saltire => "saltire" | .chief => "chief" | .bordure => "bordure"
def cName : Charge → String
  | .roundel => "roundel" | .annulet => "annulet" | .lozenge => "lozenge" | .billet => "billet" | .delf => "delf" | .crosslet => "crosslet"
def iKind : Item → String
  | .ordinary o _ => oName o
  | .charges _ c _ => cName c
def iNum : Item → Nat
  | .ordinary _ _ => 1
  | .charges n _ _ => n
def fKind : Field → String
  | .plain _ => "plain"
  | .parted p _ _ => pName p
  | .varied v _ _ _ => vName v

/-! ### the program's tables -/
def tPART : List String := ["pale", "fess", "bend", "chevron", "saltire"]
def tVAR : List String := ["barry", "paly", "bendy", "chequy", "lozengy"]
def tORD : List String := ["fess", "pale", "bend", "chevron", "cross", "saltire", "chief", "bordure"]
def tONE : List String := ["roundel", "annulet", "lozenge", "billet", "delf", "crosslet"]
def tMORE : List String := ["roundels", "annulets", "lozenges", "billets", "delfs", "crosslets"]
def tNUM : List (String × Int) := [("two", 2), ("three", 3), ("four", 4), ("five", 5), ("six", 6), ("eight", 8), ("ten", 10), ("twelve", 12)]
def tNOC : List String := ["two", "three", "four", "five", "six"]
def tNBO : List String := ["two", "four", "six", "eight", "ten", "twelve"]

theorem pick_map {α : Type} (T : List (String × α)) (w : Bytes) (r : List Bytes) : pick (T.map (·.1)) (w :: r) = (T.find? fun o => ascii o.1 == w).map fun o => (o.1, r) := by
  show ((T.map (·.1)).find? fun s => ascii s == w).map (fun s => (s, r)) = _
  rw [List.find?_map, Option.map_map]
  rfl

/-! ### tinctures -/
theorem tincture_none {l : List Bytes} (h : pick TINCTURES l = none) : tincture l = .error l.length := by
  cases l with
  | nil => rfl
  | cons w r =>
    have h' := pick_none h
    have : placeOf TINCTURES w = none := by
      unfold placeOf
      rw [List.findIdx?_eq_none_iff]
      intro x hx
      simpa using h' x hx
    simp [tincture, this, fail]
theorem tincture_some {l r : List Bytes} {n : String} (h : pick TINCTURES l = some (n, r)) : ∃ i, TINCTURES[i]? = some n ∧ (∀ j m, j < i → TINCTURES[j]? = some m → m ≠ n) ∧ tincture l = .ok (i + 1, r) := by
  obtain ⟨rfl, hn⟩ := pick_some h
  have key : ∀ n ∈ TINCTURES, ∃ i, TINCTURES[i]? = some n ∧ (∀ j m, j < i → TINCTURES[j]? = some m → m ≠ n) ∧ placeOf TINCTURES (ascii n) = some i := by
    have : ∀ i : Fin 9, TINCTURES[i.1]? = some (TINCTURES[i.1]'(i.2)) ∧ (∀ j : Fin 9, j.1 < i.1 → TINCTURES[j.1]'(j.2) ≠ TINCTURES[i.1]'(i.2)) ∧ placeOf TINCTURES (ascii (TINCTURES[i.1]'(i.2))) = some i.1 := by decide
    intro n hn
    obtain ⟨i, hi, rfl⟩ := List.mem_iff_getElem.mp hn
    obtain ⟨h1, h2, h3⟩ := this ⟨i, hi⟩
    refine ⟨i, h1, fun j m hj hm e => ?_, h3⟩
    obtain ⟨hj9, hm'⟩ := List.getElem?_eq_some_iff.mp hm
    exact h2 ⟨j, hj9⟩ hj (hm'.trans e)
  obtain ⟨i, h1, h2, h3⟩ := key n hn
  exact ⟨i, h1, h2, by simp [tincture, h3]⟩

/-! ### just a word -/
theorem just_none {s : String} {l : List Bytes} (h : pick [s] l = none) : just s l = .error l.length := by
  cases l with
  | nil => rfl
  | cons w r =>
    have h' := pick_none h s (by simp)
    simp only [just]
    rw [if_neg fun e => h' e.symm]
    rfl
theorem just_some {s n : String} {l r : List Bytes} (h : pick [s] l = some (n, r)) : n = s ∧ just s l = .ok ((), r) := by
  obtain ⟨rfl, hn⟩ := pick_some h
  have : n = s := by simpa using hn
  subst this
  exact ⟨rfl, by simp [just]⟩

/-! ### an item -/
theorem ord_name : ∀ o ∈ ORDINARIES, oName o.2 = o.1 ∧ (o.1 = "bend" ↔ o.2 = .bend) := by decide
theorem one_name : ∀ c ∈ CHARGES, cName c.2.2 = c.1 ∧ c.1 ≠ "bend" := by decide
theorem more_at : ∀ c ∈ CHARGES, ∃ i : Nat, tMORE[i]? = some c.2.1 ∧ (∀ j, j < i → tMORE[j]? ≠ some c.2.1) ∧ tONE[i]? = some c.1 := by
  have h : ∀ c ∈ CHARGES, ∃ i : Fin 6, tMORE[i.1]? = some c.2.1 ∧ (∀ j : Fin 6, j.1 < i.1 → tMORE[j.1]? ≠ some c.2.1) ∧ tONE[i.1]? = some c.1 := by decide
  intro c hc
  obtain ⟨i, h1, h2, h3⟩ := h c hc
  exact ⟨i.1, h1, fun j hj => h2 ⟨j, Nat.lt_trans hj i.2⟩ hj, h3⟩
theorem noc_at : ∀ n ∈ NUMBERS, ∃ i : Nat, placeOf NUMBERS (ascii n) = some i ∧ tNUM.lookup n = some ((i : Int) + 2) ∧ n ≠ "a" := by
  have h : ∀ n ∈ NUMBERS, ∃ i : Fin 5, placeOf NUMBERS (ascii n) = some i.1 ∧ tNUM.lookup n = some ((i.1 : Int) + 2) ∧ n ≠ "a" := by decide
  intro n hn
  obtain ⟨i, h⟩ := h n hn
  exact ⟨i.1, h⟩
theorem find_more (w : Bytes) (r : List Bytes) : pick tMORE (w :: r) = (CHARGES.find? fun c => ascii c.2.1 == w).map fun c => (c.2.1, r) := by
  show ((CHARGES.map (·.2.1)).find? fun s => ascii s == w).map (fun s => (s, r)) = _
  rw [List.find?_map, Option.map_map]
  rfl

/-- what an item's reading comes to, step by step as a reader goes -/
inductive ItemRun (l : List Bytes) : Prop
  | no (h : pick ("a" :: tNOC) l = none) (e : item l = .error l.length)
  | aNo (r : List Bytes) (h : pick ("a" :: tNOC) l = some ("a", r)) (h2 : pickName (tORD ++ tONE) r = none) (e : item l = .error r.length)
  | aTn (r q : List Bytes) (n : String) (k : Nat) (h : pick ("a" :: tNOC) l = some ("a", r)) (h2 : pickName (tORD ++ tONE) r = some (n, q)) (h3 : tincture q = .error k) (e : item l = .error k)
  | aOk (r q z : List Bytes) (n : String) (t : Nat) (i : Item) (h : pick ("a" :: tNOC) l = some ("a", r)) (h2 : pickName (tORD ++ tONE) r = some (n, q)) (h3 : tincture q = .ok (t, z)) (e : item l = .ok (i, z)) (k1 : iKind i = n) (k2 : iNum i = 1) (k3 : tinctureOf i = t)
  | nNo (r : List Bytes) (m : String) (h0 : m ≠ "a") (h : pick ("a" :: tNOC) l = some (m, r)) (h2 : pick tMORE r = none) (e : item l = .error r.length)
  | nTn (r q : List Bytes) (m n : String) (k j : Nat) (c : Int) (o : String) (h0 : m ≠ "a") (h : pick ("a" :: tNOC) l = some (m, r)) (h2 : pick tMORE r = some (n, q)) (h3 : tincture q = .error k) (e : item l = .error k)
      (m1 : tMORE[j]? = some n) (m2 : ∀ j', j' < j → tMORE[j']? ≠ some n) (m3 : tONE[j]? = some o) (m4 : tNUM.lookup m = some c)
  | nOk (r q z : List Bytes) (m n : String) (t j : Nat) (c : Int) (o : String) (i : Item) (h0 : m ≠ "a") (h : pick ("a" :: tNOC) l = some (m, r)) (h2 : pick tMORE r = some (n, q)) (h3 : tincture q = .ok (t, z)) (e : item l = .ok (i, z))
      (m1 : tMORE[j]? = some n) (m2 : ∀ j', j' < j → tMORE[j']? ≠ some n) (m3 : tONE[j]? = some o) (m4 : tNUM.lookup m = some c) (k1 : iKind i = o) (k2 : (iNum i : Int) = c) (k3 : tinctureOf i = t)

theorem pick_ord_one (x : Bytes) (q : List Bytes) : pick (tORD ++ tONE) (x :: q) = (match ORDINARIES.find? fun o => ascii o.1 == x with
    | some o => some (o.1, q)
    | none => (CHARGES.find? fun c => ascii c.1 == x).map fun c => (c.1, q)) := by
  show ((ORDINARIES.map (·.1) ++ CHARGES.map (·.1)).find? fun s => ascii s == x).map (fun s => (s, q)) = _
  rw [List.find?_append, List.find?_map, List.find?_map]
  show Option.map _ (Option.or (Option.map _ (ORDINARIES.find? fun o => ascii o.1 == x)) (Option.map _ (CHARGES.find? fun c => ascii c.1 == x))) = _
  cases ORDINARIES.find? fun o => ascii o.1 == x <;> cases CHARGES.find? fun c => ascii c.1 == x <;> rfl

theorem item_run (l : List Bytes) : ItemRun l := by
  cases l with
  | nil => exact .no rfl rfl
  | cons w r =>
    by_cases hw : w = ascii "a"
    · subst hw
      have h1 : pick ("a" :: tNOC) (ascii "a" :: r) = some ("a", r) := by simp [pick]
      cases r with
      | nil => exact .aNo [] h1 rfl (by simp [item, fail])
      | cons x q =>
        have hp := pick_ord_one x q
        cases ho : ORDINARIES.find? fun o => ascii o.1 == x with
        | some o =>
          rw [ho] at hp
          obtain ⟨on, ob⟩ := ord_name o (List.mem_of_find?_eq_some ho)
          by_cases hb : o.2 = .bend ∧ q.head? = some (ascii "sinister")
          · have h2 : pickName (tORD ++ tONE) (x :: q) = some ("bend sinister", q.drop 1) := by
              simp only [pickName, hp]
              rw [if_pos ⟨ob.mpr hb.1, hb.2⟩]
            have he : item (ascii "a" :: x :: q) = (tincture (q.drop 1)).map fun t => (.ordinary .sinister t.1, t.2) := by
              simp only [item, ho, if_true]
              rw [if_pos hb]
            cases ht : tincture (q.drop 1) with
            | error k => exact .aTn _ _ _ k h1 h2 ht (by rw [he, ht]; rfl)
            | ok z => exact .aOk _ _ z.2 _ z.1 (.ordinary .sinister z.1) h1 h2 ht (by rw [he, ht]; rfl) rfl rfl rfl
          · have h2 : pickName (tORD ++ tONE) (x :: q) = some (o.1, q) := by
              simp only [pickName, hp]
              rw [if_neg fun c => hb ⟨ob.mp c.1, c.2⟩]
            have he : item (ascii "a" :: x :: q) = (tincture q).map fun t => (.ordinary o.2 t.1, t.2) := by
              simp only [item, ho, if_true]
              rw [if_neg hb]
            cases ht : tincture q with
            | error k => exact .aTn _ _ _ k h1 h2 ht (by rw [he, ht]; rfl)
            | ok z => exact .aOk _ _ z.2 _ z.1 (.ordinary o.2 z.1) h1 h2 ht (by rw [he, ht]; rfl) on rfl rfl
        | none =>
          rw [ho] at hp
          cases hc : CHARGES.find? fun c => ascii c.1 == x with
          | none =>
            rw [hc] at hp
            exact .aNo _ h1 (by simp only [pickName, hp]; rfl) (by simp only [item, ho, hc, if_true]; rfl)
          | some c =>
            rw [hc] at hp
            obtain ⟨cn, cb⟩ := one_name c (List.mem_of_find?_eq_some hc)
            have hp' : pick (tORD ++ tONE) (x :: q) = some (c.1, q) := hp
            have h2 : pickName (tORD ++ tONE) (x :: q) = some (c.1, q) := by
              simp only [pickName, hp']
              rw [if_neg fun e => cb e.1]
            have he : item (ascii "a" :: x :: q) = (tincture q).map fun t => (.charges 1 c.2.2 t.1, t.2) := by
              simp only [item, ho, hc, if_true]
            cases ht : tincture q with
            | error k => exact .aTn _ _ _ k h1 h2 ht (by rw [he, ht]; rfl)
            | ok z => exact .aOk _ _ z.2 _ z.1 (.charges 1 c.2.2 z.1) h1 h2 ht (by rw [he, ht]; rfl) cn rfl rfl
    · cases hpk : pick ("a" :: tNOC) (w :: r) with
      | none =>
        refine .no hpk ?_
        have h' := pick_none hpk
        have : placeOf NUMBERS w = none := by
          unfold placeOf
          rw [List.findIdx?_eq_none_iff]
          intro y hy
          simpa using h' y (List.mem_cons_of_mem _ hy)
        simp [item, hw, this, fail]
      | some p =>
        obtain ⟨m, r'⟩ := p
        obtain ⟨e1, hm⟩ := pick_some hpk
        simp only [List.cons.injEq] at e1
        obtain ⟨rfl, rfl⟩ := e1
        have hm' : m ∈ NUMBERS := by
          rcases List.mem_cons.mp hm with e | e
          · exact absurd (by rw [e]) hw
          · exact e
        obtain ⟨i, hi, hc, hne⟩ := noc_at m hm'
        cases r with
        | nil => exact .nNo [] m hne hpk rfl (by simp [item, hw, hi, fail])
        | cons x q =>
          have hp := find_more x q
          cases hf : CHARGES.find? fun c => ascii c.2.1 == x with
          | none =>
            rw [hf] at hp
            exact .nNo _ m hne hpk hp (by simp [item, hw, hi, hf, fail])
          | some c =>
            rw [hf] at hp
            have hmem := List.mem_of_find?_eq_some hf
            obtain ⟨j, j1, j2, j3⟩ := more_at c hmem
            have he : item (ascii m :: x :: q) = (tincture q).map fun t => (.charges (i + 2) c.2.2 t.1, t.2) := by
              simp [item, hw, hi, hf]
            cases ht : tincture q with
            | error k => exact .nTn _ _ m _ k j _ _ hne hpk hp ht (by rw [he, ht]; rfl) j1 j2 j3 hc
            | ok z => exact .nOk _ _ z.2 m _ z.1 j _ _ (.charges (i + 2) c.2.2 z.1) hne hpk hp ht (by rw [he, ht]; rfl) j1 j2 j3 hc (one_name c hmem).1 (by show ((i + 2 : Nat) : Int) = _; omega) rfl

/-! ### reading without a measure -/
def itemsD (l : List Bytes) : Read (List Item) := items (l.length + 1) l
abbrev Sub := Option (List Bytes → Read Arms)
def halfW (sub : Sub) (l : List Bytes) : Read Half :=
  if l.head? = some [40] then (match sub with
    | none => .error l.length
    | some g => (g (l.drop 1)).bind fun x => (just ")" x.2).map fun z => (.arms x.1, z.2))
  else (tincture l).map fun t => (.plain t.1, t.2)
def halvesW (sub : Sub) (p : Parting) (l : List Bytes) : Read Field :=
  (halfW sub l).bind fun a => (just "and" a.2).bind fun z => (halfW sub z.2).map fun b => (.parted p a.1 b.1, b.2)
def partedW (sub : Sub) (l : List Bytes) : Read Field := match l with
  | [] => .error 0
  | w :: r => if w = ascii "per" then (match r with
      | [] => .error 0
      | x :: q => match PARTED.find? fun p => ascii p.1 == x with
        | none => .error r.length
        | some p => if p.2 = .bend ∧ q.head? = some (ascii "sinister") then halvesW sub .sinister (q.drop 1) else halvesW sub p.2 q)
    else if w = ascii "quarterly" then halvesW sub .quarterly r else .error l.length
def variedW (l : List Bytes) : Read Field := match l with
  | [] => .error 0
  | w :: r => match VARIED.find? fun v => ascii v.1 == w with
    | some v => (just "of" r).bind fun x => match x.2 with
      | [] => .error 0
      | y :: q => match EVEN.find? fun e => ascii e.1 == y with
        | none => .error (q.length + 1)
        | some e => (tincture q).bind fun t => (just "and" t.2).bind fun z => (tincture z.2).map fun u => (.varied v.2 e.2 t.1 u.1, u.2)
    | none => .error l.length
def plainW (l : List Bytes) : Read Field := (tincture l).map fun t => (.plain t.1, t.2)
def fieldW (sub : Sub) (l : List Bytes) : Read Field :=
  if (pick ["per", "quarterly"] l).isSome then partedW sub l else if (pick tVAR l).isSome then variedW l else plainW l
def armsW (sub : Sub) (l : List Bytes) : Read Arms := (fieldW sub l).bind fun x => (itemsD x.2).map fun y => (.mk x.1 y.1, y.2)
def subD : Nat → Sub
  | 0 => none
  | d + 1 => some (armsW (subD d))
def armsD (d : Nat) (l : List Bytes) : Read Arms := armsW (subD d) l

/-! ### lengths -/
def Shr {α : Type} (P : List Bytes → Read α) : Prop := ∀ l a r, P l = .ok (a, r) → r.length < l.length
def ShrE {α : Type} (P : List Bytes → Read α) : Prop := ∀ l a r, P l = .ok (a, r) → r.length ≤ l.length
theorem shr_tincture : Shr tincture := by
  intro l a r h
  cases l with
  | nil => cases h
  | cons w q =>
    cases hp : placeOf TINCTURES w with
    | none => simp [tincture, hp, fail] at h
    | some i => simp [tincture, hp] at h; simp [h.2]
theorem shr_just (s : String) : Shr (just s) := by
  intro l a r h
  cases l with
  | nil => cases h
  | cons w q =>
    by_cases hw : w = ascii s
    · simp [just, hw] at h; simp [h]
    · simp [just, hw, fail] at h
theorem bind_ok {ε α β : Type} {x : Except ε α} {f : α → Except ε β} {b : β} (h : x.bind f = .ok b) : ∃ a, x = .ok a ∧ f a = .ok b := by
  cases x with
  | error e => cases h
  | ok a => exact ⟨a, rfl, h⟩
theorem map_ok {ε α β : Type} {x : Except ε α} {f : α → β} {b : β} (h : x.map f = .ok b) : ∃ a, x = .ok a ∧ f a = b := by
  cases x with
  | error e => cases h
  | ok a => exact ⟨a, rfl, by cases h; rfl⟩
theorem shr_item : Shr item := by
  intro l a r h
  have key : ∀ q (f : Nat × List Bytes → Item × List Bytes), (∀ t, (f t).2 = t.2) → (tincture q).map f = .ok (a, r) → r.length < q.length := by
    intro q f hf e
    obtain ⟨t, ht, e'⟩ := map_ok e
    have := shr_tincture q t.1 t.2 ht
    have e2 := hf t
    rw [e'] at e2
    simp only at e2
    rw [e2]; exact this
  cases item_run l with
  | no _ e => rw [e] at h; cases h
  | aNo _ _ _ e => rw [e] at h; cases h
  | aTn _ _ _ _ _ _ _ e => rw [e] at h; cases h
  | nNo _ _ _ _ _ e => rw [e] at h; cases h
  | nTn _ _ _ _ _ _ _ _ _ _ _ _ e => rw [e] at h; cases h
  | aOk r' q z n t i h1 h2 h3 e _ _ _ =>
    rw [e] at h; cases h
    have := shr_tincture _ _ _ h3
    obtain ⟨rfl, _⟩ := pick_some h1
    have hq : q.length ≤ r'.length := by
      simp only [pickName] at h2
      split at h2
      · cases h2
      · rename_i n' r'' hp
        obtain ⟨rfl, _⟩ := pick_some hp
        split at h2
        · cases h2; simp; omega
        · cases h2; simp
    simp; omega
  | nOk r' q z m n t j c o i h0 h1 h2 h3 e _ _ _ _ _ _ _ =>
    rw [e] at h; cases h
    have := shr_tincture _ _ _ h3
    obtain ⟨rfl, _⟩ := pick_some h1
    obtain ⟨rfl, _⟩ := pick_some h2
    simp; omega
theorem items_fuel : ∀ (n f : Nat) (l : List Bytes), l.length ≤ n → l.length < f → items f l = itemsD l := by
  intro n
  induction n with
  | zero =>
    intro f l h1 h2
    cases l with
    | nil => cases f with
      | zero => omega
      | succ f => rfl
    | cons _ _ => simp at h1
  | succ n ih =>
    intro f l h1 h2
    cases f with
    | zero => omega
    | succ f =>
      unfold itemsD
      simp only [items]
      by_cases hc : l.head? = some [44]
      · rw [if_pos hc, if_pos hc]
        cases hi : item (l.drop 1) with
        | error e => rfl
        | ok x =>
          have hl := shr_item _ _ _ (show item (l.drop 1) = .ok (x.1, x.2) from hi)
          have hd : (l.drop 1).length < l.length := by cases l with
            | nil => cases hc
            | cons _ _ => simp
          have e1 : items f x.2 = itemsD x.2 := ih f x.2 (by omega) (by omega)
          have e2 : items l.length x.2 = itemsD x.2 := ih l.length x.2 (by omega) (by omega)
          show (items f x.2).map _ = (items l.length x.2).map _
          rw [e1, e2]
      · rw [if_neg hc, if_neg hc]
theorem itemsD_eq (l : List Bytes) : itemsD l = if l.head? = some [44] then (item (l.drop 1)).bind fun x => (itemsD x.2).map fun y => (x.1 :: y.1, y.2) else .ok ([], l) := by
  show items (l.length + 1) l = _
  simp only [items]
  by_cases hc : l.head? = some [44]
  · rw [if_pos hc, if_pos hc]
    cases hi : item (l.drop 1) with
    | error e => rfl
    | ok x =>
      have hl := shr_item _ _ _ (show item (l.drop 1) = .ok (x.1, x.2) from hi)
      have hd : (l.drop 1).length < l.length := by cases l with
        | nil => cases hc
        | cons _ _ => simp
      show (items l.length x.2).map _ = (itemsD x.2).map _
      rw [items_fuel _ _ _ (Nat.le_refl _) (by omega)]
  · rw [if_neg hc, if_neg hc]
theorem shr_items : ShrE itemsD := by
  intro l
  induction hn : l.length using Nat.strongRecOn generalizing l with
  | _ n ih =>
    intro a r h
    rw [itemsD_eq] at h
    by_cases hc : l.head? = some [44]
    · rw [if_pos hc] at h
      obtain ⟨x, hx, h2⟩ := bind_ok h
      obtain ⟨y, hy, h3⟩ := map_ok h2
      have hl := shr_item _ _ _ (show item (l.drop 1) = .ok (x.1, x.2) from hx)
      have hd : (l.drop 1).length < l.length := by cases l with
        | nil => cases hc
        | cons _ _ => simp
      have := ih x.2.length (by omega) x.2 rfl y.1 y.2 hy
      cases h3
      omega
    · rw [if_neg hc] at h
      cases h
      omega
def ShrS (sub : Sub) : Prop := ∀ g, sub = some g → Shr g
theorem shr_half {sub : Sub} (hs : ShrS sub) : Shr (halfW sub) := by
  intro l a r h
  unfold halfW at h
  split at h
  · rename_i hc
    have hd : (l.drop 1).length < l.length := by cases l with
      | nil => cases hc
      | cons _ _ => simp
    split at h
    · cases h
    · rename_i g
      obtain ⟨x, hx, h2⟩ := bind_ok h
      obtain ⟨z, hz, h3⟩ := map_ok h2
      have h4 := hs g rfl _ x.1 x.2 hx
      have h5 := shr_just _ _ z.1 z.2 hz
      cases h3
      omega
  · obtain ⟨t, ht, h2⟩ := map_ok h
    have := shr_tincture _ t.1 t.2 ht
    cases h2
    exact this
theorem shr_halves {sub : Sub} (hs : ShrS sub) (p : Parting) : Shr (halvesW sub p) := by
  intro l a r h
  obtain ⟨x, hx, h2⟩ := bind_ok h
  obtain ⟨z, hz, h3⟩ := bind_ok h2
  obtain ⟨y, hy, h4⟩ := map_ok h3
  have a1 := shr_half hs _ x.1 x.2 hx
  have a2 := shr_just _ _ z.1 z.2 hz
  have a3 := shr_half hs _ y.1 y.2 hy
  cases h4
  omega
theorem shr_parted {sub : Sub} (hs : ShrS sub) : Shr (partedW sub) := by
  intro l a r h
  unfold partedW at h
  split at h
  · cases h
  · rename_i w q
    split at h
    · split at h
      · cases h
      · rename_i x q
        split at h
        · cases h
        · split at h
          · have := shr_halves hs _ _ _ _ h
            simp at this ⊢; omega
          · have := shr_halves hs _ _ _ _ h
            simp at this ⊢; omega
    · split at h
      · have := shr_halves hs _ _ _ _ h
        simp; omega
      · cases h
theorem shr_varied : Shr variedW := by
  intro l a r h
  unfold variedW at h
  split at h
  · cases h
  · rename_i w q
    split at h
    · obtain ⟨x, hx, h2⟩ := bind_ok h
      have a0 := shr_just _ _ x.1 x.2 hx
      split at h2
      · cases h2
      · rename_i y q' e0
        split at h2
        · cases h2
        · obtain ⟨t, ht, h3⟩ := bind_ok h2
          obtain ⟨z, hz, h4⟩ := bind_ok h3
          obtain ⟨u, hu, h5⟩ := map_ok h4
          have a1 := shr_tincture _ t.1 t.2 ht
          have a2 := shr_just _ _ z.1 z.2 hz
          have a3 := shr_tincture _ u.1 u.2 hu
          cases h5
          rw [e0] at a0
          simp at a0 ⊢; omega
    · cases h
theorem shr_plain : Shr plainW := by
  intro l a r h
  obtain ⟨t, ht, h2⟩ := map_ok h
  have := shr_tincture _ t.1 t.2 ht
  cases h2
  exact this
theorem shr_field {sub : Sub} (hs : ShrS sub) : Shr (fieldW sub) := by
  intro l a r h
  unfold fieldW at h
  split at h
  · exact shr_parted hs _ _ _ h
  · split at h
    · exact shr_varied _ _ _ h
    · exact shr_plain _ _ _ h
theorem shr_arms {sub : Sub} (hs : ShrS sub) : Shr (armsW sub) := by
  intro l a r h
  obtain ⟨x, hx, h2⟩ := bind_ok h
  obtain ⟨y, hy, h3⟩ := map_ok h2
  have a1 := shr_field hs _ x.1 x.2 hx
  have a2 := shr_items _ y.1 y.2 hy
  cases h3
  omega
theorem shr_sub : ∀ d, ShrS (subD d)
  | 0 => fun g h => by cases h
  | d + 1 => fun g h => by cases h; exact shr_arms (shr_sub d)
end A57

namespace A57
open Sa57

theorem pick_pq (w : Bytes) (r : List Bytes) : (pick ["per", "quarterly"] (w :: r)).isSome = decide (w = ascii "per" ∨ w = ascii "quarterly") := by
  by_cases h1 : w = ascii "per"
  · subst h1; simp [pick]
  · by_cases h2 : w = ascii "quarterly"
    · subst h2
      have : (ascii "per" == ascii "quarterly") = false := by decide
      simp [pick, List.find?, this]
    · have e1 : (ascii "per" == w) = false := by simpa using fun e => h1 e.symm
      have e2 : (ascii "quarterly" == w) = false := by simpa using fun e => h2 e.symm
      simp [pick, List.find?, e1, e2, h1, h2]
theorem var_names : tVAR = VARIED.map (·.1) := rfl
theorem pick_var (w : Bytes) (r : List Bytes) : (pick tVAR (w :: r)).isSome = (VARIED.find? fun v => ascii v.1 == w).isSome := by
  rw [var_names, pick_map, Option.isSome_map]

section
variable {N : Nat} (ih : ∀ d l f, l.length < N → 4 * l.length + 2 ≤ f → arms f d l = armsD d l)
include ih
theorem half_eq (d : Nat) (l : List Bytes) (f : Nat) (hl : l.length ≤ N) (hf : 4 * l.length + 1 ≤ f) : half f d l = halfW (subD d) l := by
  cases f with
  | zero => omega
  | succ f =>
    unfold halfW
    simp only [half]
    by_cases hc : l.head? = some [40]
    · rw [if_pos hc, if_pos hc]
      have hd : (l.drop 1).length + 1 = l.length := by cases l with
        | nil => cases hc
        | cons _ _ => simp
      cases d with
      | zero => rfl
      | succ d =>
        rw [if_neg (Nat.succ_ne_zero d), Nat.add_sub_cancel, ih d (l.drop 1) f (by omega) (by omega)]
        rfl
    · rw [if_neg hc, if_neg hc]
theorem halves_eq (d : Nat) (p : Parting) (l : List Bytes) (f : Nat) (hl : l.length ≤ N) (hf : 4 * l.length + 2 ≤ f) : halves f d p l = halvesW (subD d) p l := by
  cases f with
  | zero => omega
  | succ f =>
    unfold halvesW
    simp only [halves]
    rw [half_eq ih d l f hl (by omega)]
    cases h1 : halfW (subD d) l with
    | error e => rfl
    | ok a =>
      have a1 := shr_half (shr_sub d) l a.1 a.2 h1
      show (just "and" a.2).bind _ = (just "and" a.2).bind _
      cases h2 : just "and" a.2 with
      | error e => rfl
      | ok z =>
        have a2 := shr_just _ _ z.1 z.2 h2
        show (half f d z.2).map _ = (halfW (subD d) z.2).map _
        rw [half_eq ih d z.2 f (by omega) (by omega)]
theorem field_eq (d : Nat) (l : List Bytes) (f : Nat) (hl : l.length ≤ N) (hf : 4 * l.length + 1 ≤ f) : field f d l = fieldW (subD d) l := by
  cases f with
  | zero => omega
  | succ f =>
    cases l with
    | nil =>
      rw [Sa57.field.eq_2]
      rfl
    | cons w r =>
      have hl' : r.length + 1 ≤ N := hl
      have hf' : 4 * (r.length + 1) + 1 ≤ f + 1 := hf
      unfold fieldW
      rw [pick_pq, pick_var, Sa57.field.eq_def]
      dsimp only
      by_cases h1 : w = ascii "per"
      · subst h1
        rw [if_pos (by simp)]
        simp only [partedW, if_true]
        cases r with
        | nil => rfl
        | cons x q =>
          simp only [List.length_cons] at hl' hf'
          dsimp only
          cases hp : PARTED.find? fun p => ascii p.1 == x with
          | none => rfl
          | some p =>
            dsimp only
            by_cases hb : p.2 = .bend ∧ q.head? = some (ascii "sinister")
            · rw [if_pos hb, if_pos hb]
              exact halves_eq ih d _ _ f (by simp; omega) (by simp; omega)
            · rw [if_neg hb, if_neg hb]
              exact halves_eq ih d _ _ f (by omega) (by omega)
      · by_cases h2 : w = ascii "quarterly"
        · subst h2
          have e : decide (ascii "quarterly" = ascii "per" ∨ ascii "quarterly" = ascii "quarterly") = true := by simp
          simp only [e, partedW, if_neg h1, if_true]
          exact halves_eq ih d _ r f (by omega) (by omega)
        · have e : decide (w = ascii "per" ∨ w = ascii "quarterly") = false := by simp [h1, h2]
          simp only [e, if_neg h1, if_neg h2, Bool.false_eq_true, if_false]
          cases hv : VARIED.find? fun v => ascii v.1 == w with
          | none => rfl
          | some v =>
            simp only [Option.isSome_some, if_true, variedW, hv]
            rfl
end
theorem arms_eq : ∀ (N d : Nat) (l : List Bytes) (f : Nat), l.length < N → 4 * l.length + 2 ≤ f → arms f d l = armsD d l := by
  intro N
  induction N with
  | zero => intro d l f h; omega
  | succ N ih =>
    intro d l f hl hf
    cases f with
    | zero => omega
    | succ f =>
      rw [Sa57.arms.eq_2]
      show (field f d l).bind _ = (fieldW (subD d) l).bind _
      rw [field_eq (N := N) ih d l f (by omega) (by omega)]
      cases h1 : fieldW (subD d) l with
      | error e => rfl
      | ok x =>
        have a1 := shr_field (shr_sub d) l x.1 x.2 h1
        show (items (l.length + 1) x.2).map _ = (itemsD x.2).map _
        rw [items_fuel _ _ _ (Nat.le_refl _) (by omega)]

/-! ### the last word put another -/
def bad : Bytes := [63]
abbrev EndA {α : Type} (x : Bytes) (R : Read α) : Prop := R = .error 0 ∨ R = .error 1 ∨ (∃ a, R = .ok (a, [])) ∨ ∃ a, R = .ok (a, [x])
abbrev EndB {α : Type} (R : Read α) : Prop := R = .error 1 ∨ ∃ a, R = .ok (a, [bad])
abbrev End0 {α : Type} (R : Read α) : Prop := R = .error 0 ∨ ∃ a, R = .ok (a, [])
def SwR {α : Type} (x : Bytes) (A B : Read α) : Prop := (EndA x A ∧ EndB B) ∨ (∃ k, 2 ≤ k ∧ A = .error k ∧ B = .error k) ∨ ∃ a r, r ≠ [] ∧ A = .ok (a, r ++ [x]) ∧ B = .ok (a, r ++ [bad])
structure S3 {α : Type} (P : List Bytes → Read α) : Prop where
  sw : ∀ v x, v ≠ [] → SwR x (P (v ++ [x])) (P (v ++ [bad]))
  one : ∀ x, EndA x (P [x])
  bd : EndB (P [bad])
  nil : End0 (P [])
theorem S3.bind {α β : Type} {P : List Bytes → Read α} {F : α → List Bytes → Read β} (h : S3 P) (hF : ∀ a, S3 (F a)) : S3 fun l => (P l).bind fun x => F x.1 x.2 := by
  have endA : ∀ x (R : Read α), EndA x R → EndA x (R.bind fun y => F y.1 y.2) := by
    rintro x R (rfl | rfl | ⟨a, rfl⟩ | ⟨a, rfl⟩)
    · exact .inl rfl
    · exact .inr (.inl rfl)
    · rcases (hF a).nil with e | ⟨b, e⟩
      · exact .inl e
      · exact .inr (.inr (.inl ⟨b, e⟩))
    · exact (hF a).one x
  have endB : ∀ (R : Read α), EndB R → EndB (R.bind fun y => F y.1 y.2) := by
    rintro R (rfl | ⟨a, rfl⟩)
    · exact .inl rfl
    · exact (hF a).bd
  refine ⟨fun v x hv => ?_, fun x => endA x _ (h.one x), endB _ h.bd, ?_⟩
  · rcases h.sw v x hv with ⟨ha, hb⟩ | ⟨k, hk, ea, eb⟩ | ⟨a, r, hr, ea, eb⟩
    · exact .inl ⟨endA x _ ha, endB _ hb⟩
    · refine .inr (.inl ⟨k, hk, ?_, ?_⟩)
      · show (P (v ++ [x])).bind _ = _
        rw [ea]; rfl
      · show (P (v ++ [bad])).bind _ = _
        rw [eb]; rfl
    · have := (hF a).sw r x hr
      show SwR x ((P (v ++ [x])).bind _) ((P (v ++ [bad])).bind _)
      rw [ea, eb]
      exact this
  · show End0 ((P []).bind _)
    rcases h.nil with e | ⟨a, e⟩
    · rw [e]; exact .inl rfl
    · rw [e]; exact (hF a).nil
theorem S3.pure {α : Type} (a : α) : S3 fun l => (.ok (a, l) : Read α) :=
  ⟨fun v _ hv => .inr (.inr ⟨a, v, hv, rfl, rfl⟩), fun _ => .inr (.inr (.inr ⟨a, rfl⟩)), .inr ⟨a, rfl⟩, .inr ⟨a, rfl⟩⟩
theorem S3.map {α β : Type} {P : List Bytes → Read α} (h : S3 P) (f : α → β) : S3 fun l => (P l).map fun x => (f x.1, x.2) := by
  have e : (fun l => (P l).map fun x => (f x.1, x.2)) = fun l => (P l).bind fun x => (.ok (f x.1, x.2) : Read β) := by
    funext l
    cases P l <;> rfl
  rw [e]
  exact h.bind fun a => S3.pure (f a)
theorem S3.fail {α : Type} : S3 fun l => (.error l.length : Read α) := by
  refine ⟨fun v x hv => .inr (.inl ⟨v.length + 1, ?_, by simp, by simp⟩), fun x => .inr (.inl rfl), .inl rfl, .inl rfl⟩
  cases v with
  | nil => exact absurd rfl hv
  | cons _ _ => simp
theorem S3.cond {α : Type} {P P1 P2 : List Bytes → Read α} (t : Bytes) (ht : t ≠ bad) (h1 : S3 P1) (h2 : S3 P2) (e : ∀ l, P l = if l.head? = some t then P1 (l.drop 1) else P2 l) : S3 P := by
  refine ⟨fun v x hv => ?_, fun x => ?_, ?_, ?_⟩
  · cases v with
    | nil => exact absurd rfl hv
    | cons w v =>
      rw [e, e]
      by_cases hw : w = t
      · subst hw
        rw [if_pos (by simp), if_pos (by simp)]
        simp only [List.cons_append, List.drop_succ_cons, List.drop_zero]
        cases v with
        | nil => exact .inl ⟨h1.one x, h1.bd⟩
        | cons u v => exact h1.sw (u :: v) x (by simp)
      · rw [if_neg (by simp [hw]), if_neg (by simp [hw])]
        exact h2.sw _ x hv
  · rw [e]
    by_cases hw : x = t
    · subst hw
      rw [if_pos (by simp)]
      rcases h1.nil with q | ⟨a, q⟩
      · exact .inl q
      · exact .inr (.inr (.inl ⟨a, q⟩))
    · rw [if_neg (by simp [hw])]
      exact h2.one x
  · rw [e, if_neg (by simpa using fun q => ht q.symm)]
    exact h2.bd
  · rw [e, if_neg (by simp)]
    exact h2.nil
/-- by the first word -/
theorem S3.step {α : Type} {P : List Bytes → Read α} (h0 : P [] = .error 0) (hb : ∀ r, P (bad :: r) = .error (r.length + 1)) (hw : ∀ w, (∀ r, P (w :: r) = .error (r.length + 1)) ∨ ∃ G : List Bytes → Read α, S3 G ∧ ∀ r, P (w :: r) = G r) : S3 P := by
  refine ⟨fun v x hv => ?_, fun x => ?_, .inl (hb []), .inl h0⟩
  · cases v with
    | nil => exact absurd rfl hv
    | cons w v =>
      rcases hw w with e | ⟨G, hG, e⟩
      · exact .inr (.inl ⟨v.length + 2, by omega, by rw [List.cons_append, e]; simp, by rw [List.cons_append, e]; simp⟩)
      · rw [List.cons_append, List.cons_append, e, e]
        cases v with
        | nil => exact .inl ⟨hG.one x, hG.bd⟩
        | cons u v => exact hG.sw (u :: v) x (by simp)
  · rcases hw x with e | ⟨G, hG, e⟩
    · exact .inr (.inl (e []))
    · rw [e]
      rcases hG.nil with q | ⟨a, q⟩
      · exact .inl q
      · exact .inr (.inr (.inl ⟨a, q⟩))
theorem s3_tincture : S3 tincture := by
  refine S3.step rfl (fun r => by have : placeOf TINCTURES bad = none := by decide
                                  simp [tincture, this, fail]) fun w => ?_
  cases hp : placeOf TINCTURES w with
  | none => exact .inl fun r => by simp [tincture, hp, fail]
  | some i => exact .inr ⟨_, S3.pure (i + 1), fun r => by simp [tincture, hp]⟩
theorem s3_just (s : String) (hs : ascii s ≠ bad) : S3 (just s) := by
  refine S3.step rfl (fun r => by simp [just, fail, Ne.symm hs]) fun w => ?_
  by_cases hw : w = ascii s
  · exact .inr ⟨_, S3.pure (), fun r => by simp [just, hw]⟩
  · exact .inl fun r => by simp [just, hw, fail]
theorem s3_tinc {α : Type} (f : Nat → α) : S3 fun q => (tincture q).map fun t => (f t.1, t.2) := s3_tincture.map f
end A57

namespace A57
open Sa57
theorem S3.head {α : Type} {P P1 P2 : List Bytes → Read α} (c : Option Bytes → Bool) (hb : c (some bad) = false) (h0 : c none = false) (h1 : S3 P1) (h2 : S3 P2) (e : ∀ l, P l = if c l.head? = true then P1 l else P2 l) : S3 P := by
  refine ⟨fun v x hv => ?_, fun x => ?_, ?_, ?_⟩
  · cases v with
    | nil => exact absurd rfl hv
    | cons w v =>
      rw [e, e]
      show SwR x (if c (some w) = true then _ else _) (if c (some w) = true then _ else _)
      cases c (some w) with
      | true => exact h1.sw _ x hv
      | false => exact h2.sw _ x hv
  · rw [e]
    show EndA x (if c (some x) = true then _ else _)
    cases c (some x) with
    | true => exact h1.one x
    | false => exact h2.one x
  · rw [e]
    show EndB (if c (some bad) = true then _ else _)
    rw [hb]
    exact h2.bd
  · rw [e]
    show End0 (if c none = true then _ else _)
    rw [h0]
    exact h2.nil
theorem sin_ne : ascii "sinister" ≠ bad := by decide
theorem s3_name {α : Type} (p : Bool) {P1 P2 : List Bytes → Read α} (h1 : S3 P1) (h2 : S3 P2) : S3 fun q => if p = true ∧ q.head? = some (ascii "sinister") then P1 (q.drop 1) else P2 q := by
  cases p with
  | true => exact S3.cond (ascii "sinister") sin_ne h1 h2 fun l => by simp
  | false => simpa using h2
theorem s3_item : S3 item := by
  refine S3.step rfl (fun r => ?_) fun w => ?_
  · have h1 : bad ≠ ascii "a" := by decide
    have h2 : placeOf NUMBERS bad = none := by decide
    simp [item, h1, h2, fail]
  · by_cases hw : w = ascii "a"
    · subst hw
      refine .inr ⟨fun r => item (ascii "a" :: r), S3.step (by simp [item, fail]) (fun r => ?_) fun x => ?_, fun r => rfl⟩
      · have h1 : (ORDINARIES.find? fun o => ascii o.1 == bad) = none := by decide
        have h2 : (CHARGES.find? fun o => ascii o.1 == bad) = none := by decide
        simp [item, h1, h2, fail]
      · cases ho : ORDINARIES.find? fun o => ascii o.1 == x with
        | some o =>
          refine .inr ⟨_, s3_name (decide (o.2 = .bend)) (s3_tinc (Item.ordinary .sinister)) (s3_tinc (Item.ordinary o.2)), fun r => ?_⟩
          simp only [item, ho, if_true]
          simp
        | none =>
          cases hc : CHARGES.find? fun c => ascii c.1 == x with
          | some c =>
            refine .inr ⟨_, s3_tinc (Item.charges 1 c.2.2), fun r => ?_⟩
            simp only [item, ho, hc, if_true]
          | none => exact .inl fun r => by simp only [item, ho, hc, if_true]; rfl
    · cases hn : placeOf NUMBERS w with
      | none => exact .inl fun r => by simp [item, hw, hn, fail]
      | some n =>
        refine .inr ⟨fun r => item (w :: r), S3.step (by simp [item, hw, hn, fail]) (fun r => ?_) fun x => ?_, fun r => rfl⟩
        · have h2 : (CHARGES.find? fun o => ascii o.2.1 == bad) = none := by decide
          simp [item, hw, hn, h2, fail]
        · cases hc : CHARGES.find? fun c => ascii c.2.1 == x with
          | some c => exact .inr ⟨_, s3_tinc (Item.charges (n + 2) c.2.2), fun r => by simp [item, hw, hn, hc]⟩
          | none => exact .inl fun r => by simp [item, hw, hn, hc, fail]
theorem com_ne : ([44] : Bytes) ≠ bad := by decide
theorem par_ne : ([40] : Bytes) ≠ bad := by decide
/-- items, up to so many -/
def itemsN : Nat → List Bytes → Read (List Item)
  | 0, l => .error l.length
  | n + 1, l => if l.head? = some [44] then (item (l.drop 1)).bind fun x => (itemsN n x.2).map fun y => (x.1 :: y.1, y.2) else .ok ([], l)
theorem s3_itemsN : ∀ n, S3 (itemsN n)
  | 0 => S3.fail
  | n + 1 => S3.cond [44] com_ne (s3_item.bind fun x => (s3_itemsN n).map fun y => x :: y) (S3.pure []) fun l => rfl
theorem itemsN_eq : ∀ n l, itemsN n l = items n l
  | 0, l => rfl
  | n + 1, l => by
    have : (fun x : Item × List Bytes => (itemsN n x.2).map fun y => (x.1 :: y.1, y.2)) = fun x => (items n x.2).map fun y => (x.1 :: y.1, y.2) := by
      funext x; rw [itemsN_eq n]
    show (if l.head? = some [44] then (item (l.drop 1)).bind _ else _) = _
    rw [this]
    rfl
theorem s3_items : S3 itemsD := by
  have key : ∀ l n, l.length < n → itemsD l = itemsN n l := fun l n h => by rw [itemsN_eq, items_fuel _ _ _ (Nat.le_refl _) h]
  refine ⟨fun v x hv => ?_, fun x => ?_, ?_, ?_⟩
  · rw [key (v ++ [x]) (v.length + 2) (by simp), key (v ++ [bad]) (v.length + 2) (by simp)]
    exact (s3_itemsN _).sw v x hv
  · rw [key [x] 2 (by simp)]; exact (s3_itemsN 2).one x
  · rw [key [bad] 2 (by simp)]; exact (s3_itemsN 2).bd
  · rw [key [] 1 (by simp)]; exact (s3_itemsN 1).nil
def S3S (sub : Sub) : Prop := ∀ g, sub = some g → S3 g
theorem and_ne : ascii "and" ≠ bad := by decide
theorem of_ne : ascii "of" ≠ bad := by decide
theorem cl_ne : ascii ")" ≠ bad := by decide
theorem s3_half {sub : Sub} (hs : S3S sub) : S3 (halfW sub) := by
  cases sub with
  | none => exact S3.head (fun o => o == some [40]) (by decide) (by decide) S3.fail (s3_tinc Half.plain) fun l => by simp [halfW]
  | some g =>
    refine S3.cond [40] par_ne (P1 := fun r => (g r).bind fun x => (just ")" x.2).map fun z => (Half.arms x.1, z.2)) ((hs g rfl).bind fun x => (s3_just ")" cl_ne).map fun _ => Half.arms x) (s3_tinc Half.plain) fun l => ?_
    rfl
theorem s3_halves {sub : Sub} (hs : S3S sub) (p : Parting) : S3 (halvesW sub p) :=
  (s3_half hs).bind fun a => (s3_just "and" and_ne).bind fun _ => (s3_half hs).map fun b => Field.parted p a b
theorem s3_parted {sub : Sub} (hs : S3S sub) : S3 (partedW sub) := by
  refine S3.step rfl (fun r => ?_) fun w => ?_
  · have h1 : bad ≠ ascii "per" := by decide
    have h2 : bad ≠ ascii "quarterly" := by decide
    simp [partedW, h1, h2]
  · by_cases hw : w = ascii "per"
    · subst hw
      refine .inr ⟨fun r => partedW sub (ascii "per" :: r), S3.step (by simp [partedW]) (fun r => ?_) fun x => ?_, fun r => rfl⟩
      · have h1 : (PARTED.find? fun o => ascii o.1 == bad) = none := by decide
        simp [partedW, h1]
      · cases ho : PARTED.find? fun o => ascii o.1 == x with
        | none => exact .inl fun r => by simp [partedW, ho]
        | some p =>
          refine .inr ⟨_, s3_name (decide (p.2 = .bend)) (s3_halves hs .sinister) (s3_halves hs p.2), fun r => ?_⟩
          simp only [partedW, ho, if_true]
          simp
    · by_cases h2 : w = ascii "quarterly"
      · subst h2
        exact .inr ⟨_, s3_halves hs .quarterly, fun r => by simp only [partedW, if_neg hw, if_true]⟩
      · exact .inl fun r => by simp [partedW, hw, h2]
theorem s3_varied : S3 variedW := by
  refine S3.step rfl (fun r => ?_) fun w => ?_
  · have h1 : (VARIED.find? fun o => ascii o.1 == bad) = none := by decide
    simp [variedW, h1]
  · cases hv : VARIED.find? fun o => ascii o.1 == w with
    | none => exact .inl fun r => by simp [variedW, hv]
    | some v =>
      refine .inr ⟨_, (s3_just "of" of_ne).bind (F := fun _ l => match l with
        | [] => .error 0
        | y :: q => match EVEN.find? fun e => ascii e.1 == y with
          | none => .error (q.length + 1)
          | some e => (tincture q).bind fun t => (just "and" t.2).bind fun z => (tincture z.2).map fun u => (Field.varied v.2 e.2 t.1 u.1, u.2)) fun _ => ?_, fun r => by simp only [variedW, hv] <;> rfl⟩
      refine S3.step rfl (fun r => ?_) fun y => ?_
      · have h1 : (EVEN.find? fun o => ascii o.1 == bad) = none := by decide
        simp [h1]
      · cases he : EVEN.find? fun o => ascii o.1 == y with
        | none => exact .inl fun r => by simp [he]
        | some e =>
          refine .inr ⟨_, s3_tincture.bind fun t => (s3_just "and" and_ne).bind fun _ => s3_tincture.map fun u => Field.varied v.2 e.2 t u, fun r => ?_⟩
          simp only [he]
theorem s3_field {sub : Sub} (hs : S3S sub) : S3 (fieldW sub) := by
  have hc : ∀ names l, (pick names l).isSome = (fun o : Option Bytes => match o with | none => false | some w => (names.find? fun s => ascii s == w).isSome) l.head? := by
    intro names l
    cases l with
    | nil => rfl
    | cons w r => simp [pick]
  have inner : S3 fun l => if (pick tVAR l).isSome = true then variedW l else plainW l :=
    S3.head (fun o => match o with | none => false | some w => (tVAR.find? fun s => ascii s == w).isSome) (by decide) rfl s3_varied (s3_tinc Field.plain) fun l => by rw [hc]; rfl
  exact S3.head (fun o => match o with | none => false | some w => (["per", "quarterly"].find? fun s => ascii s == w).isSome) (by decide) rfl (s3_parted hs) inner fun l => by
    show (if (pick _ l).isSome = true then _ else _) = _
    rw [hc]
theorem s3_arms {sub : Sub} (hs : S3S sub) : S3 (armsW sub) := (s3_field hs).bind fun f => s3_items.map fun y => Arms.mk f y
theorem s3_sub : ∀ d, S3S (subD d)
  | 0 => fun g h => by cases h
  | d + 1 => fun g h => by cases h; exact s3_arms (s3_sub d)

/-! ### a whole text -/
/-- the words that the program reads -/
def seen (l : List Bytes) : List Bytes := if 2000 < l.length then l.take 2000 ++ [bad] else l
def outcome (l : List Bytes) : Arms ⊕ Nat := match armsD 5 l with
  | .error k => .inr (l.length - k)
  | .ok (a, r) => if r = [] then .inl a else .inr (l.length - r.length)
theorem read_eq (b : Bytes) : Sa57.read b = outcome (seen (words b)) := by
  unfold Sa57.read
  dsimp only
  generalize words b = l
  have hf : arms (4 * (l.take 2001).length + 8) 5 (l.take 2001) = armsD 5 (l.take 2001) := arms_eq _ _ _ _ (Nat.lt_succ_self _) (by omega)
  rw [hf]
  unfold seen
  by_cases hl : 2000 < l.length
  · rw [if_pos hl]
    obtain ⟨u, x, hm, hu⟩ : ∃ u x, l.take 2001 = u ++ [x] ∧ u = l.take 2000 := by
      refine ⟨l.take 2000, l[2000], ?_, rfl⟩
      rw [show (2001 : Nat) = 2000 + 1 from rfl, List.take_add_one, List.getElem?_eq_getElem hl]
      rfl
    have hul : u.length = 2000 := by rw [hu, List.length_take]; omega
    rw [hm, ← hu]
    unfold outcome
    have hu0 : u ≠ [] := by intro e; rw [e] at hul; simp at hul
    rcases (s3_arms (s3_sub 5)).sw u x hu0 with ⟨ha, hb⟩ | ⟨k, hk, ea, eb⟩ | ⟨a, r, hr, ea, eb⟩
    · have eB : (match armsD 5 (u ++ [bad]) with
        | .error k => (.inr ((u ++ [bad]).length - k) : Arms ⊕ Nat)
        | .ok (a, r) => if r = [] then .inl a else .inr ((u ++ [bad]).length - r.length)) = .inr 2000 := by
        rcases hb with e | ⟨b, e⟩
        · rw [show armsD 5 (u ++ [bad]) = _ from e]; simp [hul]
        · rw [show armsD 5 (u ++ [bad]) = _ from e]; simp [hul]
      rw [eB]
      rcases ha with e | e | ⟨a, e⟩ | ⟨a, e⟩
      · rw [show armsD 5 (u ++ [x]) = _ from e]; simp [hul]
      · rw [show armsD 5 (u ++ [x]) = _ from e]; simp [hul]
      · rw [show armsD 5 (u ++ [x]) = _ from e]; simp [hul, hl]
      · rw [show armsD 5 (u ++ [x]) = _ from e]; simp [hul, hl]
    · rw [show armsD 5 (u ++ [x]) = _ from ea, show armsD 5 (u ++ [bad]) = _ from eb]
      simp [hul]; omega
    · rw [show armsD 5 (u ++ [x]) = _ from ea, show armsD 5 (u ++ [bad]) = _ from eb]
      have : 1 ≤ r.length := by cases r with
        | nil => exact absurd rfl hr
        | cons _ _ => simp
      simp [hul, hl]
  · rw [if_neg hl, List.take_of_length_le (by omega)]
    unfold outcome
    cases armsD 5 l with
    | error k =>
      show (Sum.inr (min 2000 (l.length - k)) : Arms ⊕ Nat) = Sum.inr (l.length - k)
      rw [Nat.min_eq_right (by omega)]
    | ok p =>
      obtain ⟨a, r⟩ := p
      show (if 2000 < l.length then _ else _) = _
      rw [if_neg hl]
end A57

namespace A57
open Sa57
theorem part_names : tPART = PARTED.map (·.1) := rfl
theorem part_name : ∀ p ∈ PARTED, pName p.2 = p.1 ∧ (p.1 = "bend" ↔ p.2 = .bend) := by decide
theorem var_name : ∀ v ∈ VARIED, vName v.2 = v.1 := by decide
theorem nbo_names : tNBO = EVEN.map (·.1) := rfl
theorem nbo_at : ∀ e ∈ EVEN, tNUM.lookup e.1 = some (e.2 : Int) := by decide
inductive PartedRun (sub : Sub) (l : List Bytes) : Prop
  | no (h : pick ["per", "quarterly"] l = none) (e : partedW sub l = .error l.length)
  | perNo (r : List Bytes) (h : pick ["per", "quarterly"] l = some ("per", r)) (h2 : pickName tPART r = none) (e : partedW sub l = .error r.length)
  | per (r q : List Bytes) (n : String) (p : Parting) (h : pick ["per", "quarterly"] l = some ("per", r)) (h2 : pickName tPART r = some (n, q)) (k : pName p = n) (e : partedW sub l = halvesW sub p q)
  | qu (r : List Bytes) (h : pick ["per", "quarterly"] l = some ("quarterly", r)) (e : partedW sub l = halvesW sub .quarterly r)
theorem parted_run (sub : Sub) (l : List Bytes) : PartedRun sub l := by
  cases l with
  | nil => exact .no rfl rfl
  | cons w r =>
    by_cases hw : w = ascii "per"
    · subst hw
      have h1 : pick ["per", "quarterly"] (ascii "per" :: r) = some ("per", r) := by simp [pick]
      cases r with
      | nil => exact .perNo [] h1 rfl (by simp [partedW])
      | cons x q =>
        have hp : pick tPART (x :: q) = (PARTED.find? fun o => ascii o.1 == x).map fun o => (o.1, q) := by rw [part_names]; exact pick_map _ _ _
        cases ho : PARTED.find? fun o => ascii o.1 == x with
        | none =>
          rw [ho] at hp
          exact .perNo _ h1 (by simp only [pickName, hp]; rfl) (by simp [partedW, ho])
        | some p =>
          rw [ho] at hp
          have hp' : pick tPART (x :: q) = some (p.1, q) := hp
          obtain ⟨pn, pb⟩ := part_name p (List.mem_of_find?_eq_some ho)
          by_cases hb : p.2 = .bend ∧ q.head? = some (ascii "sinister")
          · refine .per _ (q.drop 1) "bend sinister" .sinister h1 ?_ rfl ?_
            · simp only [pickName, hp']
              rw [if_pos ⟨pb.mpr hb.1, hb.2⟩]
            · simp only [partedW, ho, if_true]
              rw [if_pos hb]
          · refine .per _ q p.1 p.2 h1 ?_ pn ?_
            · simp only [pickName, hp']
              rw [if_neg fun c => hb ⟨pb.mp c.1, c.2⟩]
            · simp only [partedW, ho, if_true]
              rw [if_neg hb]
    · by_cases h2 : w = ascii "quarterly"
      · subst h2
        have : (ascii "per" == ascii "quarterly") = false := by decide
        exact .qu r (by simp [pick, List.find?, this]) (by simp only [partedW, if_neg hw, if_true])
      · have e1 : (ascii "per" == w) = false := by simpa using fun e => hw e.symm
        have e2 : (ascii "quarterly" == w) = false := by simpa using fun e => h2 e.symm
        exact .no (by simp [pick, List.find?, e1, e2]) (by simp [partedW, hw, h2])

def evenR (l : List Bytes) : Read Nat := match pick tNBO l with
  | none => .error l.length
  | some (n, q) => .ok (((tNUM.lookup n).getD 0).toNat, q)
theorem even_some {l q : List Bytes} {n : String} (h : pick tNBO l = some (n, q)) : ∃ e : Nat, tNUM.lookup n = some (e : Int) ∧ evenR l = .ok (e, q) := by
  obtain ⟨rfl, hn⟩ := pick_some h
  rw [nbo_names] at hn
  obtain ⟨p, hp, rfl⟩ := List.mem_map.mp hn
  refine ⟨p.2, nbo_at p hp, ?_⟩
  simp only [evenR, h, nbo_at p hp]
  simp
theorem even_none {l : List Bytes} (h : pick tNBO l = none) : evenR l = .error l.length := by simp only [evenR, h]
inductive VariedRun (l : List Bytes) : Prop
  | no (h : pick tVAR l = none) (e : variedW l = .error l.length)
  | some (r : List Bytes) (n : String) (v : Varying) (h : pick tVAR l = some (n, r)) (k : vName v = n)
      (e : variedW l = (just "of" r).bind fun x => (evenR x.2).bind fun y => (tincture y.2).bind fun t => (just "and" t.2).bind fun z => (tincture z.2).map fun u => (.varied v y.1 t.1 u.1, u.2))
theorem varied_run (l : List Bytes) : VariedRun l := by
  cases l with
  | nil => exact .no rfl rfl
  | cons w r =>
    have hp : pick tVAR (w :: r) = (VARIED.find? fun o => ascii o.1 == w).map fun o => (o.1, r) := by rw [var_names]; exact pick_map _ _ _
    cases ho : VARIED.find? fun o => ascii o.1 == w with
    | none =>
      rw [ho] at hp
      exact .no hp (by simp [variedW, ho])
    | some v =>
      rw [ho] at hp
      refine .some r v.1 v.2 hp (var_name v (List.mem_of_find?_eq_some ho)) ?_
      simp only [variedW, ho]
      congr 1
      funext x
      cases hx : x.2 with
      | nil => rfl
      | cons y q =>
        have hq : pick tNBO (y :: q) = (EVEN.find? fun o => ascii o.1 == y).map fun o => (o.1, q) := by rw [nbo_names]; exact pick_map _ _ _
        cases he : EVEN.find? fun o => ascii o.1 == y with
        | none =>
          rw [he] at hq
          rw [even_none hq]
          simp only [he]
          rfl
        | some e =>
          rw [he] at hq
          have hq' : pick tNBO (y :: q) = Option.some (e.1, q) := hq
          obtain ⟨k, hk, hr⟩ := even_some hq'
          have := nbo_at e (List.mem_of_find?_eq_some he)
          rw [this] at hk
          have hk' : e.2 = k := by
            have := Option.some.inj hk
            omega
          rw [hr, ← hk']
          simp only [he]
          rfl

/-! ### words -/
def lc (c : Nat) : Nat := if (97 ≤ c ∧ c ≤ 122) ∨ own c = true then c else 63
theorem lc_name {w : Bytes} {n : String} (hn : ∀ c ∈ ascii n, lc c = c ∧ c ≠ 63) : w.map lc = ascii n ↔ w = ascii n := by
  constructor
  · generalize ascii n = a at *
    induction w generalizing a with
    | nil => intro h; simpa using h
    | cons c w ih =>
      intro h
      cases a with
      | nil => cases h
      | cons d a =>
        simp only [List.map_cons, List.cons.injEq] at h
        have e1 : c = d := by
          have hd := hn d (by simp)
          have := h.1
          unfold lc at this
          split at this
          · exact this
          · exact absurd this.symm hd.2
        rw [e1, ih a (fun c hc => hn c (by simp [hc])) h.2]
  · rintro rfl
    rw [List.map_congr_left (fun c hc => (hn c hc).1)]
    simp
def nameOk (n : String) : Bool := (ascii n).all fun c => lc c == c && c != 63
theorem nameOk_iff {n : String} (h : nameOk n = true) : ∀ c ∈ ascii n, lc c = c ∧ c ≠ 63 := by
  intro c hc
  have := List.all_eq_true.mp h c hc
  simpa using this
/-- one sign more of a text: what is done, what is begun -/
structure Begun (whole done : List Bytes) (rest cur : Bytes) : Prop where
  eq : whole = done ++ wordsFrom rest cur
  free : ∀ c ∈ cur, own c = false ∧ blank c = false
theorem Begun.letter {whole done : List Bytes} {c : Nat} {rest cur : Bytes} (b : Begun whole done (c :: rest) cur) (h1 : blank c = false) (h2 : own c = false) : Begun whole done rest (cur ++ [c]) := by
  refine ⟨?_, fun x hx => ?_⟩
  · rw [b.eq, wordsFrom, if_neg (by simp [h1]), if_neg (by simp [h2])]
  · rcases List.mem_append.mp hx with h | h
    · exact b.free x h
    · rw [List.mem_singleton.mp h]; exact ⟨h2, h1⟩
theorem Begun.blank {whole done : List Bytes} {c : Nat} {rest cur : Bytes} (b : Begun whole done (c :: rest) cur) (h1 : blank c = true) : Begun whole (done ++ if cur = [] then [] else [cur]) rest [] := by
  refine ⟨?_, fun x hx => by cases hx⟩
  rw [b.eq, wordsFrom, if_pos h1]
  by_cases h : cur = []
  · rw [if_pos h, if_pos h]; simp
  · rw [if_neg h, if_neg h]; simp
theorem Begun.sign {whole done : List Bytes} {c : Nat} {rest cur : Bytes} (b : Begun whole done (c :: rest) cur) (h1 : Sa57.blank c = false) (h2 : own c = true) : Begun whole ((done ++ if cur = [] then [] else [cur]) ++ [[c]]) rest [] := by
  refine ⟨?_, fun x hx => by cases hx⟩
  rw [b.eq, wordsFrom, if_neg (by simp [h1]), if_pos h2]
  by_cases h : cur = []
  · rw [if_pos h, if_pos h]; simp
  · rw [if_neg h, if_neg h]; simp
theorem Begun.fin {whole done : List Bytes} {cur : Bytes} (b : Begun whole done [] cur) : whole = done ++ if cur = [] then [] else [cur] := by
  rw [b.eq, wordsFrom]
theorem words_le : ∀ (b cur : Bytes), (wordsFrom b cur).length ≤ b.length + (if cur = [] then 0 else 1) + b.length
  | [], cur => by
    rw [wordsFrom]
    by_cases h : cur = [] <;> simp [h]
  | c :: r, cur => by
    rw [wordsFrom]
    have h0 := words_le r []
    have h1 := words_le r (cur ++ [c])
    simp only [if_true] at h0
    by_cases hb : Sa57.blank c = true
    · rw [if_pos hb]
      by_cases h : cur = []
      · rw [if_pos h, if_pos h]; simp; omega
      · rw [if_neg h, if_neg h]; simp; omega
    · rw [if_neg hb]
      by_cases ho : own c = true
      · rw [if_pos ho]
        by_cases h : cur = []
        · rw [if_pos h, if_pos h]; simp; omega
        · rw [if_neg h, if_neg h]; simp; omega
      · rw [if_neg ho]
        have : (if cur ++ [c] = [] then 0 else 1) = 1 := by simp
        rw [this] at h1
        simp
        by_cases h : cur = []
        · rw [if_pos h]; omega
        · rw [if_neg h]; omega
end A57

namespace A57
open Sa57
/-! ### arms within arms -/
/-! ### how deep -/
def DeepS (sub : Sub) (d : Nat) : Prop := ∀ g, sub = some g → ∀ l a r, g l = .ok (a, r) → (told a).2.2 ≤ d
theorem deep_half {sub : Sub} {d : Nat} (hs : DeepS sub d) {l r : List Bytes} {h : Half} (e : halfW sub l = .ok (h, r)) : (toldHalf h).2.2 ≤ d := by
  unfold halfW at e
  by_cases hc : l.head? = some [40]
  · rw [if_pos hc] at e
    cases sub with
    | none => cases e
    | some g =>
      obtain ⟨x, hx, e⟩ := bind_ok e
      obtain ⟨z, hz, e⟩ := map_ok e
      cases e
      exact hs g rfl _ _ _ hx
  · rw [if_neg hc] at e
    obtain ⟨t, ht, e⟩ := map_ok e
    cases e
    exact Nat.zero_le _
theorem deep_halves {sub : Sub} {d : Nat} (hs : DeepS sub d) {p : Parting} {l r : List Bytes} {f : Field} (e : halvesW sub p l = .ok (f, r)) : (toldField f).2.2 ≤ d := by
  unfold halvesW at e
  obtain ⟨x, hx, e⟩ := bind_ok e
  obtain ⟨y, hy, e⟩ := bind_ok e
  obtain ⟨z, hz, e⟩ := map_ok e
  cases e
  exact Nat.max_le.mpr ⟨deep_half hs hx, deep_half hs hz⟩
theorem deep_field {sub : Sub} {d : Nat} (hs : DeepS sub d) {l r : List Bytes} {f : Field} (e : fieldW sub l = .ok (f, r)) : (toldField f).2.2 ≤ d := by
  unfold fieldW at e
  split at e
  · cases parted_run sub l with
    | no h e' => rw [e'] at e; cases e
    | perNo r' h h2 e' => rw [e'] at e; cases e
    | per r' q n p h h2 k e' => rw [e'] at e; exact deep_halves hs e
    | qu r' h e' => rw [e'] at e; exact deep_halves hs e
  · split at e
    · cases varied_run l with
      | no h e' => rw [e'] at e; cases e
      | some r' n v h k e' =>
        rw [e'] at e
        obtain ⟨x, hx, e⟩ := bind_ok e
        obtain ⟨y, hy, e⟩ := bind_ok e
        obtain ⟨t, ht, e⟩ := bind_ok e
        obtain ⟨z, hz, e⟩ := bind_ok e
        obtain ⟨u, hu, e⟩ := map_ok e
        cases e
        exact Nat.zero_le _
    · unfold plainW at e
      obtain ⟨t, ht, e⟩ := map_ok e
      cases e
      exact Nat.zero_le _
theorem deep_arms {sub : Sub} {d : Nat} (hs : DeepS sub d) {l r : List Bytes} {a : Arms} (e : armsW sub l = .ok (a, r)) : (told a).2.2 ≤ d + 1 := by
  unfold armsW at e
  obtain ⟨x, hx, e⟩ := bind_ok e
  obtain ⟨y, hy, e⟩ := map_ok e
  cases e
  exact Nat.succ_le_succ (deep_field hs hx)
theorem deep_sub : ∀ d, DeepS (subD d) d
  | 0, g, h => by cases h
  | d + 1, g, h => by
    cases h
    intro l a r e
    exact deep_arms (deep_sub d) e
theorem deep_out {l : List Bytes} {a : Arms} (h : outcome l = .inl a) : (told a).2.2 ≤ 6 := by
  unfold outcome at h
  split at h
  · cases h
  · rename_i a' r e
    split at h
    · cases h
      exact deep_arms (deep_sub 5) e
    · cases h
end A57

namespace A57
open Sa57
end A57

namespace A57
open Sa57
/-! ### stretches of a row -/
def InS (s : Int × Int) (x : Int) : Prop := s.1 ≤ x ∧ x < s.2
instance (s : Int × Int) (x : Int) : Decidable (InS s x) := by unfold InS; infer_instance
def InAny (l : List (Int × Int)) (x : Int) : Prop := ∃ s ∈ l, InS s x
instance (l : List (Int × Int)) (x : Int) : Decidable (InAny l x) := by unfold InAny; infer_instance
theorem inAny_nil (x : Int) : ¬ InAny [] x := fun ⟨_, h, _⟩ => by cases h
theorem inAny_cons (s : Int × Int) (l : List (Int × Int)) (x : Int) : InAny (s :: l) x ↔ InS s x ∨ InAny l x := by simp [InAny]
theorem inAny_one (s : Int × Int) (x : Int) : InAny [s] x ↔ InS s x := by simp [InAny]
theorem inAny_append (l m : List (Int × Int)) (x : Int) : InAny (l ++ m) x ↔ InAny l x ∨ InAny m x := by
  simp only [InAny, List.mem_append]
  constructor
  · rintro ⟨s, h | h, i⟩
    · exact .inl ⟨s, h, i⟩
    · exact .inr ⟨s, h, i⟩
  · rintro (⟨s, h, i⟩ | ⟨s, h, i⟩)
    · exact ⟨s, .inl h, i⟩
    · exact ⟨s, .inr h, i⟩
/-- a stretch of a row of w cells -/
structure SOk (w : Int) (s : Int × Int) : Prop where
  lo : 0 ≤ s.1
  le : s.1 ≤ s.2
  hi : s.2 ≤ w
/-- one that may be turned round -/
structure SOk' (w : Int) (s : Int × Int) : Prop where
  lo : 0 ≤ s.1
  hi : s.2 ≤ w
def wthn (w step offset limit : Int) : Int × Int :=
  if (if -((limit + offset) / step) > 0 then -((limit + offset) / step) else 0) < (if (limit - offset) / step + 1 < w then (limit - offset) / step + 1 else w)
  then ((if -((limit + offset) / step) > 0 then -((limit + offset) / step) else 0), (if (limit - offset) / step + 1 < w then (limit - offset) / step + 1 else w)) else (0, 0)
theorem wthn_ok {w step offset limit : Int} (hw : 0 ≤ w) : SOk w (wthn w step offset limit) ∧ (wthn w step offset limit ≠ (0, 0) → (wthn w step offset limit).1 < (wthn w step offset limit).2) := by
  unfold wthn
  generalize -((limit + offset) / step) = a
  generalize (limit - offset) / step + 1 = b
  by_cases h : (if a > 0 then a else 0) < (if b < w then b else w)
  · rw [if_pos h]
    refine ⟨⟨?_, ?_, ?_⟩, fun _ => h⟩ <;> dsimp only
    · split <;> omega
    · omega
    · split <;> omega
  · rw [if_neg h]
    exact ⟨⟨Int.le_refl _, Int.le_refl _, hw⟩, fun z => absurd rfl z⟩
theorem wthn_in {w step offset limit x : Int} (hs : 0 < step) (h0 : 0 ≤ x) (h1 : x < w) : InS (wthn w step offset limit) x ↔ -limit ≤ step * x + offset ∧ step * x + offset ≤ limit := by
  have ha : -((limit + offset) / step) ≤ x ↔ -limit ≤ step * x + offset := by
    have := Int.le_ediv_iff_mul_le (a := -x) (b := limit + offset) hs
    rw [Int.neg_mul, Int.mul_comm x step] at this
    omega
  have hb : x < (limit - offset) / step + 1 ↔ step * x + offset ≤ limit := by
    have := Int.le_ediv_iff_mul_le (a := x) (b := limit - offset) hs
    rw [Int.mul_comm x step] at this
    omega
  rw [← ha, ← hb]
  unfold wthn InS
  generalize -((limit + offset) / step) = a
  generalize (limit - offset) / step + 1 = b
  by_cases h : (if a > 0 then a else 0) < (if b < w then b else w)
  · rw [if_pos h]
    dsimp only
    constructor
    · rintro ⟨p, q⟩
      constructor
      · split at p <;> omega
      · split at q <;> omega
    · rintro ⟨p, q⟩
      constructor <;> split <;> omega
  · rw [if_neg h]
    dsimp only
    constructor
    · intro p; omega
    · rintro ⟨p, q⟩
      exfalso
      apply h
      split <;> split <;> omega
def arnd (o i : Int × Int) : List (Int × Int) := if i = (0, 0) then [o] else [(o.1, i.1), (i.2, o.2)]
theorem arnd_in {w : Int} {o i : Int × Int} (hi : SOk w i ∧ (i ≠ (0, 0) → i.1 < i.2)) (ho : SOk w o) (h : ∀ x, 0 ≤ x → x < w → InS i x → InS o x) {x : Int} (h0 : 0 ≤ x) (h1 : x < w) : InAny (arnd o i) x ↔ InS o x ∧ ¬ InS i x := by
  unfold arnd
  by_cases hz : i = (0, 0)
  · rw [if_pos hz, inAny_one]
    subst hz
    unfold InS
    dsimp only
    constructor
    · intro p; exact ⟨p, fun q => by omega⟩
    · exact fun p => p.1
  · rw [if_neg hz, inAny_cons, inAny_one]
    have hlt := hi.2 hz
    have a1 := hi.1.lo
    have a2 := hi.1.hi
    have b1 := h i.1 a1 (by omega) ⟨Int.le_refl _, hlt⟩
    have b2 := h (i.2 - 1) (by omega) (by omega) ⟨by omega, by omega⟩
    unfold InS at *
    dsimp only
    omega
theorem arnd_ok {w : Int} {o i : Int × Int} (hi : SOk w i) (ho : SOk w o) : ∀ s ∈ arnd o i, SOk' w s := by
  unfold arnd
  split
  · intro s hs
    rw [List.mem_singleton.mp hs]
    exact ⟨ho.lo, ho.hi⟩
  · intro s hs
    have a := hi.lo
    have b := hi.le
    have c := hi.hi
    have d := ho.lo
    have e := ho.le
    have f := ho.hi
    rcases List.mem_cons.mp hs with rfl | hs
    · exact ⟨d, by dsimp only; omega⟩
    · rw [List.mem_singleton.mp hs]
      exact ⟨by dsimp only; omega, f⟩
/-- a row painted over in stretches -/
def pnt {α : Type} (paint : List α) (cells : List α) (s : Int × Int) : List α := if s.1 < s.2 then cells.take s.1.toNat ++ (paint.drop s.1.toNat).take (s.2.toNat - s.1.toNat) ++ cells.drop s.2.toNat else cells
def pntAll {α : Type} (paint cells : List α) (l : List (Int × Int)) : List α := l.foldl (pnt paint) cells
theorem pnt_map {α : Type} {w : Nat} {c p : Nat → α} {s : Int × Int} (h : SOk' w s) : pnt ((List.range w).map p) ((List.range w).map c) s = (List.range w).map fun (x : Nat) => if InS s (x : Int) then p x else c x := by
  unfold pnt
  have h1 := h.lo
  have h2 := h.hi
  by_cases hlt : s.1 < s.2
  · rw [if_pos hlt]
    obtain ⟨f, hf⟩ := Int.eq_ofNat_of_zero_le h1
    obtain ⟨b, hb⟩ := Int.eq_ofNat_of_zero_le (show 0 ≤ s.2 by omega)
    have e1 : s.1.toNat = f := by omega
    have e2 : s.2.toNat = b := by omega
    rw [e1, e2]
    refine List.ext_getElem ?_ fun n h3 h4 => ?_
    · simp only [List.length_append, List.length_take, List.length_drop, List.length_map, List.length_range]
      omega
    · simp only [List.length_map, List.length_range] at h4
      have lt : ((List.range w).map c).length = w := by simp
      have lp : ((List.range w).map p).length = w := by simp
      simp only [List.getElem_map, List.getElem_range]
      by_cases hn1 : n < f
      · rw [List.getElem_append_left (by simp; omega), List.getElem_append_left (by simp; omega)]
        simp only [List.getElem_take, List.getElem_map, List.getElem_range]
        rw [if_neg (by unfold InS; omega)]
      · by_cases hn2 : n < b
        · rw [List.getElem_append_left (by simp; omega), List.getElem_append_right (by simp; omega)]
          simp only [List.getElem_take, List.getElem_drop, List.getElem_map, List.getElem_range, List.length_take, List.length_map, List.length_range]
          rw [if_pos (by unfold InS; omega)]
          congr 1
          omega
        · rw [List.getElem_append_right (by simp; omega)]
          simp only [List.getElem_drop, List.getElem_map, List.getElem_range, List.length_append, List.length_take, List.length_drop, List.length_map, List.length_range]
          rw [if_neg (by unfold InS; omega)]
          congr 1
          omega
  · rw [if_neg hlt]
    refine List.map_congr_left fun x _ => ?_
    rw [if_neg (by unfold InS; omega)]
theorem pntAll_map {α : Type} {w : Nat} {p : Nat → α} : ∀ (l : List (Int × Int)) {c : Nat → α}, (∀ s ∈ l, SOk' w s) → pntAll ((List.range w).map p) ((List.range w).map c) l = (List.range w).map fun (x : Nat) => if InAny l (x : Int) then p x else c x
  | [], c, _ => by
    show (List.range w).map c = _
    refine List.map_congr_left fun x _ => ?_
    rw [if_neg (inAny_nil _)]
  | s :: l, c, h => by
    show pntAll _ (pnt _ _ s) l = _
    rw [pnt_map (h s (List.mem_cons_self ..)), pntAll_map l fun t ht => h t (List.mem_cons_of_mem _ ht)]
    refine List.map_congr_left fun x _ => ?_
    by_cases h1 : InAny l x
    · rw [if_pos h1, if_pos ((inAny_cons ..).mpr (.inr h1))]
    · rw [if_neg h1]
      by_cases h2 : InS s x
      · rw [if_pos h2, if_pos ((inAny_cons ..).mpr (.inl h2))]
      · rw [if_neg h2, if_neg fun z => ((inAny_cons ..).mp z).elim h2 h1]
/-! ### roots -/
def isq : Nat → Nat
  | 0 => 0
  | n + 1 => if (isq n + 1) * (isq n + 1) ≤ n + 1 then isq n + 1 else isq n
theorem isq_spec : ∀ n, isq n * isq n ≤ n ∧ n < (isq n + 1) * (isq n + 1)
  | 0 => by decide
  | n + 1 => by
    have ih := isq_spec n
    unfold isq
    generalize isq n = r at *
    have e1 : (r + 1 + 1) * (r + 1 + 1) = (r + 1) * (r + 1) + 2 * (r + 1) + 1 := by
      simp only [Nat.add_mul, Nat.mul_add]; omega
    split
    · exact ⟨by assumption, by omega⟩
    · exact ⟨by omega, by omega⟩
def root (n : Int) : Int := if n < 0 then -1 else (isq n.toNat : Int)
theorem root_is {n r : Int} (hn : 0 ≤ n) (hr : 0 ≤ r) (h1 : r * r ≤ n) (h2 : n < (r + 1) * (r + 1)) : r = root n := by
  unfold root
  rw [if_neg (by omega)]
  obtain ⟨a, rfl⟩ := Int.eq_ofNat_of_zero_le hn
  obtain ⟨b, rfl⟩ := Int.eq_ofNat_of_zero_le hr
  have h := isq_spec a
  rw [Int.toNat_natCast]
  have h1' : b * b ≤ a := by exact_mod_cast h1
  have h2' : a < (b + 1) * (b + 1) := by exact_mod_cast h2
  generalize isq a = c at *
  have : b = c := by
    rcases Nat.lt_trichotomy b c with z | z | z
    · have : (b + 1) * (b + 1) ≤ c * c := Nat.mul_le_mul z z
      omega
    · exact z
    · have : (c + 1) * (c + 1) ≤ b * b := Nat.mul_le_mul z z
      omega
  rw [this]
theorem root_le {n p : Int} : (-root n ≤ p ∧ p ≤ root n) ↔ p * p ≤ n := by
  unfold root
  have hsq : p * p = ((p.natAbs * p.natAbs : Nat) : Int) := by rw [Int.natCast_mul, ← Int.natAbs_mul_self' p]
  by_cases hn : n < 0
  · rw [if_pos hn]
    constructor
    · intro h; omega
    · intro h
      rw [hsq] at h
      omega
  · rw [if_neg hn]
    obtain ⟨a, rfl⟩ := Int.eq_ofNat_of_zero_le (show 0 ≤ n by omega)
    rw [Int.toNat_natCast, hsq]
    have h := isq_spec a
    generalize isq a = c at *
    have : (-(c : Int) ≤ p ∧ p ≤ (c : Int)) ↔ p.natAbs ≤ c := by omega
    rw [this]
    generalize p.natAbs = m
    constructor
    · intro z
      have : m * m ≤ c * c := Nat.mul_le_mul z z
      exact_mod_cast (by omega : m * m ≤ a)
    · intro z
      have z' : m * m ≤ a := by exact_mod_cast z
      rcases Nat.lt_or_ge c m with y | y
      · have : (c + 1) * (c + 1) ≤ m * m := Nat.mul_le_mul y y
        omega
      · exact y
end A57

namespace A57
open Sa57
def absI (i : Int) : Int := if i < 0 then -i else i
theorem absI_size (i : Int) : absI i = size i := by unfold absI size; split <;> omega
theorem size_le {z a : Int} : size z ≤ a ↔ -a ≤ z ∧ z ≤ a := by unfold size; omega
def btw (w times offset limit : Int) : Int × Int := wthn w (2 * times) (times * (1 - w) + offset) limit
def along (w h v times : Int) : Int × Int := btw w (times * h) (-times * v * w) (w * h)
def alongS (w h v times : Int) : Int × Int := btw w (times * h) (times * v * w) (w * h)
def allIf (w : Int) (b : Bool) : List (Int × Int) := if b = true then [(0, w)] else []
def ordS (o : Ordinary) (w h y : Int) : List (Int × Int) :=
  let v := 2 * y + 1 - h
  match o with
  | .fess => allIf w (decide (3 * absI v ≤ h))
  | .pale => [btw w 3 0 w]
  | .bend => [along w h v 4]
  | .sinister => [alongS w h v 4]
  | .chevron => arnd (btw w (4 * h) 0 (4 * v * w + 2 * w * h)) (btw w (4 * h) 0 (4 * v * w - 1))
  | .cross => allIf w (decide (5 * absI v ≤ h)) ++ [btw w 5 0 w]
  | .saltire => [along w h v 5, alongS w h v 5]
  | .chief => allIf w (decide (3 * (2 * y + 1) ≤ 2 * h))
  | .bordure => if 4 * (2 * y + 1) < w ∨ 4 * (2 * (h - y) - 1) < w then [(0, w)] else arnd (0, w) (btw w 4 0 (3 * w))
theorem allIf_in {w x : Int} {b : Bool} (h0 : 0 ≤ x) (h1 : x < w) : InAny (allIf w b) x ↔ b = true := by
  unfold allIf
  cases b with
  | true => rw [if_pos rfl, inAny_one]; exact ⟨fun _ => rfl, fun _ => ⟨h0, h1⟩⟩
  | false => rw [if_neg (by decide)]; exact ⟨fun z => absurd z (inAny_nil _), fun z => by cases z⟩
theorem btw_in {w times offset limit x : Int} (hs : 0 < times) (h0 : 0 ≤ x) (h1 : x < w) : InS (btw w times offset limit) x ↔ -limit ≤ times * (2 * x + 1 - w) + offset ∧ times * (2 * x + 1 - w) + offset ≤ limit := by
  unfold btw
  rw [wthn_in (by omega) h0 h1]
  have e : 2 * times * x + (times * (1 - w) + offset) = times * (2 * x + 1 - w) + offset := by grind
  rw [e]
theorem along_in {w h v t x : Int} (ht : 0 < t) (hh : 0 < h) (h0 : 0 ≤ x) (h1 : x < w) : InS (along w h v t) x ↔ t * size ((2 * x + 1 - w) * h - v * w) ≤ w * h := by
  unfold along
  rw [btw_in (Int.mul_pos ht hh) h0 h1]
  have e : t * h * (2 * x + 1 - w) + -t * v * w = t * ((2 * x + 1 - w) * h - v * w) := by grind
  rw [e]
  have e2 : t * size ((2 * x + 1 - w) * h - v * w) = size (t * ((2 * x + 1 - w) * h - v * w)) := by
    unfold size
    rw [Int.natAbs_mul, Int.natCast_mul]
    congr 1
    omega
  rw [e2, size_le]
theorem alongS_in {w h v t x : Int} (ht : 0 < t) (hh : 0 < h) (h0 : 0 ≤ x) (h1 : x < w) : InS (alongS w h v t) x ↔ t * size ((2 * x + 1 - w) * h + v * w) ≤ w * h := by
  unfold alongS
  rw [btw_in (Int.mul_pos ht hh) h0 h1]
  have e : t * h * (2 * x + 1 - w) + t * v * w = t * ((2 * x + 1 - w) * h + v * w) := by grind
  rw [e]
  have e2 : t * size ((2 * x + 1 - w) * h + v * w) = size (t * ((2 * x + 1 - w) * h + v * w)) := by
    unfold size
    rw [Int.natAbs_mul, Int.natCast_mul]
    congr 1
    omega
  rw [e2, size_le]
theorem btw_ok {w times offset limit : Int} (hw : 0 ≤ w) : SOk w (btw w times offset limit) ∧ (btw w times offset limit ≠ (0, 0) → (btw w times offset limit).1 < (btw w times offset limit).2) := wthn_ok hw
theorem SOk.weak {w : Int} {s : Int × Int} (h : SOk w s) : SOk' w s := ⟨h.lo, h.hi⟩
theorem allIf_ok {w : Int} {b : Bool} (hw : 0 ≤ w) : ∀ s ∈ allIf w b, SOk' w s := by
  unfold allIf
  split
  · intro s hs
    rw [List.mem_singleton.mp hs]
    exact ⟨Int.le_refl _, Int.le_refl _⟩
  · intro s hs
    cases hs
theorem one_ok {w : Int} {s : Int × Int} (h : SOk w s) : ∀ t ∈ [s], SOk' w t := fun t ht => by rw [List.mem_singleton.mp ht]; exact h.weak
theorem ordS_ok (o : Ordinary) {w : Int} (h y : Int) (hw : 0 ≤ w) : ∀ s ∈ ordS o w h y, SOk' w s := by
  cases o with
  | fess => exact allIf_ok hw
  | pale => exact one_ok (btw_ok hw).1
  | bend => exact one_ok (btw_ok hw).1
  | sinister => exact one_ok (btw_ok hw).1
  | chevron => exact arnd_ok (btw_ok hw).1 (btw_ok hw).1
  | cross => exact fun s hs => (List.mem_append.mp hs).elim (allIf_ok hw s) (one_ok (btw_ok hw).1 s)
  | saltire => exact fun s hs => (List.mem_cons.mp hs).elim (fun e => by rw [e]; exact (btw_ok hw).1.weak) (one_ok (btw_ok hw).1 s)
  | chief => exact allIf_ok hw
  | bordure =>
    intro s hs
    simp only [ordS] at hs
    split at hs
    · rw [List.mem_singleton.mp hs]
      exact ⟨Int.le_refl _, Int.le_refl _⟩
    · exact arnd_ok (btw_ok hw).1 ⟨Int.le_refl _, hw, Int.le_refl _⟩ s hs
theorem ordS_in (o : Ordinary) {w h y x : Int} (hh : 0 < h) (h0 : 0 ≤ x) (h1 : x < w) : InAny (ordS o w h y) x ↔ covers o ⟨x, y, w, h⟩ = true := by
  have hw : 0 ≤ w := by omega
  cases o with
  | fess =>
    simp only [covers, decide_eq_true_eq]
    simp only [ordS, Cell.v]
    rw [allIf_in h0 h1, absI_size, decide_eq_true_eq]
  | pale =>
    simp only [covers, decide_eq_true_eq]
    simp only [ordS, Cell.u]
    rw [inAny_one, btw_in (by decide) h0 h1]
    unfold size
    omega
  | bend =>
    simp only [covers, decide_eq_true_eq]
    simp only [ordS, Cell.b, Cell.u, Cell.v]
    rw [inAny_one, along_in (by decide) hh h0 h1]
  | sinister =>
    simp only [covers, decide_eq_true_eq]
    simp only [ordS, Cell.c, Cell.u, Cell.v]
    rw [inAny_one, alongS_in (by decide) hh h0 h1]
  | chevron =>
    simp only [covers, decide_eq_true_eq]
    simp only [ordS, Cell.k, Cell.u, Cell.v]
    have hwh : 0 ≤ w * h := Int.mul_nonneg hw (Int.le_of_lt hh)
    have h4 : 0 < 4 * h := by omega
    have key : ∀ x', 0 ≤ x' → x' < w → ∀ l, InS (btw w (4 * h) 0 l) x' ↔ 4 * (size (2 * x' + 1 - w) * h) ≤ l := by
      intro x' a b l
      rw [btw_in h4 a b]
      have e : 4 * h * (2 * x' + 1 - w) + 0 = 4 * ((2 * x' + 1 - w) * h) := by grind
      rw [e]
      generalize 2 * x' + 1 - w = u
      have : size u * h = size (u * h) := by
        unfold size
        rw [Int.natAbs_mul, Int.natCast_mul]
        congr 1
        omega
      rw [this]
      unfold size
      omega
    have e1 : 2 * w * h = 2 * (w * h) := by grind
    rw [arnd_in (btw_ok hw) (btw_ok hw).1 (fun x' a b q => ?_) h0 h1, key x h0 h1, key x h0 h1, size_le, e1]
    · have e2 : 4 * (2 * y + 1 - h) * w = 4 * ((2 * y + 1 - h) * w) := by grind
      rw [e2]
      generalize (2 * y + 1 - h) * w = vw at *
      generalize size (2 * x + 1 - w) * h = uh at *
      generalize w * h = wh at *
      omega
    · rw [key x' a b] at q ⊢
      omega
  | cross =>
    simp only [covers, Bool.or_eq_true, decide_eq_true_eq]
    simp only [ordS, Cell.u, Cell.v]
    rw [inAny_append, allIf_in h0 h1, inAny_one, btw_in (by decide) h0 h1, absI_size, decide_eq_true_eq]
    unfold size
    omega
  | saltire =>
    simp only [covers, Bool.or_eq_true, decide_eq_true_eq]
    simp only [ordS, Cell.b, Cell.c, Cell.u, Cell.v]
    rw [inAny_cons, inAny_one, along_in (by decide) hh h0 h1, alongS_in (by decide) hh h0 h1]
  | chief =>
    simp only [covers, decide_eq_true_eq]
    simp only [ordS]
    rw [allIf_in h0 h1, decide_eq_true_eq]
  | bordure =>
    simp only [covers, Bool.or_eq_true, decide_eq_true_eq]
    simp only [ordS]
    have key : ∀ x', 0 ≤ x' → x' < w → (InS (btw w 4 0 (3 * w)) x' ↔ -(3 * w) ≤ 4 * (2 * x' + 1 - w) ∧ 4 * (2 * x' + 1 - w) ≤ 3 * w) := by
      intro x' a b
      rw [btw_in (by decide) a b]
      omega
    split
    · rename_i hc
      rw [inAny_one]
      unfold InS
      dsimp only
      omega
    · rename_i hc
      rw [arnd_in (btw_ok hw) ⟨Int.le_refl _, hw, Int.le_refl _⟩ (fun x' a b q => ⟨a, b⟩) h0 h1, key x h0 h1]
      unfold InS
      dsimp only
      omega
/-! ### charges -/
def bsd (w a times limit : Int) : Int × Int := wthn w (times * 24) (times * (12 - 2 * a * w)) limit
def chS (k : Charge) (w a q r : Int) : List (Int × Int) := match k with
  | .roundel => [bsd w a 1 (root (r * r - q * q))]
  | .annulet => arnd (bsd w a 1 (root (r * r - q * q))) (bsd w a 2 (root (r * r - 4 * q * q - 1)))
  | .lozenge => [bsd w a 3 (3 * r - 2 * absI q)]
  | .billet => if absI q ≤ r then [bsd w a 2 r] else []
  | .delf => if absI q ≤ r then [bsd w a 1 r] else []
  | .crosslet => if 3 * absI q ≤ r then [bsd w a 1 r] else if absI q ≤ r then [bsd w a 3 r] else []
theorem bsd_ok {w a times limit : Int} (hw : 0 ≤ w) : SOk w (bsd w a times limit) ∧ (bsd w a times limit ≠ (0, 0) → (bsd w a times limit).1 < (bsd w a times limit).2) := wthn_ok hw
theorem bsd_in {w a t l x : Int} (ht : 0 < t) (h0 : 0 ≤ x) (h1 : x < w) : InS (bsd w a t l) x ↔ -l ≤ t * (12 * (2 * x + 1) - 2 * a * w) ∧ t * (12 * (2 * x + 1) - 2 * a * w) ≤ l := by
  unfold bsd
  rw [wthn_in (by omega) h0 h1]
  have e : t * 24 * x + t * (12 - 2 * a * w) = t * (12 * (2 * x + 1) - 2 * a * w) := by grind
  rw [e]
theorem nil_ok {w : Int} : ∀ s ∈ ([] : List (Int × Int)), SOk' w s := fun s hs => by cases hs
theorem chS_ok (k : Charge) {w : Int} (a q r : Int) (hw : 0 ≤ w) : ∀ s ∈ chS k w a q r, SOk' w s := by
  cases k with
  | roundel => exact one_ok (bsd_ok hw).1
  | annulet => exact arnd_ok (bsd_ok hw).1 (bsd_ok hw).1
  | lozenge => exact one_ok (bsd_ok hw).1
  | billet => simp only [chS]; split; exact one_ok (bsd_ok hw).1; exact nil_ok
  | delf => simp only [chS]; split; exact one_ok (bsd_ok hw).1; exact nil_ok
  | crosslet =>
    simp only [chS]
    split
    · exact one_ok (bsd_ok hw).1
    · split
      · exact one_ok (bsd_ok hw).1
      · exact nil_ok
theorem sq_nonneg (p : Int) : 0 ≤ p * p := by
  rcases Int.le_total 0 p with h | h
  · exact Int.mul_nonneg h h
  · exact Int.mul_nonneg_of_nonpos_of_nonpos h h
theorem chS_in (k : Charge) {w h y x s : Int} (at_ : Int × Int) (hs : 0 ≤ s) (h0 : 0 ≤ x) (h1 : x < w) : InAny (chS k w at_.1 (12 * (2 * y + 1) - 2 * at_.2 * h) (s * w)) x ↔ charged k ⟨x, y, w, h⟩ at_ s = true := by
  have hw : 0 ≤ w := by omega
  have hr : 0 ≤ s * w := Int.mul_nonneg hs hw
  obtain ⟨a, b⟩ := at_
  dsimp only
  generalize hq : 12 * (2 * y + 1) - 2 * b * h = q
  generalize hrr : s * w = r at *
  have hb := fun t (ht : (0 : Int) < t) l => bsd_in (w := w) (a := a) (l := l) ht h0 h1
  unfold charged
  dsimp only
  rw [hq, hrr]
  have hroot : ∀ x', 0 ≤ x' → x' < w → (InS (bsd w a 1 (root (r * r - q * q))) x' ↔ (12 * (2 * x' + 1) - 2 * a * w) * (12 * (2 * x' + 1) - 2 * a * w) + q * q ≤ r * r) := by
    intro x' c d
    rw [bsd_in (by decide) c d, Int.one_mul, root_le]
    omega
  have hroot2 : ∀ x', 0 ≤ x' → x' < w → (InS (bsd w a 2 (root (r * r - 4 * q * q - 1))) x' ↔ 4 * ((12 * (2 * x' + 1) - 2 * a * w) * (12 * (2 * x' + 1) - 2 * a * w) + q * q) < r * r) := by
    intro x' c d
    rw [bsd_in (by decide) c d, root_le]
    generalize 12 * (2 * x' + 1) - 2 * a * w = p
    have e : 2 * p * (2 * p) = 4 * (p * p) := by grind
    have e2 : 4 * q * q = 4 * (q * q) := by grind
    rw [e, e2]
    omega
  cases k with
  | roundel =>
    simp only [chS]
    rw [inAny_one, hroot x h0 h1, decide_eq_true_eq]
  | annulet =>
    simp only [chS]
    rw [arnd_in (bsd_ok hw) (bsd_ok hw).1 (fun x' c d e => ?_) h0 h1, hroot x h0 h1, hroot2 x h0 h1, Bool.and_eq_true, decide_eq_true_eq, decide_eq_true_eq]
    · omega
    · rw [hroot2 x' c d] at e
      rw [hroot x' c d]
      have := sq_nonneg (12 * (2 * x' + 1) - 2 * a * w)
      have := sq_nonneg q
      omega
  | lozenge =>
    simp only [chS]
    rw [inAny_one, hb 3 (by decide), absI_size, decide_eq_true_eq]
    generalize 12 * (2 * x + 1) - 2 * a * w = p
    unfold size
    omega
  | billet =>
    simp only [chS]
    rw [absI_size, Bool.and_eq_true, decide_eq_true_eq, decide_eq_true_eq]
    split
    · rename_i hc
      rw [inAny_one, hb 2 (by decide)]
      generalize 12 * (2 * x + 1) - 2 * a * w = p
      unfold size at *
      omega
    · rename_i hc
      exact ⟨fun z => absurd z (inAny_nil _), fun z => absurd z.2 hc⟩
  | delf =>
    simp only [chS]
    rw [absI_size, Bool.and_eq_true, decide_eq_true_eq, decide_eq_true_eq]
    split
    · rename_i hc
      rw [inAny_one, hb 1 (by decide)]
      generalize 12 * (2 * x + 1) - 2 * a * w = p
      unfold size at *
      omega
    · rename_i hc
      exact ⟨fun z => absurd z (inAny_nil _), fun z => absurd z.2 hc⟩
  | crosslet =>
    simp only [chS]
    rw [absI_size, Bool.or_eq_true, Bool.and_eq_true, Bool.and_eq_true, decide_eq_true_eq, decide_eq_true_eq, decide_eq_true_eq, decide_eq_true_eq]
    split
    · rename_i hc
      rw [inAny_one, hb 1 (by decide)]
      generalize 12 * (2 * x + 1) - 2 * a * w = p
      unfold size at *
      omega
    · rename_i hc
      split
      · rename_i hd
        rw [inAny_one, hb 3 (by decide)]
        generalize 12 * (2 * x + 1) - 2 * a * w = p
        unfold size at *
        omega
      · rename_i hd
        refine ⟨fun z => absurd z (inAny_nil _), fun z => ?_⟩
        generalize 12 * (2 * x + 1) - 2 * a * w = p at *
        unfold size at *
        omega
def chAll (k : Charge) (n : Nat) (w h y : Int) : List (Int × Int) := (places n).1.flatMap fun ab => chS k w ab.1 (12 * (2 * y + 1) - 2 * ab.2 * h) ((places n).2 * w)
theorem inAny_flat {α : Type} (f : α → List (Int × Int)) (x : Int) : ∀ l : List α, InAny (l.flatMap f) x ↔ ∃ a ∈ l, InAny (f a) x
  | [] => by simp [InAny]
  | a :: l => by rw [List.flatMap_cons, inAny_append, inAny_flat f x l]; simp
theorem places_pos (n : Nat) : 0 ≤ (places n).2 := by unfold places; split <;> decide
theorem chAll_in (k : Charge) (n : Nat) {w h y x : Int} (h0 : 0 ≤ x) (h1 : x < w) : InAny (chAll k n w h y) x ↔ ((places n).1.any fun a => charged k ⟨x, y, w, h⟩ a (places n).2) = true := by
  unfold chAll
  rw [inAny_flat, List.any_eq_true]
  constructor
  · rintro ⟨a, h2, h3⟩
    exact ⟨a, h2, (chS_in k a (places_pos n) h0 h1).mp h3⟩
  · rintro ⟨a, h2, h3⟩
    exact ⟨a, h2, (chS_in k a (places_pos n) h0 h1).mpr h3⟩
theorem chAll_ok (k : Charge) (n : Nat) {w : Int} (h y : Int) (hw : 0 ≤ w) : ∀ s ∈ chAll k n w h y, SOk' w s := by
  intro s hs
  obtain ⟨a, h1, h2⟩ := List.mem_flatMap.mp hs
  exact chS_ok k _ _ _ hw s h2
/-- what an item covers -/
def itS (i : Item) (w h y : Int) : List (Int × Int) := match i with
  | .ordinary o _ => ordS o w h y
  | .charges n k _ => chAll k n w h y
theorem itS_ok (i : Item) {w : Int} (h y : Int) (hw : 0 ≤ w) : ∀ s ∈ itS i w h y, SOk' w s := by
  cases i with
  | ordinary o t => exact ordS_ok o h y hw
  | charges n k t => exact chAll_ok k n h y hw
theorem over_eq (i : Item) {w h y x : Int} (b : Nat) (hh : 0 < h) (h0 : 0 ≤ x) (h1 : x < w) : over ⟨x, y, w, h⟩ b i = if InAny (itS i w h y) x then shade (tinctureOf i) ⟨x, y, w, h⟩ else b := by
  cases i with
  | ordinary o t =>
    show (if covers o ⟨x, y, w, h⟩ = true then _ else _) = if InAny (ordS o w h y) x then _ else _
    by_cases hc : covers o ⟨x, y, w, h⟩ = true
    · rw [if_pos hc, if_pos ((ordS_in o hh h0 h1).mpr hc)]; rfl
    · rw [if_neg hc, if_neg fun z => hc ((ordS_in o hh h0 h1).mp z)]
  | charges n k t =>
    show (if ((places n).1.any fun a => charged k ⟨x, y, w, h⟩ a (places n).2) = true then _ else _) = if InAny (chAll k n w h y) x then _ else _
    by_cases hc : ((places n).1.any fun a => charged k ⟨x, y, w, h⟩ a (places n).2) = true
    · rw [if_pos hc, if_pos ((chAll_in k n h0 h1).mpr hc)]; rfl
    · rw [if_neg hc, if_neg fun z => hc ((chAll_in k n h0 h1).mp z)]
/-! ### rows of cells -/
def cl (w h y x : Nat) : Cell := ⟨(x : Nat), (y : Nat), (w : Nat), (h : Nat)⟩
def shR (t w h y : Nat) : List Nat := (List.range w).map fun x => shade t (cl w h y x)
def arR (a : Arms) (w h y : Nat) : List Nat := (List.range w).map fun x => draw a (cl w h y x)
def fiR (f : Field) (w h y : Nat) : List Nat := (List.range w).map fun x => drawField f (cl w h y x)
/-- so many items laid over -/
def upR (f : Field) (l : List Item) (w h y : Nat) : List Nat := (List.range w).map fun x => l.foldl (over (cl w h y x)) (drawField f (cl w h y x))
theorem upR_all (f : Field) (l : List Item) (w h y : Nat) : upR f l w h y = arR (.mk f l) w h y := by
  unfold upR arR
  refine List.map_congr_left fun x _ => ?_
  rw [draw]
theorem upR_snoc (f : Field) (l : List Item) (i : Item) {w h y : Nat} (hy : y < h) : pntAll (shR (tinctureOf i) w h y) (upR f l w h y) (itS i w h y) = upR f (l ++ [i]) w h y := by
  unfold shR upR
  rw [pntAll_map _ (itS_ok i _ _ (by omega))]
  refine List.map_congr_left fun x hx => ?_
  rw [List.foldl_append]
  show _ = over (cl w h y x) _ i
  unfold cl
  rw [over_eq i _ (by omega) (by omega) (by have := List.mem_range.mp hx; omega)]
end A57

namespace A57
open Sa57
/-! ### fields -/
def hfR (hf : Half) (w h y : Nat) : List Nat := match hf with
  | .plain t => shR t w h y
  | .arms a => arR a w h y
def chosen (f : Field) (w h y x : Nat) : Bool := match f with
  | .parted p _ _ => first p (cl w h y x)
  | .varied v n _ _ => decide (stripes v n (cl w h y x) % 2 = 0)
  | .plain _ => true
theorem shR_get {t w h y x : Nat} (hx : x < w) : (shR t w h y)[x]? = some (shade t (cl w h y x)) := by simp [shR, hx]
theorem arR_get {a : Arms} {w h y x : Nat} (hx : x < w) : (arR a w h y)[x]? = some (draw a (cl w h y x)) := by simp [arR, hx]
theorem hfR_get {hf : Half} {w h y x : Nat} (hx : x < w) : (hfR hf w h y)[x]? = some (drawHalf hf (cl w h y x) (cl w h y x)) := by
  cases hf with
  | plain t => simp only [hfR, drawHalf]; exact shR_get hx
  | arms a => simp only [hfR, drawHalf]; exact arR_get hx
/-- the two halves of a field -/
def half1 : Field → Half
  | .plain t => .plain t
  | .parted _ a _ => a
  | .varied _ _ t _ => .plain t
def half2 : Field → Half
  | .plain t => .plain t
  | .parted _ _ b => b
  | .varied _ _ _ u => .plain u
def isTwo : Field → Bool
  | .plain _ => false
  | .parted p _ _ => decide (p ≠ .quarterly)
  | .varied _ _ _ _ => true
theorem two_eq {f : Field} {w h y x : Nat} (h2 : isTwo f = true) (hx : x < w) : some (drawField f (cl w h y x)) = if chosen f w h y x = true then (hfR (half1 f) w h y)[x]? else (hfR (half2 f) w h y)[x]? := by
  rw [hfR_get hx, hfR_get hx]
  cases f with
  | plain t => cases h2
  | parted p a b =>
    have hp : p ≠ .quarterly := by simpa [isTwo] using h2
    show some (drawField (.parted p a b) (cl w h y x)) = if first p (cl w h y x) = true then some (drawHalf a (cl w h y x) (cl w h y x)) else some (drawHalf b (cl w h y x) (cl w h y x))
    have e : drawField (.parted p a b) (cl w h y x) = if first p (cl w h y x) = true then drawHalf a (cl w h y x) (if p = .quarterly then quarter (cl w h y x) else cl w h y x) else drawHalf b (cl w h y x) (if p = .quarterly then quarter (cl w h y x) else cl w h y x) := by rw [drawField]
    rw [e, if_neg hp]
    by_cases hc : first p (cl w h y x) = true
    · rw [if_pos hc, if_pos hc]
    · rw [if_neg hc, if_neg hc]
  | varied v n t u =>
    simp only [drawField, chosen, half1, half2, drawHalf, decide_eq_true_eq]
    split <;> rfl
/-! ### quarters -/
def qh (h y : Nat) : Nat := if y < h / 2 then h / 2 else h - h / 2
def qy (h y : Nat) : Nat := if y < h / 2 then y else y - h / 2
def quR (hf : Half) (w h y lo hi : Nat) : List Nat := match hf with
  | .plain t => ((shR t w h y).drop lo).take (hi - lo)
  | .arms a => arR a (hi - lo) (qh h y) (qy h y)
theorem quR_get {hf : Half} {w h y lo hi x : Nat} (hy : y < h) (h1 : lo + x < hi) (h2 : hi ≤ w) (hq : (lo = 0 ∧ hi = w / 2) ∨ (lo = w / 2 ∧ hi = w)) : (quR hf w h y lo hi)[x]? = some (drawHalf hf (cl w h y (lo + x)) (quarter (cl w h y (lo + x)))) := by
  cases hf with
  | plain t =>
    simp only [quR, drawHalf]
    rw [List.getElem?_take_of_lt (by omega), List.getElem?_drop, shR_get (by omega)]
  | arms a =>
    simp only [quR, drawHalf]
    rw [arR_get (by omega)]
    congr 2
    unfold cl quarter qh qy
    dsimp only
    rcases hq with ⟨rfl, rfl⟩ | ⟨rfl, rfl⟩
    · have hx : ((0 + x : Nat) : Int) < (w : Int) / 2 := by omega
      rw [if_pos hx, if_pos hx]
      by_cases hc : y < h / 2
      · have hc' : ((y : Nat) : Int) < (h : Int) / 2 := by omega
        rw [if_pos hc, if_pos hc, if_pos hc', if_pos hc']
        congr 1 <;> omega
      · have hc' : ¬ ((y : Nat) : Int) < (h : Int) / 2 := by omega
        rw [if_neg hc, if_neg hc, if_neg hc', if_neg hc']
        congr 1 <;> omega
    · have hx : ¬ ((hi / 2 + x : Nat) : Int) < (hi : Int) / 2 := by omega
      rw [if_neg hx, if_neg hx]
      by_cases hc : y < h / 2
      · have hc' : ((y : Nat) : Int) < (h : Int) / 2 := by omega
        rw [if_pos hc, if_pos hc, if_pos hc', if_pos hc']
        congr 1 <;> omega
      · have hc' : ¬ ((y : Nat) : Int) < (h : Int) / 2 := by omega
        rw [if_neg hc, if_neg hc, if_neg hc', if_neg hc']
        congr 1 <;> omega
theorem quR_len {hf : Half} {w h y lo hi : Nat} (h2 : hi ≤ w) : (quR hf w h y lo hi).length = hi - lo := by
  cases hf with
  | plain t => simp [quR, shR]; omega
  | arms a => simp [quR, arR]
theorem qua_eq (a b : Half) {w h y : Nat} (hy : y < h) : quR (if y < h / 2 then a else b) w h y 0 (w / 2) ++ quR (if y < h / 2 then b else a) w h y (w / 2) w = fiR (.parted .quarterly a b) w h y := by
  refine List.ext_getElem? fun x => ?_
  have hl := quR_len (hf := if y < h / 2 then a else b) (w := w) (h := h) (y := y) (lo := 0) (hi := w / 2) (by omega)
  have hl2 := quR_len (hf := if y < h / 2 then b else a) (w := w) (h := h) (y := y) (lo := w / 2) (hi := w) (by omega)
  by_cases hx : x < w
  · have e : (fiR (.parted .quarterly a b) w h y)[x]? = some (drawField (.parted .quarterly a b) (cl w h y x)) := by simp [fiR, hx]
    rw [e]
    have hv : decide ((cl w h y x).v < 0) = decide (y < h / 2) := by
      unfold cl Cell.v; rw [decide_eq_decide]; dsimp only; omega
    have hu : decide ((cl w h y x).u < 0) = decide (x < w / 2) := by
      unfold cl Cell.u; rw [decide_eq_decide]; dsimp only; omega
    by_cases hx2 : x < w / 2
    · rw [List.getElem?_append_left (by omega)]
      have := quR_get (hf := if y < h / 2 then a else b) (w := w) (h := h) (y := y) (lo := 0) (hi := w / 2) (x := x) hy (by omega) (by omega) (.inl ⟨rfl, rfl⟩)
      rw [Nat.zero_add] at this
      rw [this]
      simp only [drawField, first]
      rw [hu, hv, decide_eq_true hx2]
      by_cases hc : y < h / 2
      · rw [if_pos hc, decide_eq_true hc]; rfl
      · rw [if_neg hc, decide_eq_false hc]; rfl
    · rw [List.getElem?_append_right (by omega)]
      have := quR_get (hf := if y < h / 2 then b else a) (w := w) (h := h) (y := y) (lo := w / 2) (hi := w) (x := x - w / 2) hy (by omega) (by omega) (.inr ⟨rfl, rfl⟩)
      rw [show w / 2 + (x - w / 2) = x by omega] at this
      rw [hl, Nat.sub_zero, this]
      simp only [drawField, first]
      rw [hu, hv, decide_eq_false hx2]
      by_cases hc : y < h / 2
      · rw [if_pos hc, decide_eq_true hc]; rfl
      · rw [if_neg hc, decide_eq_false hc]; rfl
  · rw [List.getElem?_eq_none (by rw [List.length_append]; omega), List.getElem?_eq_none (by simp [fiR]; omega)]
/-! ### the whole -/
def picR (a : Arms) (w h : Nat) (s : Bool) (y : Nat) : List Nat := (List.range w).map fun x => if s = true ∧ outside (cl w h y x) = true then 0 else draw a (cl w h y x)
theorem picture_eq (a : Arms) (w h : Nat) (s : Bool) : picture a w h s = (List.range h).flatMap fun y => picR a w h s y := by
  unfold picture
  have key : ∀ n, (List.range (w * n)).map (fun i => if s = true ∧ outside (⟨(i % w : Nat), (i / w : Nat), w, h⟩ : Cell) = true then 0 else draw a ⟨(i % w : Nat), (i / w : Nat), w, h⟩) = (List.range n).flatMap fun y => picR a w h s y := by
    intro n
    induction n with
    | zero => rfl
    | succ n ih =>
      rw [Nat.mul_succ, List.range_add, List.map_append, ih, List.range_succ, List.flatMap_append]
      congr 1
      rw [List.flatMap_cons, List.flatMap_nil, List.append_nil, List.map_map]
      unfold picR
      refine List.map_congr_left fun x hx => ?_
      have hx' := List.mem_range.mp hx
      have e1 : (w * n + x) % w = x := by rw [Nat.mul_add_mod, Nat.mod_eq_of_lt hx']
      have e2 : (w * n + x) / w = n := by rw [Nat.mul_add_div (by omega), Nat.div_eq_of_lt hx', Nat.add_zero]
      show (if s = true ∧ outside (⟨((w * n + x) % w : Nat), ((w * n + x) / w : Nat), w, h⟩ : Cell) = true then 0 else draw a ⟨((w * n + x) % w : Nat), ((w * n + x) / w : Nat), w, h⟩) = _
      rw [e1, e2]
      rfl
  exact key h
theorem picture_len (a : Arms) (w h : Nat) (s : Bool) : (picture a w h s).length = w * h := by simp [picture]
def zs (l : List Nat) : List Int := l.map fun (x : Nat) => (x : Int)
def dueD (wd hg sh : Int) (b : Bytes) : List Int := if sides wd hg = false then [-2] else match outcome (seen (words b)) with
  | .inr k => [-3 - (k : Int)]
  | .inl a => 0 :: zs (picture a wd.toNat hg.toNat (sh != 0))
theorem good_n (n : Nat) (h : n ≤ 65536) : within (n : Int) 0 65536 = true := by
  unfold within
  rw [Bool.and_eq_true, decide_eq_true_eq, decide_eq_true_eq]
  omega
theorem dueD_eq (wd hg sh : Int) (ns : List Int) (h : ns.length ≤ 65536) : PySa57.bl_draw wd hg sh ns = dueD wd hg sh (ns.map Int.toNat) := by
  have e0 : PySa57.bl_draw wd hg sh ns = (does (.draw (Sa57Neutral.nats ns) (ns.length : Int) wd hg sh)).v :: Sa57Neutral.ints (does (.draw (Sa57Neutral.nats ns) (ns.length : Int) wd hg sh)).l := rfl
  rw [e0]
  have hgd : good (.draw (Sa57Neutral.nats ns) (ns.length : Int) wd hg sh) = sides wd hg := by
    show (within (ns.length : Int) 0 65536 && sides wd hg) = _
    rw [good_n _ h, Bool.true_and]
  unfold dueD
  by_cases hs : sides wd hg = false
  · rw [if_pos hs]
    have : does (.draw (Sa57Neutral.nats ns) (ns.length : Int) wd hg sh) = ok (-2) := by
      unfold does
      rw [hgd, if_pos hs]
    rw [this]
    rfl
  · rw [if_neg hs]
    have e : does (.draw (Sa57Neutral.nats ns) (ns.length : Int) wd hg sh) = match outcome (seen (words (ns.map Int.toNat))) with
      | .inr k => ok (-3 - (k : Int))
      | .inl a => ⟨0, picture a wd.toNat hg.toNat (sh != 0)⟩ := by
      unfold does
      rw [hgd, if_neg hs]
      show (match read (ns.map Int.toNat) with
        | .inr k => ok (-3 - (k : Int))
        | .inl a => (⟨0, picture a wd.toNat hg.toNat (sh != 0)⟩ : Ans)) = _
      rw [read_eq]
    rw [e]
    cases outcome (seen (words (ns.map Int.toNat))) <;> rfl
/-! ### numbers that are read -/
def WfI : Item → Prop
  | .ordinary _ _ => True
  | .charges n _ _ => 1 ≤ n ∧ n ≤ 6
mutual
def WfA : Arms → Prop
  | .mk f l => WfF f ∧ ∀ i ∈ l, WfI i
def WfF : Field → Prop
  | .plain _ => True
  | .parted _ a b => WfH a ∧ WfH b
  | .varied _ n _ _ => n ≤ 12
def WfH : Half → Prop
  | .plain _ => True
  | .arms a => WfA a
end
theorem noc_num : ∀ m ∈ tNOC, ∃ c : Int, tNUM.lookup m = some c ∧ 1 ≤ c ∧ c ≤ 6 := by
  have : ∀ m ∈ tNOC, (tNUM.lookup m).isSome = true ∧ 1 ≤ (tNUM.lookup m).getD 0 ∧ (tNUM.lookup m).getD 0 ≤ 6 := by decide
  intro m hm
  obtain ⟨h1, h2, h3⟩ := this m hm
  cases h : tNUM.lookup m with
  | none => rw [h] at h1; cases h1
  | some c => rw [h] at h2 h3; exact ⟨c, rfl, h2, h3⟩
theorem wf_item {l r : List Bytes} {i : Item} (h : item l = .ok (i, r)) : WfI i := by
  have key : 1 ≤ iNum i ∧ iNum i ≤ 6 → WfI i := by
    intro z
    cases i with
    | ordinary o t => trivial
    | charges n c t => exact z
  cases item_run l with
  | no _ e => rw [e] at h; cases h
  | aNo _ _ _ e => rw [e] at h; cases h
  | aTn _ _ _ _ _ _ _ e => rw [e] at h; cases h
  | nNo _ _ _ _ _ e => rw [e] at h; cases h
  | nTn _ _ _ _ _ _ _ _ _ _ _ _ e => rw [e] at h; cases h
  | aOk r' q z n t i' h1 h2 h3 e _ k2 _ =>
    rw [e] at h; cases h
    exact key (by omega)
  | nOk r' q z m n t j c o i' h0 h1 h2 h3 e _ _ _ m4 _ k2 _ =>
    rw [e] at h; cases h
    obtain ⟨_, hm⟩ := pick_some h1
    have hm' : m ∈ tNOC := (List.mem_cons.mp hm).resolve_left h0
    obtain ⟨c', e1, e2, e3⟩ := noc_num m hm'
    rw [m4] at e1
    cases e1
    exact key (by omega)
theorem wf_items : ∀ (n : Nat) (l : List Bytes), l.length ≤ n → ∀ a r, itemsD l = .ok (a, r) → ∀ i ∈ a, WfI i := by
  intro n
  induction n with
  | zero =>
    intro l hl a r h
    have : l = [] := List.eq_nil_of_length_eq_zero (by omega)
    subst this
    rw [itemsD_eq] at h
    cases h
    intro i hi
    cases hi
  | succ n ih =>
    intro l hl a r h
    rw [itemsD_eq] at h
    by_cases hc : l.head? = some [44]
    · rw [if_pos hc] at h
      obtain ⟨x, hx, h2⟩ := bind_ok h
      obtain ⟨y, hy, h3⟩ := map_ok h2
      have hl2 := shr_item _ _ _ (show item (l.drop 1) = .ok (x.1, x.2) from hx)
      have hd : (l.drop 1).length < l.length := by cases l with
        | nil => cases hc
        | cons _ _ => simp
      cases h3
      intro i hi
      rcases List.mem_cons.mp hi with rfl | hi
      · exact wf_item (show item (l.drop 1) = .ok (x.1, x.2) from hx)
      · exact ih x.2 (by omega) y.1 y.2 hy i hi
    · rw [if_neg hc] at h
      cases h
      intro i hi
      cases hi
def WS (sub : Sub) : Prop := ∀ g, sub = some g → ∀ l a r, g l = .ok (a, r) → WfA a
theorem wf_half {sub : Sub} (hs : WS sub) {l r : List Bytes} {a : Half} (h : halfW sub l = .ok (a, r)) : WfH a := by
  unfold halfW at h
  split at h
  · split at h
    · cases h
    · rename_i g
      obtain ⟨x, hx, h2⟩ := bind_ok h
      obtain ⟨z, hz, h3⟩ := map_ok h2
      cases h3
      exact hs g rfl _ x.1 x.2 hx
  · obtain ⟨t, ht, h2⟩ := map_ok h
    cases h2
    trivial
theorem wf_halves {sub : Sub} (hs : WS sub) {p : Parting} {l r : List Bytes} {a : Field} (h : halvesW sub p l = .ok (a, r)) : WfF a := by
  obtain ⟨x, hx, h2⟩ := bind_ok h
  obtain ⟨z, hz, h3⟩ := bind_ok h2
  obtain ⟨y, hy, h4⟩ := map_ok h3
  cases h4
  exact ⟨wf_half hs (show halfW sub l = .ok (x.1, x.2) from hx), wf_half hs (show halfW sub z.2 = .ok (y.1, y.2) from hy)⟩
theorem wf_parted {sub : Sub} (hs : WS sub) {l r : List Bytes} {a : Field} (h : partedW sub l = .ok (a, r)) : WfF a := by
  unfold partedW at h
  split at h
  · cases h
  · split at h
    · split at h
      · cases h
      · split at h
        · cases h
        · split at h
          · exact wf_halves hs h
          · exact wf_halves hs h
    · split at h
      · exact wf_halves hs h
      · cases h
theorem even_le : ∀ e ∈ EVEN, e.2 ≤ 12 := by decide
theorem wf_varied {l r : List Bytes} {a : Field} (h : variedW l = .ok (a, r)) : WfF a := by
  unfold variedW at h
  split at h
  · cases h
  · split at h
    · obtain ⟨x, hx, h2⟩ := bind_ok h
      split at h2
      · cases h2
      · split at h2
        · cases h2
        · rename_i e he
          obtain ⟨t, ht, h3⟩ := bind_ok h2
          obtain ⟨z, hz, h4⟩ := bind_ok h3
          obtain ⟨u, hu, h5⟩ := map_ok h4
          cases h5
          exact even_le e (List.mem_of_find?_eq_some he)
    · cases h
theorem wf_field {sub : Sub} (hs : WS sub) {l r : List Bytes} {a : Field} (h : fieldW sub l = .ok (a, r)) : WfF a := by
  unfold fieldW at h
  split at h
  · exact wf_parted hs h
  · split at h
    · exact wf_varied h
    · obtain ⟨t, ht, h2⟩ := map_ok h
      cases h2
      trivial
theorem wf_arms {sub : Sub} (hs : WS sub) {l r : List Bytes} {a : Arms} (h : armsW sub l = .ok (a, r)) : WfA a := by
  obtain ⟨x, hx, h2⟩ := bind_ok h
  obtain ⟨y, hy, h3⟩ := map_ok h2
  cases h3
  exact ⟨wf_field hs (show fieldW sub l = .ok (x.1, x.2) from hx), wf_items _ _ (Nat.le_refl _) y.1 y.2 hy⟩
theorem wf_sub : ∀ d, WS (subD d)
  | 0 => fun g h => by cases h
  | d + 1 => fun g h l a r e => by cases h; exact wf_arms (wf_sub d) e
theorem out_wf {L : List Bytes} {a : Arms} (h : outcome L = .inl a) : WfA a := by
  unfold outcome at h
  split at h
  · cases h
  · rename_i b r e
    split at h
    · cases h
      exact wf_arms (wf_sub 5) e
    · cases h
end A57

namespace A57
open PySem L2
open Sa57 (Bytes ascii Read)

/-! ### words as texts -/
def encS (w : Bytes) : Str := ⟨(w.map lc).toArray⟩
def nS (n : String) : Str := Str.ofString n
theorem tl_nS (n : String) : TL.tl (nS n) = ascii n := TL.tl_ofString n
theorem tl_encS (w : Bytes) : TL.tl (encS w) = w.map lc := TL.tl_mk _
theorem encS_name {w : Bytes} {n : String} (h : nameOk n = true) : encS w = nS n ↔ w = ascii n := by
  constructor
  · intro e
    have e' : TL.tl (encS w) = TL.tl (nS n) := by rw [e]
    rw [tl_encS, tl_nS] at e'
    exact (lc_name (nameOk_iff h)).mp e'
  · intro e
    refine TL.ext_tl ?_
    rw [tl_encS, tl_nS]
    exact (lc_name (nameOk_iff h)).mpr e
theorem nS_inj {a b : String} (h : nS a = nS b) : a = b := by
  have e : TL.tl (nS a) = TL.tl (nS b) := by rw [h]
  rw [tl_nS, tl_nS] at e
  have inj : ∀ {l m : List Char}, l.map Char.toNat = m.map Char.toNat → l = m := by
    intro l
    induction l with
    | nil => intro m h; cases m with
      | nil => rfl
      | cons _ _ => cases h
    | cons c l ih =>
      intro m h
      cases m with
      | nil => cases h
      | cons d m =>
        simp only [List.map_cons, List.cons.injEq] at h
        rw [ih h.2]
        have : c = d := by
          have := h.1
          exact Char.ext (UInt32.toNat_inj.mp this)
        rw [this]
  have := inj e
  exact String.ext this
abbrev nV (n : String) : V := .str (nS n)
abbrev wV (w : Bytes) : V := .str (encS w)
def okAll (names : List String) : Prop := ∀ n ∈ names, nameOk n = true
theorem inV_names {w : Bytes} {names : List String} (h : okAll names) : inV (wV w) (names.map nV) = (names.find? fun s => ascii s == w).isSome := by
  induction names with
  | nil => rfl
  | cons n names ih =>
    have ih' := ih fun m hm => h m (List.mem_cons_of_mem _ hm)
    show (eqV (nV n) (wV w) || inV (wV w) (names.map nV)) = _
    rw [ih']
    have e : eqV (nV n) (wV w) = (ascii n == w) := by
      show (nS n == encS w) = _
      rw [Bool.eq_iff_iff, beq_iff_eq, beq_iff_eq]
      exact ⟨fun q => ((encS_name (h n (by simp))).mp q.symm).symm, fun q => ((encS_name (h n (by simp))).mpr q.symm).symm⟩
    rw [e]
    cases hb : ascii n == w with
    | true => simp [hb]
    | false => simp [hb]
theorem inV_nil {names : List String} (h : okAll names) (h0 : ∀ n ∈ names, ascii n ≠ []) : inV (nV "") (names.map nV) = false := by
  have e : nV "" = wV [] := by
    show V.str (nS "") = V.str (encS [])
    rw [show encS [] = nS "" from TL.ext_tl (by rw [tl_encS, tl_nS]; rfl)]
  rw [e, inV_names h, List.find?_eq_none.mpr]
  · rfl
  · intro n hn
    simpa using h0 n hn
/-- the word that is looked at; none is the empty text -/
def hdS : List Bytes → Str
  | [] => nS ""
  | w :: _ => encS w
theorem hdS_in {names : List String} (h : okAll names) (h0 : ∀ n ∈ names, ascii n ≠ []) (l : List Bytes) : inV (.str (hdS l)) (names.map nV) = (pick names l).isSome := by
  cases l with
  | nil => exact inV_nil h h0
  | cons w r =>
    show inV (wV w) _ = _
    rw [inV_names h]
    simp [pick]
theorem hdS_pick {names : List String} {l r : List Bytes} {n : String} (h : okAll names) (e : pick names l = some (n, r)) : hdS l = nS n := by
  obtain ⟨rfl, hn⟩ := pick_some e
  exact (encS_name (h n hn)).mpr rfl
theorem hdS_eq {n : String} (h : nameOk n = true) (h0 : ascii n ≠ []) (l : List Bytes) : hdS l = nS n ↔ l.head? = some (ascii n) := by
  cases l with
  | nil =>
    constructor
    · intro e
      have := congrArg TL.tl (show nS "" = nS n from e)
      rw [tl_nS, tl_nS] at this
      exact absurd this.symm h0
    · intro e; cases e
  | cons w r =>
    show encS w = nS n ↔ some w = some (ascii n)
    rw [encS_name h]
    simp
theorem flat_names (names : List String) : (names.map nV).all flatV = true := by
  induction names with
  | nil => rfl
  | cons _ _ ih => simp [flatV]

/-! ### what may change of the heap: the reader alone -/
def Keep (CR : Addr) (H H' : Hp) : Prop := ∀ b o, H b = some o → (∀ dx fs, o ≠ .ins CR dx fs) → H' b = some o
theorem Keep.trans {CR : Addr} {H H1 H2 : Hp} (a : Keep CR H H1) (b : Keep CR H1 H2) : Keep CR H H2 := fun c o h n => b c o (a c o h n) n
theorem Keep.same {CR : Addr} {H H' : Hp} (h : Same H H') : Keep CR H H' := fun b o e _ => h b o e
theorem Keep.at {CR : Addr} {H : Hp} {p dx : Addr} {fs : List (Str × V)} (h : H p = some (.ins CR dx fs)) (dx' : Addr) (fs' : List (Str × V)) : Keep CR H (upd H p (.ins CR dx' fs')) := fun b o e n => by
  rw [upd_ne]
  · exact e
  · rintro rfl
    rw [h] at e
    cases e
    exact n dx fs rfl
theorem Keep.new {CR : Addr} {H : Hp} {p : Addr} (h : H p = none) (o : HO) : Keep CR H (upd H p o) := fun b u e _ => by rw [upd_ne (ne_of_none e h)]; exact e
theorem Same.new {H : Hp} {p : Addr} (h : H p = none) (o : HO) : Same H (upd H p o) := fun b u e => by rw [upd_ne (ne_of_none e h)]; exact e
theorem Keep.lst {CR : Addr} {H H' : Hp} (k : Keep CR H H') {p : Addr} {xs : List V} (h : H p = some (.lst xs)) : H' p = some (.lst xs) := k p _ h (by intro _ _ z; cases z)
theorem Keep.tup {CR : Addr} {H H' : Hp} (k : Keep CR H H') {K : PySem.W.Frag} {p : Addr} {xs : List V} (h : SqT K H p xs) : SqT K H' p xs := by
  rcases h with (h | ⟨o, h⟩) | h
  · exact .inl (.inl (k p _ h (by intro _ _ z; cases z)))
  · exact .inl (.inr ⟨o, k p _ h (by intro _ _ z; cases z)⟩)
  · exact .inr h
theorem Keep.ins {CR : Addr} {H H' : Hp} (k : Keep CR H H') {p C dx : Addr} {fs : List (Str × V)} (h : H p = some (.ins C dx fs)) (ne : C ≠ CR) : H' p = some (.ins C dx fs) := k p _ h (by intro _ _ z; cases z; exact ne rfl)
theorem Keep.sql {CR : Addr} {H H' : Hp} (k : Keep CR H H') {K : PySem.W.Frag} {p : Addr} {xs : List V} (h : SqL K H p xs) : SqL K H' p xs := by
  rcases h with (h | ⟨o, h⟩) | h
  · exact .inl (.inl (k p _ h (by intro _ _ z; cases z)))
  · exact .inl (.inr ⟨o, k p _ h (by intro _ _ z; cases z)⟩)
  · exact .inr h

/-! ### the program's objects -/
theorem sne {a b : String} (h : a ≠ b) : (Str.ofString a : Str) ≠ Str.ofString b := fun e => h (nS_inj e)
theorem lk_self (f : Str) (v : V) (r : List (Str × V)) : List.lookup f ((f, v) :: r) = some v := by simp [List.lookup]
theorem lk_ne {f g : Str} (v : V) (r : List (Str × V)) (h : f ≠ g) : List.lookup f ((g, v) :: r) = List.lookup f r := by
  have : (f == g) = false := beq_eq_false_iff_ne.mpr h
  simp [List.lookup, this]
theorem put_self (f : Str) (v w : V) (r : List (Str × V)) : putF f v ((f, w) :: r) = (f, v) :: r := by simp [putF]
theorem put_ne {f g : Str} (v w : V) (r : List (Str × V)) (h : g ≠ f) : putF f v ((g, w) :: r) = (g, w) :: putF f v r := by simp [putF, h]
theorem put_nil (f : Str) (v : V) : putF f v [] = [(f, v)] := rfl
def rdF (wl : Addr) (k : Nat) : List (Str × V) := [("words", .ref wl), ("place", .int (k : Nat))]
def arF (f b : Addr) : List (Str × V) := [("field", .ref f), ("borne", .ref b)]
def fiF (k : String) (n : Int) (h : Addr) : List (Str × V) := [("kind", nV k), ("number", .int n), ("halves", .ref h)]
def itF (k : String) (n : Int) (t : Int) : List (Str × V) := [("kind", nV k), ("number", .int n), ("tincture", .int t)]
/-- the reader: its words, those that are still to be read -/
def RdAt (CR : Addr) (H : Hp) (rd : Addr) (L l : List Bytes) : Prop :=
  ∃ (wl dx : Addr) (k : Nat), H rd = some (.ins CR dx (rdF wl k)) ∧ H wl = some (.lst (L.map wV)) ∧ l = L.drop k ∧ k ≤ L.length ∧ L.length ≤ 2001
theorem RdAt.len {CR : Addr} {H : Hp} {rd : Addr} {L l : List Bytes} (h : RdAt CR H rd L l) : l.length ≤ L.length := by
  obtain ⟨_, _, k, _, _, e, _⟩ := h
  rw [e, List.length_drop]
  omega
def xp (n : Nat) : HO := .xd [("place", .int (n : Nat))]

/-! ### addresses -/
structure Cs where
  arms : Addr
  field : Addr
  item : Addr
  reader : Addr
structure Cs.Ok (c : Cs) : Prop where
  ar : c.arms ≠ c.reader
  fr : c.field ≠ c.reader
  ir : c.item ≠ c.reader
  af : c.arms ≠ c.field
  ai : c.arms ≠ c.item
def ItemAt (c : Cs) (H : Hp) (p : Addr) (i : Sa57.Item) : Prop := ∃ dx, H p = some (.ins c.item dx (itF (iKind i) (iNum i : Nat) (Sa57.tinctureOf i : Nat)))
mutual
def ArmsAt (c : Cs) (H : Hp) (p : Addr) : Sa57.Arms → Prop
  | .mk f l => ∃ dx pf pb ps, H p = some (.ins c.arms dx (arF pf pb)) ∧ FieldAt c H pf f ∧ H pb = some (.lst (ps.map V.ref)) ∧ Paired (ItemAt c H) ps l
def FieldAt (c : Cs) (H : Hp) (p : Addr) : Sa57.Field → Prop
  | .plain t => ∃ dx ph, H p = some (.ins c.field dx (fiF "plain" 0 ph)) ∧ H ph = some (.lst [.int (t : Nat)])
  | .parted q a b => ∃ dx ph va vb, H p = some (.ins c.field dx (fiF (pName q) 0 ph)) ∧ H ph = some (.lst [va, vb]) ∧ HalfAt c H va a ∧ HalfAt c H vb b
  | .varied v n t u => ∃ dx ph, H p = some (.ins c.field dx (fiF (vName v) (n : Nat) ph)) ∧ H ph = some (.lst [.int (t : Nat), .int (u : Nat)])
def HalfAt (c : Cs) (H : Hp) (v : V) : Sa57.Half → Prop
  | .plain t => v = .int (t : Nat)
  | .arms a => ∃ p, v = .ref p ∧ ArmsAt c H p a
end
theorem ItemAt.keep {c : Cs} (ok : c.Ok) {H H' : Hp} (k : Keep c.reader H H') {p : Addr} {i : Sa57.Item} (h : ItemAt c H p i) : ItemAt c H' p i := let ⟨dx, e⟩ := h; ⟨dx, k.ins e ok.ir⟩
theorem items_keep {c : Cs} (ok : c.Ok) {H H' : Hp} (k : Keep c.reader H H') {ps : List Addr} {l : List Sa57.Item} (h : Paired (ItemAt c H) ps l) : Paired (ItemAt c H') ps l := Paired.mapP h fun _ _ q => q.keep ok k
mutual
theorem ArmsAt.keep {c : Cs} (ok : c.Ok) {H H' : Hp} (k : Keep c.reader H H') : ∀ (a : Sa57.Arms) (p : Addr), ArmsAt c H p a → ArmsAt c H' p a
  | .mk f l, p, h => by
    obtain ⟨dx, pf, pb, ps, h1, h2, h3, h4⟩ := h
    exact ⟨dx, pf, pb, ps, k.ins h1 ok.ar, FieldAt.keep ok k f pf h2, k.lst h3, items_keep ok k h4⟩
theorem FieldAt.keep {c : Cs} (ok : c.Ok) {H H' : Hp} (k : Keep c.reader H H') : ∀ (f : Sa57.Field) (p : Addr), FieldAt c H p f → FieldAt c H' p f
  | .plain t, p, h => by
    obtain ⟨dx, ph, h1, h2⟩ := h
    exact ⟨dx, ph, k.ins h1 ok.fr, k.lst h2⟩
  | .parted q a b, p, h => by
    obtain ⟨dx, ph, va, vb, h1, h2, h3, h4⟩ := h
    exact ⟨dx, ph, va, vb, k.ins h1 ok.fr, k.lst h2, HalfAt.keep ok k a va h3, HalfAt.keep ok k b vb h4⟩
  | .varied v n t u, p, h => by
    obtain ⟨dx, ph, h1, h2⟩ := h
    exact ⟨dx, ph, k.ins h1 ok.fr, k.lst h2⟩
theorem HalfAt.keep {c : Cs} (ok : c.Ok) {H H' : Hp} (k : Keep c.reader H H') : ∀ (h : Sa57.Half) (v : V), HalfAt c H v h → HalfAt c H' v h
  | .plain t, v, h => h
  | .arms a, v, h => by
    obtain ⟨p, e, h1⟩ := h
    exact ⟨p, e, ArmsAt.keep ok k a p h1⟩
end
end A57

namespace A57
open PySem L2
def top (i : Nat) : Stmt := PySem.Challenge.pw_armstold_s03_bl_draw.main.body.getD i (.Pass ⟨0, 0, 0, 0⟩)
abbrev sRow : Stmt := inClass (top 2) 0
abbrev f_within : Stmt := top 3
abbrev f_around : Stmt := top 4
abbrev f_painted : Stmt := top 5
abbrev f_root_of : Stmt := top 9
abbrev f_beside : Stmt := top 10
abbrev f_roundel : Stmt := top 11
abbrev f_annulet : Stmt := top 12
abbrev f_lozenge : Stmt := top 13
abbrev f_billet : Stmt := top 14
abbrev f_delf : Stmt := top 15
abbrev f_crosslet : Stmt := top 16
abbrev f_charge_stretches : Stmt := top 18
abbrev f_u_values : Stmt := top 20
abbrev f_b_values : Stmt := top 21
abbrev f_c_values : Stmt := top 22
abbrev f_k_values : Stmt := top 23
abbrev f_per_pale : Stmt := top 24
abbrev f_per_fess : Stmt := top 25
abbrev f_per_bend : Stmt := top 26
abbrev f_per_bend_sinister : Stmt := top 27
abbrev f_per_chevron : Stmt := top 28
abbrev f_per_saltire : Stmt := top 29
abbrev f_slanting : Stmt := top 31
abbrev f_barry : Stmt := top 32
abbrev f_paly : Stmt := top 33
abbrev f_bendy : Stmt := top 34
abbrev f_chequy : Stmt := top 35
abbrev f_lozengy : Stmt := top 36
abbrev f_in_first : Stmt := top 38
abbrev f_eight_cells : Stmt := top 45
abbrev f_tincture_cells : Stmt := top 46
abbrev f_between : Stmt := top 48
abbrev f_along_bend : Stmt := top 49
abbrev f_along_bend_sinister : Stmt := top 50
abbrev f_all_if : Stmt := top 51
abbrev f_fess : Stmt := top 52
abbrev f_pale : Stmt := top 53
abbrev f_bend : Stmt := top 54
abbrev f_bend_sinister : Stmt := top 55
abbrev f_chevron : Stmt := top 56
abbrev f_cross : Stmt := top 57
abbrev f_saltire : Stmt := top 58
abbrev f_chief : Stmt := top 59
abbrev f_bordure : Stmt := top 60
abbrev f_is_ordinary : Stmt := top 62
abbrev f_ordinary_stretches : Stmt := top 63
abbrev sArms : Stmt := inClass (top 66) 0
abbrev sField : Stmt := inClass (top 67) 0
abbrev sItem : Stmt := inClass (top 68) 0
abbrev f_half_cells : Stmt := top 71
abbrev f_two_halves_cells : Stmt := top 72
abbrev f_quarter_row : Stmt := top 73
abbrev f_quarter_cells : Stmt := top 74
abbrev f_quarterly_cells : Stmt := top 75
abbrev f_field_cells : Stmt := top 76
abbrev f_item_stretches : Stmt := top 77
abbrev f_arms_cells : Stmt := top 78
abbrev f_on_shield : Stmt := top 79
abbrev f_drawn_cells : Stmt := top 80
abbrev sCannot : Stmt := inClass (top 92) 0
abbrev sReader : Stmt := inClass (top 93) 0
abbrev sPeek : Stmt := inClass (top 93) 1
abbrev sTake : Stmt := inClass (top 93) 2
abbrev sTinct : Stmt := top 94
abbrev sName : Stmt := top 95
abbrev sHalf : Stmt := top 96
abbrev sParted : Stmt := top 97
abbrev sVaried : Stmt := top 98
abbrev sFieldR : Stmt := top 99
abbrev sItemR : Stmt := top 100
abbrev sArmsR : Stmt := top 101
abbrev sReadW : Stmt := top 102
abbrev sLetter : Stmt := top 109
abbrev sSplit : Stmt := top 110
abbrev sWords : Stmt := top 111
abbrev sDraw : Stmt := top 115
end A57

namespace L2
open PySem PySem.Spec PyProof.Rows
/-! ### a def with its promise, by its name -/
section
variable {P : Program} {w : World} {K : PySem.W.Frag} {mg : Str → Option Value} {base : Heap}
theorem Fun.okE {x qual : Str} {st : Stmt} {f C : Addr} {fd : FuncData} {N ps : List Str} {k : Nat} {sp : Sp} (F : Fun K x qual st f fd) (S : FnScope N ps (defScope st)) (len : ∀ vs H Q E, sp vs H Q E → vs.length = ps.length)
    (hbody : ∀ (cdv : Value) (A : Around) (outer : List Env) (s : Shared) (H : Hp) (vs : List V) (Q : VK) (E : XK), Room k (A.deeper (envOfC qual (defScope st) s.heap.objs.size f cdv)) → sp vs H Q E →
      ∃ t, PSs (cxOf (CXE P w C) P w K mg base N qual (defScope st) f cdv A outer s H E) (defBody st) t ∧ t { nx := fun _ H' => Q .non H', rt := Q } (start N vs) H) : FnOk P w K mg base (CXE P w C) (k + 1) f fd ps sp := by
  obtain ⟨oc, od, kV, doc, pm, an, cdv, ct, osl, rfl, lk, hcd⟩ := F.ex
  exact fn_of lk hcd S len fun A outer s H vs Q E hr h => hbody cdv A outer s H vs Q E hr h
end
structure Def (P : Program) (w : World) (K : PySem.W.Frag) (mg : Str → Option Value) (base : Heap) (CX : CXT) (k : Nat) (x : Str) (ps : List Str) (sp : Sp) : Prop where
  ex : ∃ f fd, mg x = some (.ref f) ∧ PySem.W.keepIn K (.ref f) = true ∧ Binds K fd ps [] ∧ FnOk P w K mg base CX k f fd ps sp
structure DefM (P : Program) (w : World) (K : PySem.W.Frag) (mg : Str → Option Value) (base : Heap) (CX : CXT) (k : Nat) (C : Addr) (m : Str) (ps : List Str) (sp : Sp) : Prop where
  ex : ∃ f fd, Meth K C m f ∧ Binds K fd ps [] ∧ FnOk P w K mg base CX k f fd ps sp
structure DefI (P : Program) (w : World) (K : PySem.W.Frag) (mg : Str → Option Value) (base : Heap) (CX : CXT) (k : Nat) (x : Str) (C : Addr) (ps : List Str) (sp : Sp) : Prop where
  at_ : mg x = some (.ref C)
  ex : ∃ f fd, Mk K C f ∧ Binds K fd ps [] ∧ FnOk P w K mg base CX k f fd ps sp
structure Src (K : PySem.W.Frag) (mg : Str → Option Value) (x : Str) (st : Stmt) (ps : List Str) : Prop where
  ex : ∃ f fd, mg x = some (.ref f) ∧ Fun K x x st f fd ∧ Binds K fd ps []
structure SrcM (K : PySem.W.Frag) (C : Addr) (m qual : Str) (st : Stmt) (ps : List Str) : Prop where
  ex : ∃ f fd, Meth K C m f ∧ Fun K m qual st f fd ∧ Binds K fd ps []
structure SrcI (K : PySem.W.Frag) (mg : Str → Option Value) (x : Str) (C : Addr) (qual : Str) (st : Stmt) (ps : List Str) : Prop where
  at_ : mg x = some (.ref C)
  ex : ∃ f fd, Mk K C f ∧ Fun K "__init__" qual st f fd ∧ Binds K fd ps []
section
variable {P : Program} {w : World} {K : PySem.W.Frag} {mg : Str → Option Value} {base : Heap} {CX : CXT} {k : Nat} {x m qual : Str} {C : Addr} {ps : List Str} {sp : Sp} {st : Stmt}
theorem Src.def (S : Src K mg x st ps) (h : ∀ f fd, Fun K x x st f fd → FnOk P w K mg base CX k f fd ps sp) : Def P w K mg base CX k x ps sp := by
  obtain ⟨f, fd, a, b, c⟩ := S.ex
  exact ⟨f, fd, a, b.kp, c, h f fd b⟩
theorem SrcM.def (S : SrcM K C m qual st ps) (h : ∀ f fd, Fun K m qual st f fd → FnOk P w K mg base CX k f fd ps sp) : DefM P w K mg base CX k C m ps sp := by
  obtain ⟨f, fd, a, b, c⟩ := S.ex
  exact ⟨f, fd, a, c, h f fd b⟩
theorem SrcI.def (S : SrcI K mg x C qual st ps) (h : ∀ f fd, Fun K "__init__" qual st f fd → FnOk P w K mg base CX k f fd ps sp) : DefI P w K mg base CX k x C ps sp := by
  obtain ⟨f, fd, a, b, c⟩ := S.ex
  exact ⟨S.at_, f, fd, a, c, h f fd b⟩
theorem Def.mono {j : Nat} (D : Def P w K mg base CX j x ps sp) (h : j ≤ k) : Def P w K mg base CX k x ps sp := by
  obtain ⟨f, fd, a, b, c, d⟩ := D.ex
  exact ⟨f, fd, a, b, c, d.mono h⟩
end
section
variable {X : Cx} {CX : CXT} {k : Nat} {x m : Str} {C : Addr} {ps : List Str} {sp : Sp} {E : XK} {p pos apos : Pos} {e o : Expr} {es : List Expr} {t : TA} {ta : TE}
theorem pe_callD (D : Def X.prog X.w X.K X.mg X.base CX k x ps sp) (hr : Room k X.A) (hg : Gl X x) (hx : Passes CX X E) (ha : PA X (e :: es) t) (hdb : (x == ("__debug__" : Str)) = false := by decide)
    (he : starEach (e :: es) X.env = (false, eval e X.env) :: starEach es X.env := by rfl) (hpl : (backTo pos (starEach es X.env)).any (·.1) = false := by rfl) : PE X (.Call (.Name x p) (e :: es) [] pos) (tCall sp [] E t) := by
  obtain ⟨f, fd, a, b, c, d⟩ := D.ex
  exact pe_call d hr hg a b c .nil hx ha hdb he hpl
theorem pe_methD {pl : Sem Bool} (D : DefM X.prog X.w X.K X.mg X.base CX k C m ps sp) (ho : PE X o ta) (c : Cls X.K C) (hr : Room k X.A) (hx : Passes CX X E) (ha : PA X (e :: es) t)
    (hst : starEach (e :: es) X.env = (false, eval e X.env) :: starEach es X.env := by rfl) (hpl : (backTo pos (starEach es X.env)).any (·.1) = false := by rfl)
    (ht : eval (.Call (.Attribute o m apos) (e :: es) [] pos) X.env = (do
      let ov ← eval o X.env
      standAt apos.atName
      let (f, first) ← holding [ov] (getMethod ov m pl)
      callWith pos f first (backTo pos (starEach (e :: es) X.env)) (backToKw pos (keywordEach [] X.env))) := by rfl) : PE X (.Call (.Attribute o m apos) (e :: es) [] pos) (tMeth C m sp [] E ta t) := by
  obtain ⟨f, fd, a, b, d⟩ := D.ex
  exact pe_meth ho c a d hr b .nil hx ha hst hpl ht
theorem pe_meth0D {pl : Sem Bool} (D : DefM X.prog X.w X.K X.mg X.base CX k C m ps sp) (ho : PE X o ta) (c : Cls X.K C) (hr : Room k X.A) (hx : Passes CX X E)
    (ht : eval (.Call (.Attribute o m apos) [] [] pos) X.env = (do
      let ov ← eval o X.env
      standAt apos.atName
      let (f, first) ← holding [ov] (getMethod ov m pl)
      callWith pos f first (backTo pos (starEach [] X.env)) (backToKw pos (keywordEach [] X.env))) := by rfl) : PE X (.Call (.Attribute o m apos) [] [] pos) (tMeth C m sp [] E ta tNil) := by
  obtain ⟨f, fd, a, b, d⟩ := D.ex
  exact pe_meth0 ho c a d hr b .nil hx ht
theorem pe_makeD (D : DefI X.prog X.w X.K X.mg X.base CX k x C ps sp) (hr : Room (k + 1) X.A) (hg : Gl X x) (hx : Passes CX X E) (ha : PA X (e :: es) t) (hdb : (x == ("__debug__" : Str)) = false := by decide)
    (he : starEach (e :: es) X.env = (false, eval e X.env) :: starEach es X.env := by rfl) (hpl : (backTo pos (starEach es X.env)).any (·.1) = false := by rfl) : PE X (.Call (.Name x p) (e :: es) [] pos) (tMake C sp [] E t) := by
  obtain ⟨f, fd, a, b, d⟩ := D.ex
  exact pe_make a d hr hg D.at_ b .nil hx ha hdb he hpl
end
end L2
namespace A57
open PySem L2
open Sa57 (Bytes ascii Read)
/-! ### what the walk asks of the reader's class -/
structure RdC (K : PySem.W.Frag) (CR : Addr) : Prop where
  cl : Cls K CR
  nw : NoAttr K CR "words"
  np : NoAttr K CR "place"
theorem rd_words (wl : Addr) (k : Nat) : (rdF wl k).lookup ("words" : Str) = some (.ref wl) := lk_self _ _ _
theorem rd_place (wl : Addr) (k : Nat) : (rdF wl k).lookup ("place" : Str) = some (.int (k : Nat)) := (lk_ne _ _ (sne (by decide))).trans (lk_self _ _ _)
theorem rd_no (wl : Addr) (k : Nat) {m : String} (h1 : m ≠ "words") (h2 : m ≠ "place") : (rdF wl k).lookup (m : Str) = none := (lk_ne _ _ (sne h1)).trans ((lk_ne _ _ (sne h2)).trans rfl)
theorem rd_put (wl : Addr) (k j : Nat) : putF "place" (.int (j : Nat)) (rdF wl k) = rdF wl j := by
  unfold rdF
  rw [put_ne _ _ _ (sne (by decide)), put_self]

/-! ### the reader's methods -/
def spPeek (CR : Addr) : Sp := fun vs H Q _ => ∃ rd L l, vs = [.ref rd] ∧ RdAt CR H rd L l ∧ Q (.str (hdS l)) H
/-- it is refused at the place of l in L -/
def Raise (CX : Addr) (E : XK) (L : List Bytes) (k : Nat) : Prop := ∀ d H', H' d = some (xp (L.length - k)) → E (.ref CX) (some d) H'
structure Names (K : PySem.W.Frag) (H : Hp) (ta : Addr) (names : List String) : Prop where
  sq : SqT K H ta (names.map nV)
  ok : okAll names
  ne : ∀ n ∈ names, ascii n ≠ []
def spTake (K : PySem.W.Frag) (CR CX : Addr) : Sp := fun vs H Q E => ∃ rd L l ta names, vs = [.ref rd, .ref ta] ∧ RdAt CR H rd L l ∧ Names K H ta names ∧
  (∀ n r H', pick names l = some (n, r) → Keep CR H H' → RdAt CR H' rd L r → Q (nV n) H') ∧ (pick names l = none → Raise CX E L l.length)
section
variable {P : Program} {w : World} {K : PySem.W.Frag} {mg : Str → Option Value} {base : Heap} {CR CX N fX : Addr}
theorem scPeek : FnScope ["self"] ["self"] (defScope sPeek) := ⟨rfl, rfl, rfl, by decide +kernel, rfl, by decide +kernel, by decide +kernel⟩
theorem ok_peek (S : SrcM K CR "peek" "Reader.peek" sPeek ["self"]) (T : RdC K CR) (ml : mg "len" = none) : DefM P w K mg base CX0 1 CR "peek" ["self"] (spPeek CR) := by
  refine S.def fun f fd F => F.ok scPeek (fun vs H Q E h => ?_) fun cdv A outer s H vs Q E hr h => ?_
  · obtain ⟨rd, L, l, rfl, _⟩ := h
    rfl
  obtain ⟨rd, L, l, rfl, ⟨wl, dx, k, h1, h2, h3, h4, h5⟩, q⟩ := h
  refine ⟨_, pss_cons (ps_if (pt_cmpR op_lt (pe_fld (pv 0) rfl) (pe_callB call_len_seq rfl ml PySem.boot_len (pa_cons (pe_fld (pv 0) rfl) pa_nil)) (nomark _)) (pss_one (ps_ret (pe_ix ix_list (pe_fld (pv 0) rfl) (pe_fld (pv 0) rfl) (fun _ _ => rfl)))) pss_nil)
    (pss_one (ps_ret pe_str)), ?_⟩
  refine ⟨_, rfl, rd, CR, dx, _, _, rfl, h1, T.cl, T.np, rd_place _ _, _, rfl, rd, CR, dx, _, _, rfl, h1, T.cl, T.nw, rd_words _ _, wl, _, rfl, .inl (SqL.of h2), _, _, rfl, rfl, _, rfl, ?_⟩
  have hl : (L.map wV).length = L.length := List.length_map _
  refine ite2 (fun c => ?_) (fun c => ?_)
  · have c' : ((k : Nat) : Int) < ((L.map wV).length : Nat) := of_decide_eq_true c
    rw [hl] at c'
    have hk : k < L.length := by omega
    have e1 : (L.map wV)[k]? = some (wV L[k]) := by rw [List.getElem?_map, List.getElem?_eq_getElem hk]; rfl
    refine ⟨_, rfl, rd, CR, dx, _, _, rfl, h1, T.cl, T.nw, rd_words _ _, _, rfl, rd, CR, dx, _, _, rfl, h1, T.cl, T.np, rd_place _ _, wl, _, _, _, rfl, rfl, SqL.of h2, atI_nat e1, ?_⟩
    have e2 : hdS l = encS L[k] := by rw [h3, List.drop_eq_getElem_cons hk]; rfl
    rw [e2] at q
    exact q
  · have c' : ¬ ((k : Nat) : Int) < ((L.map wV).length : Nat) := of_decide_eq_false (Bool.eq_false_iff.mpr c)
    rw [hl] at c'
    have e2 : hdS l = nS "" := by rw [h3, List.drop_eq_nil_of_le (by omega)]; rfl
    rw [e2] at q
    exact q
theorem scTake : FnScope ["self", "allowed", "word"] ["self", "allowed"] (defScope sTake) := ⟨rfl, rfl, rfl, by decide +kernel, rfl, by decide +kernel, by decide +kernel⟩
theorem ok_take (S : SrcM K CR "take" "Reader.take" sTake ["self", "allowed"]) (T : RdC K CR) (Dp : DefM P w K mg base CX0 1 CR "peek" ["self"] (spPeek CR)) (xc : XCls K CX N fX) {fdX : FuncData} (FX : FnOk P w K mg base CX0 1 fX fdX ["self", "place"] (spXInit CX "place")) (bX : Binds K fdX ["self", "place"] []) (mX : mg "CannotStand" = some (.ref CX)) :
    DefM P w K mg base (CXE P w CX) 3 CR "take" ["self", "allowed"] (spTake K CR CX) := by
  refine S.def fun f fd F => F.okE scTake (fun vs H Q E h => ?_) fun cdv A outer s H vs Q E hr h => ?_
  · obtain ⟨rd, L, l, ta, names, rfl, _⟩ := h
    rfl
  obtain ⟨rd, L, l, ta, names, rfl, R, hN, q, qe⟩ := h
  obtain ⟨wl, dx, k, h1, h2, h3, h4, h5⟩ := id R
  refine ⟨_, pss_cons (ps_set (i := 2) scTake.nd rfl (Or.inl rfl) (pe_meth0D Dp (pv 0) T.cl (hr.mono (by decide)) pass0))
    (pss_cons (ps_if (pt_cmpR op_notIn_seq (pv 2) (pv 1) (by with_unfolding_all rfl)) (pss_one (ps_raiseC xc FX hr bX rfl mX (pe_fld (pv 0) rfl))) pss_nil)
    (pss_cons (ps_fldaug (pv 0) pe_int in_add)
    (pss_one (ps_ret (pv 2))))), ?_⟩
  refine ⟨_, rfl, rd, dx, _, rfl, h1, rd_no _ _ (by decide) (by decide), rd, L, l, rfl, R, ?_⟩
  refine ⟨_, rfl, _, rfl, ta, _, rfl, .inr hN.sq, rfl, flat_names _, _, rfl, ?_⟩
  have e1 := hdS_in hN.ok hN.ne l
  cases hp : pick names l with
  | none =>
    rw [hp] at e1
    show if (!inV (V.str (hdS l)) (names.map nV)) = true then _ else _
    rw [e1]
    refine iteT ?_
    refine ⟨_, rfl, rd, CR, dx, _, _, rfl, h1, T.cl, T.np, rd_place _ _, fun d hd => qe hp d _ ?_⟩
    rw [upd_same]
    have : L.length - l.length = k := by rw [h3, List.length_drop]; omega
    rw [this]
    rfl
  | some nr =>
    obtain ⟨n, r⟩ := nr
    rw [hp] at e1
    show if (!inV (V.str (hdS l)) (names.map nV)) = true then _ else _
    rw [e1]
    refine iteF ?_
    refine ⟨_, rfl, rd, CR, dx, _, _, rfl, h1, T.cl, T.np, rd_place _ _, _, _, rfl, rfl, dx, _, h1, (by show 2 < 1000; decide), ?_⟩
    obtain ⟨el, _⟩ := pick_some hp
    have e2 : hdS l = nS n := hdS_pick hN.ok hp
    have hk : k < L.length := by
      rcases Nat.lt_or_ge k L.length with z | z
      · exact z
      · rw [el] at h3
        rw [List.drop_eq_nil_of_le z] at h3
        cases h3
    refine ⟨_, rfl, ?_⟩
    show Q (V.str (hdS l)) _
    rw [e2]
    have e3 : putF "place" (V.int ((k : Nat) + 1)) (rdF wl k) = rdF wl (k + 1) := rd_put wl k (k + 1)
    refine q n r _ hp (Keep.at h1 dx _) ⟨wl, dx, k + 1, upd_same.trans (congrArg (fun z => some (HO.ins CR dx z)) e3), ?_, ?_, hk, h5⟩
    · rw [upd_ne (ne_of h2 h1 (by intro z; cases z))]
      exact h2
    · rw [el] at h3
      have := List.drop_eq_getElem_cons hk
      rw [this] at h3
      exact (List.cons.inj h3).2
end
end A57

namespace L2
open PySem
section
variable {X : Cx} {x : Str} {pos : Pos}
theorem pe_gref {a : Addr} (hg : Gl X x) (hm : X.mg x = some (.ref a)) (hd : (x == ("__debug__" : Str)) = false := by decide) : PE X (.Name x pos) (tC (.ref a)) := pe_glob hg hm (show RelV (.ref a) (.ref a) from rfl) hd
theorem pe_gint {z : Int} {t : Tok} (hg : Gl X x) (hm : X.mg x = some (.int z t)) (hd : (x == ("__debug__" : Str)) = false := by decide) : PE X (.Name x pos) (tC (.int z)) := pe_glob hg hm (show RelV (.int z) (.int z t) from ⟨_, rfl⟩) hd
theorem pe_gstr {z : Str} {t : Tok} (hg : Gl X x) (hm : X.mg x = some (.str z t)) (hd : (x == ("__debug__" : Str)) = false := by decide) : PE X (.Name x pos) (tC (.str z)) := pe_glob hg hm (show RelV (.str z) (.str z t) from ⟨_, rfl⟩) hd
end
end L2
namespace A57
open PySem L2
open Sa57 (Bytes ascii Read)

/-! ### a reading def's promise -/
def spP {α : Type} (CR CX : Addr) (args : List V) (R : List Bytes → Read α) (Rel : Hp → V → α → Prop) : Sp := fun vs H Q E => ∃ rd L l, vs = .ref rd :: args ∧ RdAt CR H rd L l ∧
  (∀ a r v H', R l = .ok (a, r) → Keep CR H H' → RdAt CR H' rd L r → Rel H' v a → Q v H') ∧ (∀ k, R l = .error k → Raise CX E L k)
structure TupG (K : PySem.W.Frag) (mg : Str → Option Value) (x : Str) (names : List String) : Prop where
  ex : ∃ a, mg x = some (.ref a) ∧ TupK K a (names.map nV)
def IntG (mg : Str → Option Value) (x : Str) (z : Int) : Prop := ∃ t, mg x = some (.int z t)
def StrG (mg : Str → Option Value) (x : Str) (z : String) : Prop := ∃ t, mg x = some (.str (nS z) t)
def okB (names : List String) : Bool := names.all fun n => nameOk n && !(ascii n).isEmpty
theorem okB_ok {names : List String} (h : okB names = true) : okAll names ∧ ∀ n ∈ names, ascii n ≠ [] := by
  refine ⟨fun n hn => ?_, fun n hn => ?_⟩
  · have := List.all_eq_true.mp h n hn
    rw [Bool.and_eq_true] at this
    exact this.1
  · have := List.all_eq_true.mp h n hn
    rw [Bool.and_eq_true] at this
    intro z
    rw [z] at this
    cases this.2
theorem Names.mk' {K : PySem.W.Frag} {H : Hp} {ta : Addr} {names : List String} (sq : SqT K H ta (names.map nV)) (h : okB names = true) : Names K H ta names := ⟨sq, (okB_ok h).1, (okB_ok h).2⟩
section
variable {P : Program} {w : World} {K : PySem.W.Frag} {mg : Str → Option Value} {base : Heap} {CR CX : Addr}
theorem RdAt.at {H : Hp} {rd : Addr} {L l : List Bytes} (R : RdAt CR H rd L l) {m : String} (h1 : m ≠ "words") (h2 : m ≠ "place") : ∃ dx fs, H rd = some (.ins CR dx fs) ∧ fs.lookup (m : Str) = none := by
  obtain ⟨wl, dx, k, e, _⟩ := R
  exact ⟨dx, _, e, rd_no _ _ h1 h2⟩
theorem RdAt.new {H : Hp} {rd p : Addr} {L l : List Bytes} (R : RdAt CR H rd L l) (h : H p = none) (o : HO) : RdAt CR (upd H p o) rd L l := by
  obtain ⟨wl, dx, k, e, e2, r⟩ := R
  exact ⟨wl, dx, k, by rw [upd_ne (ne_of_none e h)]; exact e, by rw [upd_ne (ne_of_none e2 h)]; exact e2, r⟩
abbrev DTake (P : Program) (w : World) (K : PySem.W.Frag) (mg : Str → Option Value) (base : Heap) (CR CX : Addr) (k : Nat) : Prop := DefM P w K mg base (CXE P w CX) k CR "take" ["self", "allowed"] (spTake K CR CX)
abbrev DPeek (P : Program) (w : World) (K : PySem.W.Frag) (mg : Str → Option Value) (base : Heap) (CR : Addr) (k : Nat) : Prop := DefM P w K mg base CX0 k CR "peek" ["self"] (spPeek CR)
def relT : Hp → V → Nat → Prop := fun _ v t => v = .int (t : Nat)
theorem scTinct : FnScope ["reader"] ["reader"] (defScope sTinct) := ⟨rfl, rfl, rfl, by decide +kernel, rfl, by decide +kernel, by decide +kernel⟩
theorem ok_tinct (S : Src K mg "read_tincture" sTinct ["reader"]) (T : RdC K CR) (Dt : DTake P w K mg base CR CX 3) (G : TupG K mg "TINCTURES" Sa57.TINCTURES) : Def P w K mg base (CXE P w CX) 4 "read_tincture" ["reader"] (spP CR CX [] Sa57.tincture relT) := by
  refine S.def fun f fd F => F.okE scTinct (fun vs H Q E h => ?_) fun cdv A outer s H vs Q E hr h => ?_
  · obtain ⟨rd, L, l, rfl, _⟩ := h
    rfl
  obtain ⟨rd, L, l, rfl, R, q, qe⟩ := h
  obtain ⟨a, ma, ta⟩ := G.ex
  obtain ⟨dx, fs, e1, e2⟩ := R.at (m := "take") (by decide) (by decide)
  refine ⟨_, pss_one (ps_ret (pe_op op_add (pe_bm PySem.F.plainAttrs_tuple PySem.F.slot_tuple_index PySem.F.type_tuple_index mt_indexT (pe_gref rfl ma) (pa_cons (pe_methD Dt (pv 0) T.cl hr passE (pa_cons (pe_gref rfl ma) pa_nil)) pa_nil)) pe_int)), ?_⟩
  refine ⟨.inr (.inl ⟨rfl, ta.ty⟩), _, rfl, rd, dx, fs, rfl, e1, e2, rd, L, l, a, Sa57.TINCTURES, rfl, R, Names.mk' (ta.sq _) (by decide), fun n r H' hp kp R' => ?_, fun hp => qe _ (tincture_none hp)⟩
  obtain ⟨i, i1, i2, i3⟩ := tincture_some hp
  have fl := flat_names Sa57.TINCTURES
  refine ⟨a, _, _, i, nV n, rfl, rfl, ta.sq _, rfl, fl, by rw [List.getElem?_map, i1]; rfl, by show (nS n == nS n) = true; simp, fun m z' hm hz => ?_, _, _, rfl, rfl, ?_⟩
  · rw [List.getElem?_map] at hz
    cases hm' : Sa57.TINCTURES[m]? with
    | none => rw [hm'] at hz; cases hz
    | some y =>
      rw [hm'] at hz
      cases hz
      show (nS y == nS n) = false
      exact beq_eq_false_iff_ne.mpr fun z => i2 m y hm hm' (nS_inj z)
  · refine q (i + 1) r _ H' i3 kp R' ?_
    show V.int ((i : Int) + 1) = V.int ((i + 1 : Nat) : Int)
    congr 1
/-- read_name(reader, names) -/
def spName (K : PySem.W.Frag) (CR CX : Addr) : Sp := fun vs H Q E => ∃ rd L l ta names, vs = [.ref rd, .ref ta] ∧ RdAt CR H rd L l ∧ Names K H ta names ∧
  (∀ n r H', pickName names l = some (n, r) → Keep CR H H' → RdAt CR H' rd L r → Q (nV n) H') ∧ (pickName names l = none → Raise CX E L l.length)
theorem scName : FnScope ["reader", "names", "name"] ["reader", "names"] (defScope sName) := ⟨rfl, rfl, rfl, by decide +kernel, rfl, by decide +kernel, by decide +kernel⟩
theorem ok_name (S : Src K mg "read_name" sName ["reader", "names"]) (T : RdC K CR) (Dt : DTake P w K mg base CR CX 3) (Dp : DPeek P w K mg base CR 1) : Def P w K mg base (CXE P w CX) 4 "read_name" ["reader", "names"] (spName K CR CX) := by
  refine S.def fun f fd F => F.okE scName (fun vs H Q E h => ?_) fun cdv A outer s H vs Q E hr h => ?_
  · obtain ⟨rd, L, l, ta, names, rfl, _⟩ := h
    rfl
  obtain ⟨rd, L, l, ta, names, rfl, R, hN, q, qe⟩ := h
  have hr1 : Room 1 _ := hr.mono (by decide)
  refine ⟨_, pss_cons (ps_set (i := 2) scName.nd rfl (Or.inl rfl) (pe_methD Dt (pv 0) T.cl hr passE (pa_cons (pv 1) pa_nil)))
    (pss_cons (ps_if (PW.pt (pw_and (pt_cmpR op_eq (pv 2) pe_str (nomark _)) (pw_and1 (pt_cmpR op_eq (pe_meth0D Dp (pv 0) T.cl hr1 pass0) pe_str (nomark _)))))
      (pss_one (ps_ret (pe_op op_add_str (pe_op op_add_str (pv 2) pe_str) (pe_methD Dt (pv 0) T.cl hr passE (pa_cons (pe_tup (pa_cons pe_str pa_nil)) pa_nil))))) pss_nil)
    (pss_one (ps_ret (pv 2)))), ?_⟩
  obtain ⟨dx, fs, e1, e2⟩ := R.at (m := "take") (by decide) (by decide)
  refine ⟨_, rfl, rd, dx, fs, rfl, e1, e2, _, rfl, rd, L, l, ta, names, rfl, R, hN, fun n r H' hp kp R' => ?_, fun hp => qe (by simp only [pickName, hp])⟩
  refine ⟨_, rfl, rfl, _, rfl, ?_⟩
  by_cases hb : n = "bend"
  · subst hb
    have d1 : decide (nV "bend" = nV "bend") = true := decide_eq_true rfl
    show if decide (nV "bend" = nV "bend") = true then _ else _
    rw [d1]
    refine iteT ?_
    obtain ⟨dx', fs', e1', e2'⟩ := R'.at (m := "peek") (by decide) (by decide)
    refine ⟨_, rfl, rd, dx', fs', rfl, e1', e2', rd, L, r, rfl, R', rfl, _, rfl, ?_⟩
    have hs := hdS_eq (n := "sinister") (by decide) (by decide) r
    by_cases hsin : r.head? = some (ascii "sinister")
    · have d2 : decide (V.str (hdS r) = nV "sinister") = true := decide_eq_true (by rw [hs.mpr hsin])
      show if decide (V.str (hdS r) = nV "sinister") = true then _ else _
      rw [d2]
      refine iteT ?_
      have hpn : pickName names l = some ("bend sinister", r.drop 1) := by
        simp only [pickName, hp]
        rw [if_pos ⟨trivial, hsin⟩]
      refine ⟨_, rfl, _, _, rfl, rfl, by show _ ≤ sizeLine; exact le1000 (by decide), ?_⟩
      obtain ⟨dx2, fs2, f1, f2⟩ := R'.at (m := "take") (by decide) (by decide)
      refine ⟨_, rfl, rd, dx2, fs2, rfl, f1, f2, by show 1 ≤ sizeLine; exact le1000 (by decide), fun p hpp => ?_⟩
      have hps : pick ["sinister"] r = some ("sinister", r.drop 1) := by
        cases r with
        | nil => cases hsin
        | cons w r =>
          have : w = ascii "sinister" := by simpa using hsin
          subst this
          simp [pick]
      refine ⟨rd, L, r, p, ["sinister"], rfl, R'.new hpp _, Names.mk' (SqT.of upd_same) (by decide), fun n2 r2 H2 hp2 kp2 R2 => ?_, fun z => by rw [hps] at z; cases z⟩
      rw [hps] at hp2
      cases hp2
      refine ⟨_, _, rfl, rfl, by show _ ≤ sizeLine; exact le1000 (by decide), ?_⟩
      have es : (nS "bend" ++ Str.ofString " ") ++ nS "sinister" = nS "bend sinister" := by decide +kernel
      show Q (V.str ((nS "bend" ++ Str.ofString " ") ++ nS "sinister")) H2
      rw [es]
      exact q _ _ H2 hpn (kp.trans ((Keep.new hpp _).trans kp2)) R2
    · have d2 : decide (V.str (hdS r) = nV "sinister") = false := decide_eq_false fun z => hsin (hs.mp (V.str.inj z))
      show if decide (V.str (hdS r) = nV "sinister") = true then _ else _
      rw [d2]
      refine iteF ⟨_, rfl, ?_⟩
      refine q _ _ H' ?_ kp R'
      simp only [pickName, hp]
      rw [if_neg fun z => hsin z.2]
  · have d1 : decide (nV n = nV "bend") = false := decide_eq_false fun z => hb (nS_inj (V.str.inj z))
    show if decide (nV n = nV "bend") = true then _ else _
    rw [d1]
    refine iteF (iteF ⟨_, rfl, ?_⟩)
    refine q _ _ H' ?_ kp R'
    simp only [pickName, hp]
    rw [if_neg fun z => hb z.1]
end
end A57

namespace A57
open PySem L2
open Sa57 (Bytes ascii Read)
section
variable {P : Program} {w : World} {K : PySem.W.Frag} {mg : Str → Option Value} {base : Heap} {CX : Addr} {c : Cs}
abbrev DTinct (P : Program) (w : World) (K : PySem.W.Frag) (mg : Str → Option Value) (base : Heap) (CR CX : Addr) (k : Nat) : Prop := Def P w K mg base (CXE P w CX) k "read_tincture" ["reader"] (spP CR CX [] Sa57.tincture relT)
abbrev DArms (P : Program) (w : World) (K : PySem.W.Frag) (mg : Str → Option Value) (base : Heap) (c : Cs) (CX : Addr) (k d : Nat) : Prop := Def P w K mg base (CXE P w CX) k "read_arms" ["reader", "depth"] (spP c.reader CX [.int (6 - (d : Nat))] (armsD d) fun H v a => ∃ p, v = .ref p ∧ ArmsAt c H p a)
abbrev DHalf (P : Program) (w : World) (K : PySem.W.Frag) (mg : Str → Option Value) (base : Heap) (c : Cs) (CX : Addr) (k d : Nat) : Prop := Def P w K mg base (CXE P w CX) k "read_half" ["reader", "depth"] (spP c.reader CX [.int (6 - (d : Nat))] (halfW (subD d)) fun H v h => HalfAt c H v h)
theorem scHalf : FnScope ["reader", "depth", "arms"] ["reader", "depth"] (defScope sHalf) := ⟨rfl, rfl, rfl, by decide +kernel, rfl, by decide +kernel, by decide +kernel⟩
/-- «(» in front -/
theorem par_ok : nameOk "(" = true ∧ ascii "(" ≠ [] ∧ ascii "(" = [40] := by decide
theorem pick_head {s : String} {l : List Bytes} (h : l.head? = some (ascii s)) : pick [s] l = some (s, l.drop 1) := by
  cases l with
  | nil => cases h
  | cons w r =>
    have : w = ascii s := by simpa using h
    subst this
    simp [pick]
theorem ok_half0 (S : Src K mg "read_half" sHalf ["reader", "depth"]) (T : RdC K c.reader) {k : Nat} (hk : 4 ≤ k) (Dp : DPeek P w K mg base c.reader 1) (Dn : DTinct P w K mg base c.reader CX 4) (gM : IntG mg "MOST_DEEP" 6) : DHalf P w K mg base c CX (k + 1) 0 := by
  refine S.def fun f fd F => F.okE scHalf (fun vs H Q E h => ?_) fun cdv A outer s H vs Q E hr h => ?_
  · obtain ⟨rd, L, l, rfl, _⟩ := h
    rfl
  obtain ⟨rd, L, l, rfl, R, q, qe⟩ := h
  obtain ⟨tM, mM⟩ := gM
  have hr1 : Room 1 _ := hr.mono (by omega)
  have hr4 : Room 4 _ := hr.mono hk
  refine ⟨_, pss_cons (ps_if (PW.pt (pw_and (pt_cmpR op_eq (pe_meth0D Dp (pv 0) T.cl hr1 pass0) pe_str (nomark _)) (pw_and1 (pt_cmpR op_lt (pv 1) (pe_gint rfl mM) (nomark _))))) pss_never pss_nil)
    (pss_one (ps_ret (pe_callD Dn hr4 rfl passE (pa_cons (pv 0) pa_nil)))), ?_⟩
  obtain ⟨dx, fs, e1, e2⟩ := R.at (m := "peek") (by decide) (by decide)
  refine ⟨_, rfl, rd, dx, fs, rfl, e1, e2, rd, L, l, rfl, R, rfl, _, rfl, ?_⟩
  have fin : ∃ v, (start ["reader", "depth", "arms"] [V.ref rd, .int (6 - ((0 : Nat) : Int))])[0]? = some (some v) ∧ spP c.reader CX [] Sa57.tincture relT ([v] ++ []) H Q E := by
    refine ⟨_, rfl, rd, L, l, rfl, R, fun t r v H' ht kp R' hv => ?_, fun k' ht => ?_⟩
    · have hne : l.head? ≠ some [40] := fun z => by
        cases l with
        | nil => cases z
        | cons w r' =>
          have : w = [40] := by simpa using z
          subst this
          cases ht
      refine q (.plain t) r v H' ?_ kp R' hv
      unfold halfW
      rw [if_neg hne, ht]
      rfl
    · refine qe k' ?_
      unfold halfW
      by_cases hc : l.head? = some [40]
      · rw [if_pos hc]
        cases l with
        | nil => cases hc
        | cons w r' =>
          have : w = [40] := by simpa using hc
          subst this
          cases ht
          rfl
      · rw [if_neg hc, ht]
        rfl
  refine ite2 (fun hb => ?_) fun _ => iteF fin
  refine ⟨_, rfl, _, _, rfl, rfl, _, rfl, ?_⟩
  have d0 : decide ((6 : Int) - ((0 : Nat) : Int) < 6) = false := by decide
  show if decide ((6 : Int) - ((0 : Nat) : Int) < 6) = true then _ else _
  rw [d0]
  exact iteF fin
theorem ok_half1 (S : Src K mg "read_half" sHalf ["reader", "depth"]) (T : RdC K c.reader) {k d : Nat} (hk : 4 ≤ k) (hd : d ≤ 5) (Dp : DPeek P w K mg base c.reader 1) (Dt : DTake P w K mg base c.reader CX 3) (Dn : DTinct P w K mg base c.reader CX 4) (gM : IntG mg "MOST_DEEP" 6) (ok : c.Ok)
    (Da : DArms P w K mg base c CX k d) : DHalf P w K mg base c CX (k + 1) (d + 1) := by
  refine S.def fun f fd F => F.okE scHalf (fun vs H Q E h => ?_) fun cdv A outer s H vs Q E hr h => ?_
  · obtain ⟨rd, L, l, rfl, _⟩ := h
    rfl
  obtain ⟨rd, L, l, rfl, R, q, qe⟩ := h
  obtain ⟨tM, mM⟩ := gM
  have hr1 : Room 1 _ := hr.mono (by omega)
  have hr3 : Room 3 _ := hr.mono (by omega)
  have hr4 : Room 4 _ := hr.mono hk
  refine ⟨_, pss_cons (ps_if (PW.pt (pw_and (pt_cmpR op_eq (pe_meth0D Dp (pv 0) T.cl hr1 pass0) pe_str (nomark _)) (pw_and1 (pt_cmpR op_lt (pv 1) (pe_gint rfl mM) (nomark _)))))
      (pss_cons (ps_expr (pe_methD Dt (pv 0) T.cl hr3 passE (pa_cons (pe_tup (pa_cons pe_str pa_nil)) pa_nil)))
      (pss_cons (ps_set (i := 2) scHalf.nd rfl (Or.inl rfl) (pe_callD Da hr rfl passE (pa_cons (pv 0) (pa_cons (pe_op op_add (pv 1) pe_int) pa_nil))))
      (pss_cons (ps_expr (pe_methD Dt (pv 0) T.cl hr3 passE (pa_cons (pe_tup (pa_cons pe_str pa_nil)) pa_nil)))
      (pss_one (ps_ret (pv 2)))))) pss_nil)
    (pss_one (ps_ret (pe_callD Dn hr4 rfl passE (pa_cons (pv 0) pa_nil)))), ?_⟩
  obtain ⟨dx, fs, e1, e2⟩ := R.at (m := "peek") (by decide) (by decide)
  refine ⟨_, rfl, rd, dx, fs, rfl, e1, e2, rd, L, l, rfl, R, rfl, _, rfl, ?_⟩
  have hs := hdS_eq (n := "(") par_ok.1 par_ok.2.1 l
  rw [par_ok.2.2] at hs
  by_cases hc : l.head? = some [40]
  · have d1 : decide (V.str (hdS l) = nV "(") = true := decide_eq_true (by rw [hs.mpr hc])
    show if decide (V.str (hdS l) = nV "(") = true then _ else _
    rw [d1]
    refine iteT ⟨_, rfl, _, _, rfl, rfl, _, rfl, ?_⟩
    have d2 : decide ((6 : Int) - ((d + 1 : Nat) : Int) < 6) = true := decide_eq_true (by omega)
    show if decide ((6 : Int) - ((d + 1 : Nat) : Int) < 6) = true then _ else _
    rw [d2]
    refine iteT ?_
    have eh : halfW (subD (d + 1)) l = (armsD d (l.drop 1)).bind fun x => (Sa57.just ")" x.2).map fun z => (.arms x.1, z.2) := by
      unfold halfW
      rw [if_pos hc]
      rfl
    obtain ⟨dx1, fs1, f1, f2⟩ := R.at (m := "take") (by decide) (by decide)
    have hp1 := pick_head (s := "(") (l := l) (by rw [par_ok.2.2]; exact hc)
    refine ⟨_, rfl, rd, dx1, fs1, rfl, f1, f2, by show 1 ≤ sizeLine; exact le1000 (by decide), fun p hp => ⟨rd, L, l, p, ["("], rfl, R.new hp _, Names.mk' (SqT.of upd_same) (by decide), fun n1 r1 H1 q1 kp1 R1 => ?_, fun z => by rw [hp1] at z; cases z⟩⟩
    rw [hp1] at q1
    cases q1
    have kp1' : Keep c.reader H H1 := (Keep.new hp _).trans kp1
    refine ⟨_, rfl, _, rfl, _, _, rfl, rfl, rd, L, l.drop 1, ?_, R1, fun a r2 v H2 ha kp2 R2 hv => ?_, fun k2 ha => qe k2 (by rw [eh, ha]; rfl)⟩
    · show [V.ref rd, V.int ((6 : Int) - ((d + 1 : Nat) : Int) + 1)] = [V.ref rd, V.int (6 - (d : Nat))]
      have : (6 : Int) - ((d + 1 : Nat) : Int) + 1 = 6 - (d : Nat) := by omega
      rw [this]
    obtain ⟨pa, rfl, hA⟩ := hv
    obtain ⟨dx2, fs2, g1, g2⟩ := R2.at (m := "take") (by decide) (by decide)
    refine ⟨_, rfl, rd, dx2, fs2, rfl, g1, g2, by show 1 ≤ sizeLine; exact le1000 (by decide), fun p2 hp2 => ⟨rd, L, r2, p2, [")"], rfl, R2.new hp2 _, Names.mk' (SqT.of upd_same) (by decide), fun n3 r3 H3 q3 kp3 R3 => ?_, fun z => qe _ ?_⟩⟩
    · obtain ⟨rfl, hj⟩ := just_some q3
      have kp3' : Keep c.reader H2 H3 := (Keep.new hp2 _).trans kp3
      refine ⟨_, rfl, q (.arms a) r3 _ H3 ?_ (kp1'.trans (kp2.trans kp3')) R3 ⟨pa, rfl, ArmsAt.keep ok kp3' a pa hA⟩⟩
      rw [eh, ha]
      show (Sa57.just ")" r2).map _ = _
      rw [hj]
      rfl
    · rw [eh, ha]
      show (Sa57.just ")" r2).map _ = _
      rw [just_none z]
      rfl
  · have d1 : decide (V.str (hdS l) = nV "(") = false := decide_eq_false fun z => hc (hs.mp (V.str.inj z))
    show if decide (V.str (hdS l) = nV "(") = true then _ else _
    rw [d1]
    refine iteF (iteF ⟨_, rfl, rd, L, l, rfl, R, fun t r v H' ht kp R' hv => q (.plain t) r v H' ?_ kp R' hv, fun k' ht => qe k' ?_⟩)
    · unfold halfW
      rw [if_neg hc, ht]
      rfl
    · unfold halfW
      rw [if_neg hc, ht]
      rfl
end
end A57

namespace L2
theorem PSs.to {X : Cx} {st : List PySem.Stmt} {t t' : TS} (h : PSs X st t) (imp : ∀ D σ H, t' D σ H → t D σ H) : PSs X st t' := fun pins s σ H D I q => h pins s σ H D I (imp D σ H q)
end L2
namespace A57
open PySem L2
open Sa57 (Bytes ascii Read)
/-! ### __init__ of three, of two attributes -/
def spI3 (C : Addr) (a b d : Str) : Sp := fun vs H Q _ => ∃ p dx x y z, vs = [.ref p, x, y, z] ∧ H p = some (.ins C dx []) ∧ ∀ H' : Hp, H' p = some (.ins C dx [(a, x), (b, y), (d, z)]) → (∀ q o, H q = some o → q ≠ p → H' q = some o) → Q .non H'
def spI2 (C : Addr) (a b : Str) : Sp := fun vs H Q _ => ∃ p dx x y, vs = [.ref p, x, y] ∧ H p = some (.ins C dx []) ∧ ∀ H' : Hp, H' p = some (.ins C dx [(a, x), (b, y)]) → (∀ q o, H q = some o → q ≠ p → H' q = some o) → Q .non H'
section
variable {P : Program} {w : World} {K : PySem.W.Frag} {mg : Str → Option Value} {base : Heap} {CX : Addr} {c : Cs} {C : Addr}
theorem scField : FnScope ["self", "kind", "number", "halves"] ["self", "kind", "number", "halves"] (defScope sField) := ⟨rfl, rfl, rfl, by decide +kernel, rfl, by decide +kernel, by decide +kernel⟩
theorem ok_fieldI (S : SrcI K mg "Field" C "Field.__init__" sField ["self", "kind", "number", "halves"]) (cl : Cls K C) (n1 : NoAttr K C "kind") (n2 : NoAttr K C "number") (n3 : NoAttr K C "halves") : DefI P w K mg base CX0 1 "Field" C ["self", "kind", "number", "halves"] (spI3 C "kind" "number" "halves") := by
  refine S.def fun f fd F => F.ok scField (fun vs H Q E h => ?_) fun cdv A outer s H vs Q E hr h => ?_
  · obtain ⟨p, dx, x, y, z, rfl, _⟩ := h
    rfl
  obtain ⟨p, dx, x, y, z, rfl, hp, q⟩ := h
  refine ⟨_, pss_cons (ps_fld (pv 0) (pv 1) rfl) (pss_cons (ps_fld (pv 0) (pv 2) rfl) (pss_one (ps_fld (pv 0) (pv 3) rfl))), ?_⟩
  refine ⟨_, rfl, _, rfl, p, C, dx, [], rfl, hp, cl, n1, (by show 0 < 1000; decide), ?_⟩
  refine ⟨_, rfl, _, rfl, p, C, dx, _, rfl, upd_same, cl, n2, (by show 1 < 1000; decide), ?_⟩
  refine ⟨_, rfl, _, rfl, p, C, dx, _, rfl, upd_same, cl, n3, (by rw [put_nil, put_ne _ _ _ (sne (by decide)), put_nil]; show 2 < 1000; decide), ?_⟩
  refine q _ (upd_same.trans ?_) fun b o e hb => by rw [upd_ne hb, upd_ne hb, upd_ne hb]; exact e
  rw [put_nil, put_ne _ _ _ (sne (by decide)), put_nil, put_ne _ _ _ (sne (by decide)), put_ne _ _ _ (sne (by decide)), put_nil]
theorem scItem : FnScope ["self", "kind", "number", "tincture"] ["self", "kind", "number", "tincture"] (defScope sItem) := ⟨rfl, rfl, rfl, by decide +kernel, rfl, by decide +kernel, by decide +kernel⟩
theorem ok_itemI (S : SrcI K mg "Item" C "Item.__init__" sItem ["self", "kind", "number", "tincture"]) (cl : Cls K C) (n1 : NoAttr K C "kind") (n2 : NoAttr K C "number") (n3 : NoAttr K C "tincture") : DefI P w K mg base CX0 1 "Item" C ["self", "kind", "number", "tincture"] (spI3 C "kind" "number" "tincture") := by
  refine S.def fun f fd F => F.ok scItem (fun vs H Q E h => ?_) fun cdv A outer s H vs Q E hr h => ?_
  · obtain ⟨p, dx, x, y, z, rfl, _⟩ := h
    rfl
  obtain ⟨p, dx, x, y, z, rfl, hp, q⟩ := h
  refine ⟨_, pss_cons (ps_fld (pv 0) (pv 1) rfl) (pss_cons (ps_fld (pv 0) (pv 2) rfl) (pss_one (ps_fld (pv 0) (pv 3) rfl))), ?_⟩
  refine ⟨_, rfl, _, rfl, p, C, dx, [], rfl, hp, cl, n1, (by show 0 < 1000; decide), ?_⟩
  refine ⟨_, rfl, _, rfl, p, C, dx, _, rfl, upd_same, cl, n2, (by show 1 < 1000; decide), ?_⟩
  refine ⟨_, rfl, _, rfl, p, C, dx, _, rfl, upd_same, cl, n3, (by rw [put_nil, put_ne _ _ _ (sne (by decide)), put_nil]; show 2 < 1000; decide), ?_⟩
  refine q _ (upd_same.trans ?_) fun b o e hb => by rw [upd_ne hb, upd_ne hb, upd_ne hb]; exact e
  rw [put_nil, put_ne _ _ _ (sne (by decide)), put_nil, put_ne _ _ _ (sne (by decide)), put_ne _ _ _ (sne (by decide)), put_nil]
theorem scArms : FnScope ["self", "field", "borne"] ["self", "field", "borne"] (defScope sArms) := ⟨rfl, rfl, rfl, by decide +kernel, rfl, by decide +kernel, by decide +kernel⟩
theorem ok_armsI (S : SrcI K mg "Arms" C "Arms.__init__" sArms ["self", "field", "borne"]) (cl : Cls K C) (n1 : NoAttr K C "field") (n2 : NoAttr K C "borne") : DefI P w K mg base CX0 1 "Arms" C ["self", "field", "borne"] (spI2 C "field" "borne") := by
  refine S.def fun f fd F => F.ok scArms (fun vs H Q E h => ?_) fun cdv A outer s H vs Q E hr h => ?_
  · obtain ⟨p, dx, x, y, rfl, _⟩ := h
    rfl
  obtain ⟨p, dx, x, y, rfl, hp, q⟩ := h
  refine ⟨_, pss_cons (ps_fld (pv 0) (pv 1) rfl) (pss_one (ps_fld (pv 0) (pv 2) rfl)), ?_⟩
  refine ⟨_, rfl, _, rfl, p, C, dx, [], rfl, hp, cl, n1, (by show 0 < 1000; decide), ?_⟩
  refine ⟨_, rfl, _, rfl, p, C, dx, _, rfl, upd_same, cl, n2, (by show 1 < 1000; decide), ?_⟩
  refine q _ (upd_same.trans ?_) fun b o e hb => by rw [upd_ne hb, upd_ne hb]; exact e
  rw [put_nil, put_ne _ _ _ (sne (by decide)), put_nil]
theorem scReader : FnScope ["self", "words"] ["self", "words"] (defScope sReader) := ⟨rfl, rfl, rfl, by decide +kernel, rfl, by decide +kernel, by decide +kernel⟩
def spReader (CR : Addr) : Sp := fun vs H Q _ => ∃ p dx x, vs = [.ref p, .ref x] ∧ H p = some (.ins CR dx []) ∧ ∀ H' : Hp, H' p = some (.ins CR dx (rdF x 0)) → (∀ q o, H q = some o → q ≠ p → H' q = some o) → Q .non H'
theorem ok_readerI (S : SrcI K mg "Reader" C "Reader.__init__" sReader ["self", "words"]) (T : RdC K C) : DefI P w K mg base CX0 1 "Reader" C ["self", "words"] (spReader C) := by
  refine S.def fun f fd F => F.ok scReader (fun vs H Q E h => ?_) fun cdv A outer s H vs Q E hr h => ?_
  · obtain ⟨p, dx, x, rfl, _⟩ := h
    rfl
  obtain ⟨p, dx, x, rfl, hp, q⟩ := h
  refine ⟨_, pss_cons (ps_fld (pv 0) (pv 1) rfl) (pss_one (ps_fld (pv 0) pe_int rfl)), ?_⟩
  refine ⟨_, rfl, _, rfl, p, C, dx, [], rfl, hp, T.cl, T.nw, (by show 0 < 1000; decide), ?_⟩
  refine ⟨_, rfl, p, C, dx, _, rfl, upd_same, T.cl, T.np, (by show 1 < 1000; decide), ?_⟩
  refine q _ (upd_same.trans ?_) fun b o e hb => by rw [upd_ne hb, upd_ne hb]; exact e
  rw [put_nil, put_ne _ _ _ (sne (by decide)), put_nil]
  rfl
theorem scCannot : FnScope ["self", "place"] ["self", "place"] (defScope sCannot) := ⟨rfl, rfl, rfl, by decide +kernel, rfl, by decide +kernel, by decide +kernel⟩
theorem place_none : typeLookup (.type "Exception") "place" = pure none := by rw [typeLookup_type, builtinLookup_eq_fast]; kernel_rfl
theorem ok_cannotI {N fI : Addr} {fd : FuncData} (xc : XCls K CX N fI) (nf : PySem.W.nsIn K N "place" = some none) (F : Fun K "__init__" "CannotStand.__init__" sCannot fI fd) : FnOk P w K mg base CX0 1 fI fd ["self", "place"] (spXInit CX "place") := by
  refine F.ok scCannot (fun vs H Q E h => ?_) fun cdv A outer s H vs Q E hr h => ?_
  · obtain ⟨e, t, v, rfl, _⟩ := h
    rfl
  obtain ⟨e, t, v, rfl, he, q⟩ := h
  refine ⟨_, pss_one (ps_xset xc nf place_none (pv 0) (pv 1) rfl), ?_⟩
  exact ⟨_, rfl, _, rfl, e, t, rfl, he, q⟩

/-! ### a field that is parted -/
abbrev DName (P : Program) (w : World) (K : PySem.W.Frag) (mg : Str → Option Value) (base : Heap) (CR CX : Addr) (k : Nat) : Prop := Def P w K mg base (CXE P w CX) k "read_name" ["reader", "names"] (spName K CR CX)
abbrev DFieldI (P : Program) (w : World) (K : PySem.W.Frag) (mg : Str → Option Value) (base : Heap) (c : Cs) (k : Nat) : Prop := DefI P w K mg base CX0 k "Field" c.field ["self", "kind", "number", "halves"] (spI3 c.field "kind" "number" "halves")
abbrev relF (c : Cs) : Hp → V → Sa57.Field → Prop := fun H v f => ∃ p, v = .ref p ∧ FieldAt c H p f
theorem scParted : FnScope ["reader", "depth", "kind", "first", "second"] ["reader", "depth"] (defScope sParted) := ⟨rfl, rfl, rfl, by decide +kernel, rfl, by decide +kernel, by decide +kernel⟩
theorem ok_parted (S : Src K mg "read_parted" sParted ["reader", "depth"]) (T : RdC K c.reader) {k d : Nat} (hk : 4 ≤ k) (Dt : DTake P w K mg base c.reader CX 3) (Dm : DName P w K mg base c.reader CX 4) (Dh : DHalf P w K mg base c CX k d) (DF : DFieldI P w K mg base c 1) (G : TupG K mg "PARTINGS" tPART) (ok : c.Ok) :
    Def P w K mg base (CXE P w CX) (k + 1) "read_parted" ["reader", "depth"] (spP c.reader CX [.int (6 - (d : Nat))] (partedW (subD d)) (relF c)) := by
  refine S.def fun f fd F => F.okE scParted (fun vs H Q E h => ?_) fun cdv A outer s H vs Q E hr h => ?_
  · obtain ⟨rd, L, l, rfl, _⟩ := h
    rfl
  obtain ⟨rd, L, l, rfl, R, q, qe⟩ := h
  obtain ⟨a, ma, ta⟩ := G.ex
  have hr3 : Room 3 _ := hr.mono (by omega)
  have hr4 : Room 4 _ := hr.mono hk
  have hr2 : Room (1 + 1) _ := hr.mono (by omega)
  refine ⟨_, pss_cons (ps_set (i := 2) scParted.nd rfl (Or.inl rfl) (pe_methD Dt (pv 0) T.cl hr3 passE (pa_cons (pe_tup (pa_cons pe_str (pa_cons pe_str pa_nil))) pa_nil)))
    (pss_cons (ps_if (pt_cmpR op_eq (pv 2) pe_str (nomark _)) (pss_one (ps_set (i := 2) scParted.nd rfl (Or.inl rfl) (pe_callD Dm hr4 rfl passE (pa_cons (pv 0) (pa_cons (pe_gref rfl ma) pa_nil))))) pss_nil)
    (PSs.to (t' := fun D σ H1 => ∃ p l1, σ = [some (.ref rd), some (.int (6 - (d : Nat))), some (nV (pName p)), none, none] ∧ Keep c.reader H H1 ∧ RdAt c.reader H1 rd L l1 ∧ partedW (subD d) l = halvesW (subD d) p l1 ∧ D.rt = Q)
    (pss_cons (ps_set (i := 3) scParted.nd rfl (Or.inl rfl) (pe_callD Dh hr rfl passE (pa_cons (pv 0) (pa_cons (pv 1) pa_nil))))
    (pss_cons (ps_expr (pe_methD Dt (pv 0) T.cl hr3 passE (pa_cons (pe_tup (pa_cons pe_str pa_nil)) pa_nil)))
    (pss_cons (ps_set (i := 4) scParted.nd rfl (Or.inl rfl) (pe_callD Dh hr rfl passE (pa_cons (pv 0) (pa_cons (pv 1) pa_nil))))
    (pss_one (ps_ret (pe_makeD DF hr2 rfl pass0 (pa_cons (pv 2) (pa_cons pe_int (pa_cons (pe_lst (pa_cons (pv 3) (pa_cons (pv 4) pa_nil))) pa_nil))))))))) ?tail)), ?_⟩
  case tail =>
    rintro D σ H1 ⟨p, l1, rfl, kp, R1, eP, rfl⟩
    refine ⟨_, rfl, _, rfl, rd, L, l1, rfl, R1, fun x r2 v H2 hx kp2 R2 hv => ?_, fun k2 hx => qe k2 (by rw [eP]; unfold halvesW; rw [hx]; rfl)⟩
    obtain ⟨dx2, fs2, g1, g2⟩ := R2.at (m := "take") (by decide) (by decide)
    refine ⟨_, rfl, rd, dx2, fs2, rfl, g1, g2, by show 1 ≤ sizeLine; exact le1000 (by decide), fun p2 hp2 => ⟨rd, L, r2, p2, ["and"], rfl, R2.new hp2 _, Names.mk' (SqT.of upd_same) (by decide), fun n3 r3 H3 q3 kp3 R3 => ?_, fun z => qe _ ?_⟩⟩
    · obtain ⟨rfl, hj⟩ := just_some q3
      have kp3' : Keep c.reader H2 H3 := (Keep.new hp2 _).trans kp3
      refine ⟨_, rfl, _, rfl, rd, L, r3, rfl, R3, fun y r4 v4 H4 hy kp4 R4 hv4 => ?_, fun k4 hy => qe k4 ?_⟩
      · refine ⟨_, rfl, _, rfl, _, rfl, by show 2 ≤ sizeLine; exact le1000 (by decide), fun ph hph => ?_⟩
        intro px dxx n1 n2 n3'
        refine ⟨px, dxx, _, _, _, rfl, upd_same, fun H5 e5 k5 => ⟨rfl, ?_⟩⟩
        have s5 : Same (upd H4 ph (.lst [v, v4])) H5 := Same.made n1 n2 k5
        have kp5 : Keep c.reader H4 H5 := (Keep.new hph _).trans (Keep.same s5)
        refine q (.parted p x y) r4 _ H5 ?_ (kp.trans (kp2.trans (kp3'.trans (kp4.trans kp5)))) ?_ ⟨px, rfl, dxx, ph, v, v4, e5, s5 _ _ upd_same, ?_, ?_⟩
        · rw [eP]
          unfold halvesW
          rw [hx]
          show (Sa57.just "and" r2).bind _ = _
          rw [hj]
          show (halfW (subD d) r3).map _ = _
          rw [hy]
          rfl
        · obtain ⟨wl, dx, k', e1, e2, rr⟩ := R4.new hph (.lst [v, v4])
          exact ⟨wl, dx, k', s5 _ _ e1, s5 _ _ e2, rr⟩
        · exact HalfAt.keep ok (kp3'.trans (kp4.trans kp5)) x v hv
        · exact HalfAt.keep ok kp5 y v4 hv4
      · rw [eP]
        unfold halvesW
        rw [hx]
        show (Sa57.just "and" r2).bind _ = _
        rw [hj]
        show (halfW (subD d) r3).map _ = _
        rw [hy]
        rfl
    · rw [eP]
      unfold halvesW
      rw [hx]
      show (Sa57.just "and" r2).bind _ = _
      rw [just_none z]
      rfl
  obtain ⟨dx, fs, e1, e2⟩ := R.at (m := "take") (by decide) (by decide)
  refine ⟨_, rfl, rd, dx, fs, rfl, e1, e2, by show 2 ≤ sizeLine; exact le1000 (by decide), fun p hp => ⟨rd, L, l, p, ["per", "quarterly"], rfl, R.new hp _, Names.mk' (SqT.of upd_same) (by decide), fun n r H1 hpk kp1 R1 => ?_, fun z => qe _ ?_⟩⟩
  · have kp1' : Keep c.reader H H1 := (Keep.new hp _).trans kp1
    refine ⟨_, rfl, rfl, _, rfl, ?_⟩
    cases parted_run (subD d) l with
    | no h e => rw [h] at hpk; cases hpk
    | perNo r' h h2 e =>
      rw [h] at hpk
      cases hpk
      have d1 : decide (nV "per" = nV "per") = true := decide_eq_true rfl
      show if decide (nV "per" = nV "per") = true then _ else _
      rw [d1]
      refine iteT ⟨_, rfl, rd, L, _, a, tPART, rfl, R1, Names.mk' (ta.sq _) (by decide), fun n2 r2 H2 hn2 _ _ => ?_, fun _ => qe _ e⟩
      rw [h2] at hn2
      cases hn2
    | per r' q' n' p' h h2 k' e =>
      rw [h] at hpk
      cases hpk
      have d1 : decide (nV "per" = nV "per") = true := decide_eq_true rfl
      show if decide (nV "per" = nV "per") = true then _ else _
      rw [d1]
      refine iteT ⟨_, rfl, rd, L, _, a, tPART, rfl, R1, Names.mk' (ta.sq _) (by decide), fun n2 r2 H2 hn2 kp2 R2 => ?_, fun z => ?_⟩
      · rw [h2] at hn2
        cases hn2
        exact ⟨p', q', by rw [k']; rfl, kp1'.trans kp2, R2, e, rfl⟩
      · rw [h2] at z
        cases z
    | qu r' h e =>
      rw [h] at hpk
      cases hpk
      have d1 : decide (nV "quarterly" = nV "per") = false := decide_eq_false fun z => absurd (nS_inj (V.str.inj z)) (by decide)
      show if decide (nV "quarterly" = nV "per") = true then _ else _
      rw [d1]
      exact iteF ⟨.quarterly, _, rfl, kp1', R1, e, rfl⟩
  · cases parted_run (subD d) l with
    | no h e => exact e
    | perNo r' h h2 e => rw [h] at z; cases z
    | per r' q' n' p' h h2 k' e => rw [h] at z; cases z
    | qu r' h e => rw [h] at z; cases z
end
end A57

namespace A57
open PySem L2
open Sa57 (Bytes ascii Read)
/-- a dict of texts to numbers, a global -/
structure STabG (P : Program) (w : World) (K : PySem.W.Frag) (mg : Str → Option Value) (x : Str) (D : List (String × Int)) : Prop where
  ex : ∃ a, mg x = some (.ref a) ∧ STab P w K a (D.map fun p => (nS p.1, p.2))
theorem sAt_names (n : String) : ∀ D : List (String × Int), sAt (nS n) (D.map fun p => (nS p.1, p.2)) = D.lookup n
  | [] => rfl
  | (m, v) :: r => by
    show (if nS m = nS n then some v else sAt (nS n) (r.map fun p => (nS p.1, p.2))) = _
    rw [sAt_names n r]
    by_cases h : m = n
    · subst h; simp [List.lookup]
    · rw [if_neg fun z => h (nS_inj z)]
      have : (n == m) = false := beq_eq_false_iff_ne.mpr fun z => h z.symm
      simp [List.lookup, this]
section
variable {P : Program} {w : World} {K : PySem.W.Frag} {mg : Str → Option Value} {base : Heap} {CX : Addr} {c : Cs}
theorem RdAt.same {H H' : Hp} {CR rd : Addr} {L l : List Bytes} (R : RdAt CR H rd L l) (s : Same H H') : RdAt CR H' rd L l := by
  obtain ⟨wl, dx, k, e, e2, r⟩ := R
  exact ⟨wl, dx, k, s _ _ e, s _ _ e2, r⟩
theorem scVaried : FnScope ["reader", "kind", "number", "first", "second"] ["reader"] (defScope sVaried) := ⟨rfl, rfl, rfl, by decide +kernel, rfl, by decide +kernel, by decide +kernel⟩
theorem ok_varied (S : Src K mg "read_varied" sVaried ["reader"]) (T : RdC K c.reader) (Dt : DTake P w K mg base c.reader CX 3) (Dn : DTinct P w K mg base c.reader CX 4) (DF : DFieldI P w K mg base c 1) (GV : TupG K mg "VARIATIONS" tVAR) (GB : TupG K mg "NUMBERS_BEHIND_OF" tNBO) (GN : STabG P w K mg "NUMBERS" tNUM) :
    Def P w K mg base (CXE P w CX) 5 "read_varied" ["reader"] (spP c.reader CX [] variedW (relF c)) := by
  refine S.def fun f fd F => F.okE scVaried (fun vs H Q E h => ?_) fun cdv A outer s H vs Q E hr h => ?_
  · obtain ⟨rd, L, l, rfl, _⟩ := h
    rfl
  obtain ⟨rd, L, l, rfl, R, q, qe⟩ := h
  obtain ⟨aV, mV, tV⟩ := GV.ex
  obtain ⟨aB, mB, tB⟩ := GB.ex
  obtain ⟨aN, mN, tN⟩ := GN.ex
  have hr3 : Room 3 _ := hr.mono (by decide)
  have hr2 : Room (1 + 1) _ := hr.mono (by decide)
  refine ⟨_, pss_cons (ps_set (i := 1) scVaried.nd rfl (Or.inl rfl) (pe_methD Dt (pv 0) T.cl hr3 passE (pa_cons (pe_gref rfl mV) pa_nil)))
    (pss_cons (ps_expr (pe_methD Dt (pv 0) T.cl hr3 passE (pa_cons (pe_tup (pa_cons pe_str pa_nil)) pa_nil)))
    (pss_cons (ps_set (i := 2) scVaried.nd rfl (Or.inl rfl) (pe_stab tN (pe_gref rfl mN) (pe_methD Dt (pv 0) T.cl hr3 passE (pa_cons (pe_gref rfl mB) pa_nil)) (fun _ _ => rfl)))
    (pss_cons (ps_set (i := 3) scVaried.nd rfl (Or.inl rfl) (pe_callD Dn hr rfl passE (pa_cons (pv 0) pa_nil)))
    (pss_cons (ps_expr (pe_methD Dt (pv 0) T.cl hr3 passE (pa_cons (pe_tup (pa_cons pe_str pa_nil)) pa_nil)))
    (pss_cons (ps_set (i := 4) scVaried.nd rfl (Or.inl rfl) (pe_callD Dn hr rfl passE (pa_cons (pv 0) pa_nil)))
    (pss_one (ps_ret (pe_makeD DF hr2 rfl pass0 (pa_cons (pv 1) (pa_cons (pv 2) (pa_cons (pe_lst (pa_cons (pv 3) (pa_cons (pv 4) pa_nil))) pa_nil))))))))))), ?_⟩
  obtain ⟨dx, fs, e1, e2⟩ := R.at (m := "take") (by decide) (by decide)
  refine ⟨_, rfl, rd, dx, fs, rfl, e1, e2, rd, L, l, aV, tVAR, rfl, R, Names.mk' (tV.sq _) (by decide), fun n r H1 hpk kp1 R1 => ?_, fun z => qe _ ?_⟩
  · cases varied_run l with
    | no h e => rw [h] at hpk; cases hpk
    | some r' n' v h kv e =>
      rw [h] at hpk
      cases hpk
      obtain ⟨dx1, fs1, f1, f2⟩ := R1.at (m := "take") (by decide) (by decide)
      refine ⟨_, rfl, rd, dx1, fs1, rfl, f1, f2, by show 1 ≤ sizeLine; exact le1000 (by decide), fun p2 hp2 => ⟨rd, L, r, p2, ["of"], rfl, R1.new hp2 _, Names.mk' (SqT.of upd_same) (by decide), fun n2 r2 H2 q2 kp2 R2 => ?_, fun z => qe _ (by rw [e, just_none z]; rfl)⟩⟩
      obtain ⟨rfl, hj2⟩ := just_some q2
      have kp2' : Keep c.reader H1 H2 := (Keep.new hp2 _).trans kp2
      have e2' : variedW l = (evenR r2).bind fun y => (Sa57.tincture y.2).bind fun t => (Sa57.just "and" t.2).bind fun z => (Sa57.tincture z.2).map fun u => (.varied v y.1 t.1 u.1, u.2) := by
        rw [e, hj2]
        rfl
      obtain ⟨dx2, fs2, g1, g2⟩ := R2.at (m := "take") (by decide) (by decide)
      refine ⟨_, rfl, rd, dx2, fs2, rfl, g1, g2, rd, L, r2, aB, tNBO, rfl, R2, Names.mk' (tB.sq _) (by decide), fun n3 r3 H3 q3 kp3 R3 => ?_, fun z => qe _ (by rw [e2', even_none z]; rfl)⟩
      obtain ⟨num, hnum, hev⟩ := even_some q3
      refine ⟨nS n3, (num : Int), rfl, rfl, by rw [sAt_names]; exact hnum, ?_⟩
      have e3' : variedW l = (Sa57.tincture r3).bind fun t => (Sa57.just "and" t.2).bind fun z => (Sa57.tincture z.2).map fun u => (.varied v num t.1 u.1, u.2) := by
        rw [e2', hev]
        rfl
      refine ⟨_, rfl, rd, L, r3, rfl, R3, fun t r4 v4 H4 ht kp4 R4 hv4 => ?_, fun k4 ht => qe k4 (by rw [e3', ht]; rfl)⟩
      obtain rfl : v4 = .int (t : Nat) := hv4
      obtain ⟨dx4, fs4, j1, j2⟩ := R4.at (m := "take") (by decide) (by decide)
      refine ⟨_, rfl, rd, dx4, fs4, rfl, j1, j2, by show 1 ≤ sizeLine; exact le1000 (by decide), fun p5 hp5 => ⟨rd, L, r4, p5, ["and"], rfl, R4.new hp5 _, Names.mk' (SqT.of upd_same) (by decide), fun n5 r5 H5 q5 kp5 R5 => ?_, fun z => qe _ ?_⟩⟩
      · obtain ⟨rfl, hj5⟩ := just_some q5
        have kp5' : Keep c.reader H4 H5 := (Keep.new hp5 _).trans kp5
        have e5' : variedW l = (Sa57.tincture r5).map fun u => (.varied v num t u.1, u.2) := by
          rw [e3', ht]
          show (Sa57.just "and" r4).bind _ = _
          rw [hj5]
          rfl
        refine ⟨_, rfl, rd, L, r5, rfl, R5, fun u r6 v6 H6 hu kp6 R6 hv6 => ?_, fun k6 hu => qe k6 (by rw [e5', hu]; rfl)⟩
        obtain rfl : v6 = .int (u : Nat) := hv6
        refine ⟨_, rfl, _, rfl, _, rfl, _, rfl, by show 2 ≤ sizeLine; exact le1000 (by decide), fun ph hph => ?_⟩
        intro px dxx n1 n2 n3'
        refine ⟨px, dxx, _, _, _, rfl, upd_same, fun H7 e7 k7 => ⟨rfl, ?_⟩⟩
        have s7 : Same (upd H6 ph (.lst [.int (t : Nat), .int (u : Nat)])) H7 := Same.made n1 n2 k7
        have kp7 : Keep c.reader H6 H7 := (Keep.new hph _).trans (Keep.same s7)
        refine q (.varied v num t u) r6 _ H7 ?_ (kp1.trans (kp2'.trans (kp3.trans (kp4.trans (kp5'.trans (kp6.trans kp7)))))) ((R6.new hph _).same s7) ⟨px, rfl, dxx, ph, ?_, s7 _ _ upd_same⟩
        · rw [e5', hu]
          rfl
        · rw [kv]
          exact e7
      · rw [e3', ht]
        show (Sa57.just "and" r4).bind _ = _
        rw [just_none z]
        rfl
  · cases varied_run l with
    | no h e => exact e
    | some r' n' v h kv e => rw [h] at z; cases z

theorem scFieldR : FnScope ["reader", "depth", "word"] ["reader", "depth"] (defScope sFieldR) := ⟨rfl, rfl, rfl, by decide +kernel, rfl, by decide +kernel, by decide +kernel⟩
theorem ok_fieldR (S : Src K mg "read_field" sFieldR ["reader", "depth"]) (T : RdC K c.reader) {k d : Nat} (hk : 5 ≤ k) (Dp : DPeek P w K mg base c.reader 1) (Dr : Def P w K mg base (CXE P w CX) k "read_parted" ["reader", "depth"] (spP c.reader CX [.int (6 - (d : Nat))] (partedW (subD d)) (relF c)))
    (Dv : Def P w K mg base (CXE P w CX) 5 "read_varied" ["reader"] (spP c.reader CX [] variedW (relF c))) (Dn : DTinct P w K mg base c.reader CX 4) (DF : DFieldI P w K mg base c 1) (GV : TupG K mg "VARIATIONS" tVAR) (gP : StrG mg "PLAIN" "plain") :
    Def P w K mg base (CXE P w CX) (k + 1) "read_field" ["reader", "depth"] (spP c.reader CX [.int (6 - (d : Nat))] (fieldW (subD d)) (relF c)) := by
  refine S.def fun f fd F => F.okE scFieldR (fun vs H Q E h => ?_) fun cdv A outer s H vs Q E hr h => ?_
  · obtain ⟨rd, L, l, rfl, _⟩ := h
    rfl
  obtain ⟨rd, L, l, rfl, R, q, qe⟩ := h
  obtain ⟨aV, mV, tV⟩ := GV.ex
  obtain ⟨tP, mP⟩ := gP
  have hr1 : Room 1 _ := hr.mono (by omega)
  have hr5 : Room 5 _ := hr.mono hk
  have hr4 : Room 4 _ := hr.mono (by omega)
  have hr2 : Room (1 + 1) _ := hr.mono (by omega)
  refine ⟨_, pss_cons (ps_set (i := 2) scFieldR.nd rfl (Or.inl rfl) (pe_meth0D Dp (pv 0) T.cl hr1 pass0))
    (pss_cons (ps_if (pt_cmpR op_in_seq (pv 2) (pe_tup (pa_cons pe_str (pa_cons pe_str pa_nil))) (by with_unfolding_all rfl)) (pss_one (ps_ret (pe_callD Dr hr rfl passE (pa_cons (pv 0) (pa_cons (pv 1) pa_nil))))) pss_nil)
    (pss_cons (ps_if (pt_cmpR op_in_seq (pv 2) (pe_gref rfl mV) (by with_unfolding_all rfl)) (pss_one (ps_ret (pe_callD Dv hr5 rfl passE (pa_cons (pv 0) pa_nil)))) pss_nil)
    (pss_one (ps_ret (pe_makeD DF hr2 rfl pass0 (pa_cons (pe_gstr rfl mP) (pa_cons pe_int (pa_cons (pe_lst (pa_cons (pe_callD Dn hr4 rfl passE (pa_cons (pv 0) pa_nil)) pa_nil)) pa_nil)))))))), ?_⟩
  obtain ⟨dx, fs, e1, e2⟩ := R.at (m := "peek") (by decide) (by decide)
  refine ⟨_, rfl, rd, dx, fs, rfl, e1, e2, rd, L, l, rfl, R, ?_⟩
  have ok1 := okB_ok (names := ["per", "quarterly"]) (by decide)
  have ok2 := okB_ok (names := tVAR) (by decide)
  refine ⟨_, rfl, by show 2 ≤ sizeLine; exact le1000 (by decide), fun p hp => ⟨p, _, rfl, .inr (SqT.of upd_same), rfl, by decide, _, rfl, ?_⟩⟩
  have i1 := hdS_in ok1.1 ok1.2 l
  have i2 := hdS_in ok2.1 ok2.2 l
  have R1 := R.new hp (.tup [nV "per", nV "quarterly"])
  have kp1 : Keep c.reader H (upd H p (.tup [nV "per", nV "quarterly"])) := Keep.new hp _
  show if inV (V.str (hdS l)) (["per", "quarterly"].map nV) = true then _ else _
  rw [i1]
  unfold fieldW at q qe
  cases hpq : (pick ["per", "quarterly"] l).isSome with
  | true =>
    rw [hpq] at q qe
    refine iteT ⟨_, rfl, _, rfl, rd, L, l, rfl, R1, fun a r v H' ha kp R' hv => q a r v H' (by rw [if_pos rfl]; exact ha) (kp1.trans kp) R' hv, fun k' ha => qe k' (by rw [if_pos rfl]; exact ha)⟩
  | false =>
    rw [hpq] at q qe
    refine iteF ?_
    refine ⟨_, rfl, aV, _, rfl, .inr (tV.sq _), rfl, flat_names _, _, rfl, ?_⟩
    show if inV (V.str (hdS l)) (tVAR.map nV) = true then _ else _
    rw [i2]
    cases hv' : (pick tVAR l).isSome with
    | true =>
      rw [hv'] at q qe
      refine iteT ⟨_, rfl, rd, L, l, rfl, R1, fun a r v H' ha kp R' hv => q a r v H' (by rw [if_neg (by decide), if_pos rfl]; exact ha) (kp1.trans kp) R' hv, fun k' ha => qe k' (by rw [if_neg (by decide), if_pos rfl]; exact ha)⟩
    | false =>
      rw [hv'] at q qe
      refine iteF ⟨_, rfl, rd, L, l, rfl, R1, fun t r v H' ht kp R' hv => ?_, fun k' ht => qe k' (by rw [if_neg (by decide), if_neg (by decide)]; unfold plainW; rw [ht]; rfl)⟩
      obtain rfl : v = .int (t : Nat) := hv
      refine ⟨by show 1 ≤ sizeLine; exact le1000 (by decide), fun ph hph => ?_⟩
      intro px dxx n1 n2 n3'
      refine ⟨px, dxx, _, _, _, rfl, upd_same, fun H7 e7 k7 => ⟨rfl, ?_⟩⟩
      have s7 : Same (upd H' ph (.lst [.int (t : Nat)])) H7 := Same.made n1 n2 k7
      refine q (.plain t) r _ H7 (by rw [if_neg (by decide), if_neg (by decide)]; unfold plainW; rw [ht]; rfl) (kp1.trans (kp.trans ((Keep.new hph _).trans (Keep.same s7)))) ((R'.new hph _).same s7) ⟨px, rfl, dxx, ph, e7, s7 _ _ upd_same⟩
end
end A57

namespace A57
open PySem L2
open Sa57 (Bytes ascii Read)
theorem dV_true (n : String) : decide (nV n = nV n) = true := decide_eq_true rfl
theorem dV_false {m n : String} (h : m ≠ n) : decide (nV m = nV n) = false := decide_eq_false fun z => h (nS_inj (V.str.inj z))
section
variable {P : Program} {w : World} {K : PySem.W.Frag} {mg : Str → Option Value} {base : Heap} {CX : Addr} {c : Cs}
abbrev DItemI (P : Program) (w : World) (K : PySem.W.Frag) (mg : Str → Option Value) (base : Heap) (c : Cs) (k : Nat) : Prop := DefI P w K mg base CX0 k "Item" c.item ["self", "kind", "number", "tincture"] (spI3 c.item "kind" "number" "tincture")
abbrev DArmsI (P : Program) (w : World) (K : PySem.W.Frag) (mg : Str → Option Value) (base : Heap) (c : Cs) (k : Nat) : Prop := DefI P w K mg base CX0 k "Arms" c.arms ["self", "field", "borne"] (spI2 c.arms "field" "borne")
abbrev relI (c : Cs) : Hp → V → Sa57.Item → Prop := fun H v i => ∃ p, v = .ref p ∧ ItemAt c H p i
theorem scItemR : FnScope ["reader", "word", "kind", "charges"] ["reader"] (defScope sItemR) := ⟨rfl, rfl, rfl, by decide +kernel, rfl, by decide +kernel, by decide +kernel⟩
theorem ok_itemR (S : Src K mg "read_item" sItemR ["reader"]) (T : RdC K c.reader) (Dt : DTake P w K mg base c.reader CX 3) (Dm : DName P w K mg base c.reader CX 4) (Dn : DTinct P w K mg base c.reader CX 4) (DI : DItemI P w K mg base c 1)
    (GC : TupG K mg "NUMBERS_OF_CHARGES" tNOC) (GO : TupG K mg "ORDINARIES" tORD) (G1 : TupG K mg "ONE_CHARGE" tONE) (GM : TupG K mg "MORE_CHARGES" tMORE) (GN : STabG P w K mg "NUMBERS" tNUM) :
    Def P w K mg base (CXE P w CX) 5 "read_item" ["reader"] (spP c.reader CX [] Sa57.item (relI c)) := by
  refine S.def fun f fd F => F.okE scItemR (fun vs H Q E h => ?_) fun cdv A outer s H vs Q E hr h => ?_
  · obtain ⟨rd, L, l, rfl, _⟩ := h
    rfl
  obtain ⟨rd, L, l, rfl, R, q, qe⟩ := h
  obtain ⟨aC, mC, tC'⟩ := GC.ex
  obtain ⟨aO, mO, tO⟩ := GO.ex
  obtain ⟨a1, m1, t1⟩ := G1.ex
  obtain ⟨aM, mM, tM⟩ := GM.ex
  obtain ⟨aN, mN, tN⟩ := GN.ex
  have hr3 : Room 3 _ := hr.mono (by decide)
  have hr2 : Room (1 + 1) _ := hr.mono (by decide)
  refine ⟨_, pss_cons (ps_set (i := 1) scItemR.nd rfl (Or.inl rfl) (pe_methD Dt (pv 0) T.cl hr3 passE (pa_cons (pe_op op_catT (pe_tup (pa_cons pe_str pa_nil)) (pe_gref rfl mC)) pa_nil)))
    (pss_cons (ps_if (pt_cmpR op_eq (pv 1) pe_str (nomark _))
      (pss_cons (ps_set (i := 2) scItemR.nd rfl (Or.inl rfl) (pe_callD Dm hr rfl passE (pa_cons (pv 0) (pa_cons (pe_op op_catT (pe_gref rfl mO) (pe_gref rfl m1)) pa_nil))))
      (pss_one (ps_ret (pe_makeD DI hr2 rfl pass0 (pa_cons (pv 2) (pa_cons pe_int (pa_cons (pe_callD Dn hr rfl passE (pa_cons (pv 0) pa_nil)) pa_nil))))))) pss_nil)
    (pss_cons (ps_set (i := 3) scItemR.nd rfl (Or.inl rfl) (pe_methD Dt (pv 0) T.cl hr3 passE (pa_cons (pe_gref rfl mM) pa_nil)))
    (pss_cons (ps_set (i := 2) scItemR.nd rfl (Or.inl rfl) (pe_ix ix_tup (pe_gref rfl m1) (pe_bm PySem.F.plainAttrs_tuple PySem.F.slot_tuple_index PySem.F.type_tuple_index mt_indexT (pe_gref rfl mM) (pa_cons (pv 3) pa_nil)) (fun _ _ => rfl)))
    (pss_one (ps_ret (pe_makeD DI hr2 rfl pass0 (pa_cons (pv 2) (pa_cons (pe_stab tN (pe_gref rfl mN) (pv 1) (fun _ _ => rfl)) (pa_cons (pe_callD Dn hr rfl passE (pa_cons (pv 0) pa_nil)) pa_nil))))))))), ?_⟩
  obtain ⟨dx, fs, e1, e2⟩ := R.at (m := "take") (by decide) (by decide)
  refine ⟨_, rfl, rd, dx, fs, rfl, e1, e2, by show 1 ≤ sizeLine; exact le1000 (by decide), fun p hp => ⟨p, aC, _, _, rfl, rfl, SqT.of upd_same, tC'.sq _, by simp, by show _ ≤ sizeLine; exact le1000 (by decide), fun z => absurd z (by decide), fun _ p2 hp2 => ?_⟩⟩
  have kp0 : Keep c.reader H (upd (upd H p (.tup [nV "a"])) p2 (.tup ([nV "a"] ++ tNOC.map nV))) := (Keep.new hp _).trans (Keep.new hp2 _)
  refine ⟨rd, L, l, p2, "a" :: tNOC, rfl, (R.new hp _).new hp2 _, Names.mk' (SqT.of upd_same) (by decide), fun n r H1 hpk kp1' R1 => ?_, fun z => qe _ ?_⟩
  · have kp1 : Keep c.reader H H1 := kp0.trans kp1'
    refine ⟨_, rfl, rfl, _, rfl, ?_⟩
    cases item_run l with
    | no h e => rw [h] at hpk; cases hpk
    | aNo r' h h2 e =>
      rw [h] at hpk
      cases hpk
      show if decide (nV "a" = nV "a") = true then _ else _
      rw [dV_true]
      refine iteT ⟨_, rfl, aO, a1, _, _, rfl, rfl, tO.sq _, t1.sq _, by decide, by show _ ≤ sizeLine; exact le1000 (by decide), fun z => absurd z (by decide), fun _ p3 hp3 => ?_⟩
      refine ⟨rd, L, r, p3, tORD ++ tONE, rfl, R1.new hp3 _, Names.mk' (by rw [List.map_append]; exact SqT.of upd_same) (by decide), fun n2 r2 H2 hn2 _ _ => ?_, fun _ => qe _ e⟩
      rw [h2] at hn2
      cases hn2
    | aTn r' q' n' k' h h2 h3 e =>
      rw [h] at hpk
      cases hpk
      show if decide (nV "a" = nV "a") = true then _ else _
      rw [dV_true]
      refine iteT ⟨_, rfl, aO, a1, _, _, rfl, rfl, tO.sq _, t1.sq _, by decide, by show _ ≤ sizeLine; exact le1000 (by decide), fun z => absurd z (by decide), fun _ p3 hp3 => ?_⟩
      refine ⟨rd, L, r, p3, tORD ++ tONE, rfl, R1.new hp3 _, Names.mk' (by rw [List.map_append]; exact SqT.of upd_same) (by decide), fun n2 r2 H2 hn2 kp2 R2 => ?_, fun z => ?_⟩
      · rw [h2] at hn2
        cases hn2
        refine ⟨_, rfl, _, rfl, rd, L, _, rfl, R2, fun t z v H3 ht kp3 R3 hv => ?_, fun k2 ht => ?_⟩
        · rw [h3] at ht
          cases ht
        · rw [h3] at ht
          cases ht
          exact qe _ e
      · rw [h2] at z
        cases z
    | aOk r' q' z' n' t' i h h2 h3 e k1 k2 k3 =>
      rw [h] at hpk
      cases hpk
      show if decide (nV "a" = nV "a") = true then _ else _
      rw [dV_true]
      refine iteT ⟨_, rfl, aO, a1, _, _, rfl, rfl, tO.sq _, t1.sq _, by decide, by show _ ≤ sizeLine; exact le1000 (by decide), fun z => absurd z (by decide), fun _ p3 hp3 => ?_⟩
      refine ⟨rd, L, r, p3, tORD ++ tONE, rfl, R1.new hp3 _, Names.mk' (by rw [List.map_append]; exact SqT.of upd_same) (by decide), fun n2 r2 H2 hn2 kp2 R2 => ?_, fun z => ?_⟩
      · rw [h2] at hn2
        cases hn2
        refine ⟨_, rfl, _, rfl, rd, L, _, rfl, R2, fun t z v H3 ht kp3 R3 hv => ?_, fun k2 ht => ?_⟩
        · rw [h3] at ht
          cases ht
          obtain rfl : v = .int (t' : Nat) := hv
          intro px dxx n1 n2 n3'
          refine ⟨px, dxx, _, _, _, rfl, upd_same, fun H7 e7 k7 => ⟨rfl, ?_⟩⟩
          have s7 : Same H3 H7 := Same.made n1 n2 k7
          refine q i _ _ H7 e (kp1.trans ((Keep.new hp3 _).trans (kp2.trans (kp3.trans (Keep.same s7))))) (R3.same s7) ⟨px, rfl, dxx, ?_⟩
          rw [k1, k2, k3]
          exact e7
        · rw [h3] at ht
          cases ht
      · rw [h2] at z
        cases z
    | nNo r' m h0 h h2 e =>
      rw [h] at hpk
      cases hpk
      show if decide (nV n = nV "a") = true then _ else _
      rw [dV_false h0]
      obtain ⟨dx1, fs1, f1, f2⟩ := R1.at (m := "take") (by decide) (by decide)
      refine iteF ⟨_, rfl, rd, dx1, fs1, rfl, f1, f2, rd, L, r, aM, tMORE, rfl, R1, Names.mk' (tM.sq _) (by decide), fun n2 r2 H2 hp3 _ _ => ?_, fun _ => qe _ e⟩
      rw [h2] at hp3
      cases hp3
    | nTn r' q' m n' k' j ci o h0 h h2 h3 e u1 u2 u3 u4 =>
      rw [h] at hpk
      cases hpk
      show if decide (nV n = nV "a") = true then _ else _
      rw [dV_false h0]
      obtain ⟨dx1, fs1, f1, f2⟩ := R1.at (m := "take") (by decide) (by decide)
      refine iteF ⟨_, rfl, rd, dx1, fs1, rfl, f1, f2, rd, L, r, aM, tMORE, rfl, R1, Names.mk' (tM.sq _) (by decide), fun n2 r2 H2 hp3 kp2 R2 => ?_, fun z => ?_⟩
      · rw [h2] at hp3
        cases hp3
        refine ⟨.inr (.inl ⟨rfl, tM.ty⟩), _, rfl, aM, _, _, j, nV n', rfl, rfl, tM.sq _, rfl, flat_names _, by rw [List.getElem?_map, u1]; rfl, by show (nS n' == nS n') = true; simp, fun m' z' hm hz => ?_, a1, _, _, nV o, rfl, rfl, t1.sq _, atI_nat (by rw [List.getElem?_map, u3]; rfl), ?_⟩
        · rw [List.getElem?_map] at hz
          cases hm' : tMORE[m']? with
          | none => rw [hm'] at hz; cases hz
          | some y =>
            rw [hm'] at hz
            cases hz
            show (nS y == nS n') = false
            exact beq_eq_false_iff_ne.mpr fun z => u2 m' hm (by rw [hm', nS_inj z])
        · refine ⟨_, rfl, _, rfl, nS n, ci, rfl, rfl, by rw [sAt_names]; exact u4, _, rfl, rd, L, _, rfl, R2, fun t z v H3 ht kp3 R3 hv => ?_, fun k2 ht => ?_⟩
          · rw [h3] at ht
            cases ht
          · rw [h3] at ht
            cases ht
            exact qe _ e
      · rw [h2] at z
        cases z
    | nOk r' q' z' m n' t' j ci o i h0 h h2 h3 e u1 u2 u3 u4 k1 k2 k3 =>
      rw [h] at hpk
      cases hpk
      show if decide (nV n = nV "a") = true then _ else _
      rw [dV_false h0]
      obtain ⟨dx1, fs1, f1, f2⟩ := R1.at (m := "take") (by decide) (by decide)
      refine iteF ⟨_, rfl, rd, dx1, fs1, rfl, f1, f2, rd, L, r, aM, tMORE, rfl, R1, Names.mk' (tM.sq _) (by decide), fun n2 r2 H2 hp3 kp2 R2 => ?_, fun z => ?_⟩
      · rw [h2] at hp3
        cases hp3
        refine ⟨.inr (.inl ⟨rfl, tM.ty⟩), _, rfl, aM, _, _, j, nV n', rfl, rfl, tM.sq _, rfl, flat_names _, by rw [List.getElem?_map, u1]; rfl, by show (nS n' == nS n') = true; simp, fun m' z' hm hz => ?_, a1, _, _, nV o, rfl, rfl, t1.sq _, atI_nat (by rw [List.getElem?_map, u3]; rfl), ?_⟩
        · rw [List.getElem?_map] at hz
          cases hm' : tMORE[m']? with
          | none => rw [hm'] at hz; cases hz
          | some y =>
            rw [hm'] at hz
            cases hz
            show (nS y == nS n') = false
            exact beq_eq_false_iff_ne.mpr fun z => u2 m' hm (by rw [hm', nS_inj z])
        · refine ⟨_, rfl, _, rfl, nS n, ci, rfl, rfl, by rw [sAt_names]; exact u4, _, rfl, rd, L, _, rfl, R2, fun t z v H3 ht kp3 R3 hv => ?_, fun k2 ht => ?_⟩
          · rw [h3] at ht
            cases ht
            obtain rfl : v = .int (t' : Nat) := hv
            intro px dxx n1 n2 n3'
            refine ⟨px, dxx, _, _, _, rfl, upd_same, fun H7 e7 k7 => ⟨rfl, ?_⟩⟩
            have s7 : Same H3 H7 := Same.made n1 n2 k7
            refine q i _ _ H7 e (kp1.trans (kp2.trans (kp3.trans (Keep.same s7)))) (R3.same s7) ⟨px, rfl, dxx, ?_⟩
            rw [k1, k2, k3]
            exact e7
          · rw [h3] at ht
            cases ht
      · rw [h2] at z
        cases z
  · cases item_run l with
    | no h e => exact e
    | aNo r' h h2 e => rw [h] at z; cases z
    | aTn r' q' n' k' h h2 h3 e => rw [h] at z; cases z
    | aOk r' q' z' n' t' i h h2 h3 e k1 k2 k3 => rw [h] at z; cases z
    | nNo r' m h0 h h2 e => rw [h] at z; cases z
    | nTn r' q' m n' k' j ci o h0 h h2 h3 e u1 u2 u3 u4 => rw [h] at z; cases z
    | nOk r' q' z' m n' t' j ci o i h0 h h2 h3 e u1 u2 u3 u4 k1 k2 k3 => rw [h] at z; cases z

/-! ### arms -/
theorem scArmsR : FnScope ["reader", "depth", "field", "borne"] ["reader", "depth"] (defScope sArmsR) := ⟨rfl, rfl, rfl, by decide +kernel, rfl, by decide +kernel, by decide +kernel⟩
theorem comma_ok : nameOk "," = true ∧ ascii "," ≠ [] ∧ ascii "," = [44] := by decide
theorem paired_snoc {α β : Type} {r : α → β → Prop} : ∀ {xs : List α} {ys : List β} {x : α} {y : β}, Paired r xs ys → r x y → Paired r (xs ++ [x]) (ys ++ [y])
  | _, _, _, _, .nil, h => .cons h .nil
  | _, _, _, _, .cons a b, h => .cons a (paired_snoc b h)
theorem paired_len {α β : Type} {r : α → β → Prop} : ∀ {xs : List α} {ys : List β}, Paired r xs ys → xs.length = ys.length
  | _, _, .nil => rfl
  | _, _, .cons _ b => by simp [paired_len b]
theorem line2001 {n : Nat} (h : n ≤ 2001) : n < sizeLine := by rw [sizeLine_eq]; omega
theorem ok_armsR (S : Src K mg "read_arms" sArmsR ["reader", "depth"]) (T : RdC K c.reader) {k d : Nat} (hk : 6 ≤ k) (Dp : DPeek P w K mg base c.reader 1) (Dt : DTake P w K mg base c.reader CX 3)
    (Df : Def P w K mg base (CXE P w CX) k "read_field" ["reader", "depth"] (spP c.reader CX [.int (6 - (d : Nat))] (fieldW (subD d)) (relF c)))
    (Di : Def P w K mg base (CXE P w CX) 5 "read_item" ["reader"] (spP c.reader CX [] Sa57.item (relI c))) (DA : DArmsI P w K mg base c 1) (ok : c.Ok) : DArms P w K mg base c CX (k + 1) d := by
  refine S.def fun f fd F => F.okE scArmsR (fun vs H Q E h => ?_) fun cdv A outer s H vs Q E hr h => ?_
  · obtain ⟨rd, L, l, rfl, _⟩ := h
    rfl
  obtain ⟨rd, L, l, rfl, R, q, qe⟩ := h
  have hr1 : Room 1 _ := hr.mono (by omega)
  have hr3 : Room 3 _ := hr.mono (by omega)
  have hr5 : Room 5 _ := hr.mono (by omega)
  have hr2 : Room (1 + 1) _ := hr.mono (by omega)
  refine ⟨_, pss_cons (ps_set (i := 2) scArmsR.nd rfl (Or.inl rfl) (pe_callD Df hr rfl passE (pa_cons (pv 0) (pa_cons (pv 1) pa_nil))))
    (pss_cons (ps_set (i := 3) scArmsR.nd rfl (Or.inl rfl) (pe_lst pa_nil))
    (pss_cons (ps_while PassesOwn.leaving (pt_cmpR op_eq (pe_meth0D Dp (pv 0) T.cl hr1 pass0) pe_str (nomark _))
      (pss_cons (ps_expr (pe_methD Dt (pv 0) T.cl hr3 passE (pa_cons (pe_tup (pa_cons pe_str pa_nil)) pa_nil)))
      (pss_one (ps_expr (pe_bm PySem.F.plainAttrs_list PySem.F.slot_list_append PySem.F.type_list_append mt_append (pv 3) (pa_cons (pe_callD Di hr5 rfl passE (pa_cons (pv 0) pa_nil)) pa_nil))))))
    (pss_one (ps_ret (pe_makeD DA hr2 rfl pass0 (pa_cons (pv 2) (pa_cons (pv 3) pa_nil))))))), ?_⟩
  have eA : ∀ x r1, fieldW (subD d) l = .ok (x, r1) → armsD d l = (itemsD r1).map fun y => (.mk x y.1, y.2) := fun x r1 e => by
    unfold armsD armsW
    rw [e]
    rfl
  refine ⟨_, rfl, _, rfl, rd, L, l, rfl, R, fun x l1 v H1 hx kp1 R1 hv => ?_, fun k1 hx => qe k1 (by unfold armsD armsW; rw [hx]; rfl)⟩
  obtain ⟨pf, rfl, hF⟩ := hv
  refine ⟨by show 0 ≤ sizeLine; exact Nat.zero_le _, fun pb hpb => ?_⟩
  have eA := eA x l1 hx
  obtain ⟨_, _, _, _, _, _, _, hL⟩ := id R1
  have hs0 : ∀ l' : List Bytes, hdS l' = nS "," ↔ l'.head? = some [44] := fun l' => by
    have z := hdS_eq (n := ",") comma_ok.1 comma_ok.2.1 l'
    rw [comma_ok.2.2] at z
    exact z
  refine ⟨fun m σ H2 => ∃ (l' : List Bytes) (ps : List Addr) (its : List Sa57.Item), m = l'.length ∧ σ = [some (.ref rd), some (.int (6 - (d : Nat))), some (.ref pf), some (.ref pb)] ∧ RdAt c.reader H2 rd L l' ∧ H2 pb = some (.lst (ps.map V.ref)) ∧ Paired (ItemAt c H2) ps its ∧ Keep c.reader H1 H2 ∧
      its.length + l'.length ≤ L.length ∧ itemsD l1 = (itemsD l').map fun y => (its ++ y.1, y.2), ⟨_, l1, [], [], rfl, rfl, R1.new hpb _, upd_same, .nil, Keep.new hpb _, by simpa using R1.len, ?_⟩, ?_⟩
  · cases itemsD l1 <;> rfl
  rintro m σ H2 ⟨l', ps, its, rfl, rfl, R2, hb, hI, kp2, hlen, heq⟩
  obtain ⟨dx, fs, e1, e2⟩ := R2.at (m := "peek") (by decide) (by decide)
  refine ⟨_, rfl, rd, dx, fs, rfl, e1, e2, rd, L, l', rfl, R2, rfl, _, rfl, ?_⟩
  by_cases hc : l'.head? = some [44]
  · have d1 : decide (V.str (hdS l') = nV ",") = true := decide_eq_true (by rw [(hs0 l').mpr hc])
    show if decide (V.str (hdS l') = nV ",") = true then _ else _
    rw [d1]
    refine iteT ⟨_, fun _ _ z => z, ?_⟩
    obtain ⟨dx1, fs1, f1, f2⟩ := R2.at (m := "take") (by decide) (by decide)
    have hp1 := pick_head (s := ",") (l := l') (by rw [comma_ok.2.2]; exact hc)
    refine ⟨_, rfl, rd, dx1, fs1, rfl, f1, f2, by show 1 ≤ sizeLine; exact le1000 (by decide), fun p hp => ⟨rd, L, l', p, [","], rfl, R2.new hp _, Names.mk' (SqT.of upd_same) (by decide), fun n1 r1 H3 q1 kp3' R3 => ?_, fun z => by rw [hp1] at z; cases z⟩⟩
    rw [hp1] at q1
    cases q1
    have kp3 : Keep c.reader H2 H3 := (Keep.new hp _).trans kp3'
    have ei := itemsD_eq l'
    rw [if_pos hc] at ei
    refine ⟨_, rfl, .inl ⟨rfl, _, SqL.of (kp3.lst hb)⟩, _, rfl, rd, L, l'.drop 1, rfl, R3, fun i r2 v H4 hi kp4 R4 hv => ?_, fun k4 hi => qe k4 ?_⟩
    · obtain ⟨pi, rfl, hpi⟩ := hv
      have hb4 := kp4.lst (kp3.lst hb)
      have hl1 : r2.length < (l'.drop 1).length := shr_item _ _ _ hi
      rw [List.length_drop] at hl1
      refine ⟨pb, _, _, rfl, rfl, hb4, ?_, r2.length, by omega, r2, ps ++ [pi], its ++ [i], rfl, rfl, ?_, ?_, ?_, ?_, ?_, ?_⟩
      · rw [List.length_map, paired_len hI]
        exact line2001 (by omega)
      · obtain ⟨wl, dx4, k', g1, g2, rr⟩ := R4
        have n1 : rd ≠ pb := fun z => by rw [z, hb4] at g1; cases g1
        have n2 : wl ≠ pb := fun z => by
          rw [z, hb4] at g2
          have g3 : ps.map V.ref = L.map wV := by injection (Option.some.inj g2)
          cases L with
          | nil => rw [List.length_nil] at hlen; omega
          | cons w0 L => cases ps with
            | nil => cases g3
            | cons p0 ps => cases g3
        exact ⟨wl, dx4, k', by rw [upd_ne n1]; exact g1, by rw [upd_ne n2]; exact g2, rr⟩
      · rw [upd_same, List.map_append]
        rfl
      · refine paired_snoc (Paired.mapP (items_keep ok (kp3.trans kp4) hI) fun p' i' z => ?_) ?_
        · obtain ⟨dx', z⟩ := z
          exact ⟨dx', by rw [upd_ne (fun y => by rw [y, hb4] at z; cases z)]; exact z⟩
        · obtain ⟨dx', z⟩ := hpi
          exact ⟨dx', by rw [upd_ne (fun y => by rw [y, hb4] at z; cases z)]; exact z⟩
      · intro b o hb' n
        rw [upd_ne (ne_of_none hb' hpb)]
        exact ((kp2.trans kp3).trans kp4) b o hb' n
      · rw [List.length_append]
        simp only [List.length_cons, List.length_nil]
        omega
      · rw [heq, ei, hi]
        show Except.map _ ((itemsD r2).map _) = _
        cases itemsD r2 with
        | error _ => rfl
        | ok y => simp [Except.map]
    · rw [eA, heq, ei, hi]
      rfl
  · have d1 : decide (V.str (hdS l') = nV ",") = false := decide_eq_false fun z => hc ((hs0 l').mp (V.str.inj z))
    show if decide (V.str (hdS l') = nV ",") = true then _ else _
    rw [d1]
    have ei := itemsD_eq l'
    rw [if_neg hc] at ei
    refine iteF ⟨_, rfl, _, rfl, ?_⟩
    intro px dxx n1 n2 n3'
    refine ⟨px, dxx, _, _, rfl, upd_same, fun H7 e7 k7 => ⟨rfl, ?_⟩⟩
    have s7 : Same H2 H7 := Same.made n1 n2 k7
    refine q (.mk x its) l' _ H7 ?_ (kp1.trans (kp2.trans (Keep.same s7))) (R2.same s7) ⟨px, rfl, dxx, pf, pb, ps, e7, FieldAt.keep ok (kp2.trans (Keep.same s7)) x pf hF, s7 _ _ hb, items_keep ok (Keep.same s7) hI⟩
    rw [eA, heq, ei]
    simp [Except.map]
end
end A57

namespace A57
open PySem L2
open Sa57 (Bytes ascii Read)
def oneS (c : Nat) : Str := ⟨#[lc c]⟩
theorem joinL_nil : ∀ ps : List (List Nat), TL.joinL [] ps = ps.flatten
  | [] => rfl
  | [p] => by simp [TL.joinL]
  | p :: q :: r => by
    show p ++ ([] ++ TL.joinL [] (q :: r)) = _
    rw [joinL_nil (q :: r)]
    simp
theorem join_ones (cur : Bytes) : Txt.join (nS "") (cur.map oneS) = encS cur := by
  rw [TL.join_eq]
  refine TL.ext_tl ?_
  rw [TL.tl_join, tl_nS, tl_encS, show ascii "" = [] from rfl, joinL_nil, List.map_map]
  induction cur with
  | nil => rfl
  | cons c cur ih =>
    rw [List.map_cons, List.flatten_cons, ih]
    rfl
def LETS : String := "abcdefghijklmnopqrstuvwxyz"
theorem lets_at : ∀ i, i < 26 → (ascii LETS)[i]? = some (97 + i) := by decide
theorem lets_len : (ascii LETS).length = 26 := by decide
def spLetter : Sp := fun vs H Q _ => ∃ c : Nat, vs = [.int (c : Nat)] ∧ Sa57.own c = false ∧ Q (.str (oneS c)) H
section
variable {P : Program} {w : World} {K : PySem.W.Frag} {mg : Str → Option Value} {base : Heap} {CX : Addr} {c : Cs}
theorem scLetter : FnScope ["byte"] ["byte"] (defScope sLetter) := ⟨rfl, rfl, rfl, by decide +kernel, rfl, by decide +kernel, by decide +kernel⟩
theorem ok_letter (S : Src K mg "letter_of" sLetter ["byte"]) (gL : StrG mg "LETTERS" LETS) (gO : StrG mg "OTHER" "?") : Def P w K mg base CX0 1 "letter_of" ["byte"] spLetter := by
  refine S.def fun f fd F => F.ok scLetter (fun vs H Q E h => ?_) fun cdv A outer s H vs Q E hr h => ?_
  · obtain ⟨c, rfl, _⟩ := h
    rfl
  obtain ⟨c, rfl, ho, q⟩ := h
  obtain ⟨tL, mL⟩ := gL
  obtain ⟨tO, mO⟩ := gO
  refine ⟨_, pss_cons (ps_if (pt_chain op_le op_le pe_int (pv 0) pe_int) (pss_one (ps_ret (pe_ix ix_str (pe_gstr rfl mL) (pe_op op_sub (pv 0) pe_int) (fun _ _ => rfl)))) pss_nil)
    (pss_one (ps_ret (pe_gstr rfl mO))), ?_⟩
  have other : ¬ (97 ≤ c ∧ c ≤ 122) → Q (.str (nS "?")) H := fun hn => by
    have e : oneS c = nS "?" := TL.ext_tl (by
      rw [tl_nS]
      show [lc c] = [63]
      unfold lc
      rw [if_neg (by rw [ho]; simpa using hn)])
    rw [← e]
    exact q
  refine ⟨_, rfl, _, _, rfl, rfl, _, rfl, ?_⟩
  refine ite2 (fun a => ?_) fun a => ?_
  · have a' : (97 : Int) ≤ (c : Nat) := of_decide_eq_true a
    refine ⟨_, _, rfl, rfl, _, rfl, ite2 (fun b => ?_) fun b => ?_⟩
    · have b' : ((c : Nat) : Int) ≤ 122 := of_decide_eq_true b
      refine ⟨_, rfl, _, _, rfl, rfl, nS LETS, _, c, rfl, rfl, ?_, ?_, ?_⟩
      · rw [TL.len_tl, tl_nS, lets_len]
        exact le1000 (by decide)
      · have e : ((c : Nat) : Int) - 97 = ((c - 97 : Nat) : Int) := by omega
        show atI (TL.tl (nS LETS)) (((c : Nat) : Int) - 97) = some c
        rw [e, tl_nS]
        refine atI_nat ?_
        rw [lets_at _ (by omega)]
        congr 1
        omega
      · have e : oneS c = ⟨#[c]⟩ := by
          unfold oneS lc
          rw [if_pos (.inl ⟨by omega, by omega⟩)]
        rw [e] at q
        exact q
    · have b' : ¬ ((c : Nat) : Int) ≤ 122 := of_decide_eq_false (Bool.eq_false_iff.mpr b)
      exact other (by omega)
  · have a' : ¬ (97 : Int) ≤ (c : Nat) := of_decide_eq_false (Bool.eq_false_iff.mpr a)
    exact ⟨_, rfl, iteF (other (by omega))⟩

/-! ### all words of a text -/
def tSIGNS : List (Int × PyData) := [(40, .str (nS "(")), (41, .str (nS ")")), (44, .str (nS ","))]
theorem sign_some (c : Nat) : (PyProof.Rows.KTD.datumAt (c : Int) tSIGNS).isSome = Sa57.own c := by
  by_cases h1 : c = 40
  · subst h1; rfl
  · by_cases h2 : c = 41
    · subst h2; rfl
    · by_cases h3 : c = 44
      · subst h3; rfl
      · have e1 : ¬ ((c : Int) = 40) := by omega
        have e2 : ¬ ((c : Int) = 41) := by omega
        have e3 : ¬ ((c : Int) = 44) := by omega
        simp [PyProof.Rows.KTD.datumAt, tSIGNS, Sa57.own, e1, e2, e3, h1, h2, h3]
theorem sign_at {c : Nat} (h : Sa57.own c = true) : PyProof.Rows.KTD.datumAt (c : Int) tSIGNS = some (.str (encS [c])) := by
  have : c = 40 ∨ c = 41 ∨ c = 44 := by simpa [Sa57.own] using h
  rcases this with rfl | rfl | rfl
  · rfl
  · rfl
  · rfl
def bV (b : Bytes) : List V := b.map fun c => V.int (c : Nat)
theorem blank_in (c : Nat) : inV (.int (c : Nat)) [.int 10, .int 32] = Sa57.blank c := by
  show ((10 : Int) == (c : Nat) || ((32 : Int) == (c : Nat) || false)) = (c == 32 || c == 10)
  rw [Bool.eq_iff_iff]
  simp only [Bool.or_eq_true, beq_iff_eq, Bool.or_false]
  omega
def spSplit (K : PySem.W.Frag) (g : List Bytes → List Bytes) : Sp := fun vs H Q _ => ∃ tx b, vs = [.ref tx] ∧ SqL K H tx (bV b) ∧ b.length ≤ 65536 ∧ ∀ p H', Same H H' → H' p = some (.lst ((g (Sa57.words b)).map wV)) → H p = none → Q (.ref p) H'
theorem same_none {H H' : Hp} (s : Same H H') {p : Addr} (h : H' p = .none) : H p = .none := by
  cases e : H p with
  | none => rfl
  | some o => rw [s p o e] at h; cases h
theorem same_trans {H H1 H2 : Hp} (a : Same H H1) (b : Same H1 H2) : Same H H2 := fun p o h => b p o (a p o h)
theorem same_new {H H1 : Hp} (a : Same H H1) {p : Addr} (h : H p = .none) (o : HO) : Same H (upd H1 p o) := fun b u e => by rw [upd_ne (ne_of_none e h)]; exact a b u e
theorem same_sql {K : PySem.W.Frag} {H H' : Hp} (s : Same H H') {p : Addr} {xs : List V} (h : SqL K H p xs) : SqL K H' p xs := (Keep.same (CR := 0) s).sql h
structure IntsG (K : PySem.W.Frag) (mg : Str → Option Value) (x : Str) (ns : List Int) : Prop where
  ex : ∃ a, mg x = some (.ref a) ∧ TupK K a (ns.map V.int)
structure ITabG (K : PySem.W.Frag) (mg : Str → Option Value) (x : Str) (D : List (Int × PyData)) : Prop where
  ex : ∃ a, mg x = some (.ref a) ∧ PyProof.Rows.KTD.keyedLook (fun b => K.lookup b) a D = true
theorem scSplit : FnScope ["text", "words", "letters", "byte"] ["text"] (defScope sSplit) := ⟨rfl, rfl, rfl, by decide +kernel, rfl, by decide +kernel, by decide +kernel⟩
theorem line20 {n : Nat} (h : n ≤ 200000) : n < sizeLine := by rw [sizeLine_eq]; omega
theorem ones_sum (cur : Bytes) : ((cur.map oneS).map (·.length)).sum + (cur.map oneS).length * (nS "").length = cur.length := by
  have e : (nS "").length = 0 := by rw [TL.len_tl, tl_nS]; rfl
  rw [e, Nat.mul_zero, Nat.add_zero, List.map_map]
  induction cur with
  | nil => rfl
  | cons c cur ih =>
    rw [List.map_cons, List.sum_cons, ih, List.length_cons]
    show 1 + cur.length = _
    omega
theorem ok_split (S : Src K mg "split_words" sSplit ["text"]) (Dl : Def P w K mg base CX0 1 "letter_of" ["byte"] spLetter) (GB : IntsG K mg "BLANKS" [10, 32]) (GS : ITabG K mg "SIGNS" tSIGNS) : Def P w K mg base CX0 2 "split_words" ["text"] (spSplit K id) := by
  refine S.def fun f fd F => F.ok scSplit (fun vs H Q E h => ?_) fun cdv A outer s H vs Q E hr h => ?_
  · obtain ⟨tx, b, rfl, _⟩ := h
    rfl
  obtain ⟨tx, b, rfl, hs, hb, q⟩ := h
  obtain ⟨aB, mB, tB⟩ := GB.ex
  obtain ⟨aS, mS, eS⟩ := GS.ex
  refine ⟨_, pss_cons (ps_set (i := 1) scSplit.nd rfl (Or.inl rfl) (pe_lst pa_nil))
    (pss_cons (ps_set (i := 2) scSplit.nd rfl (Or.inl rfl) (pe_lst pa_nil))
    (pss_cons (ps_for PassesOwn.never rfl (pi_list (pv 0)) (pg_name (i := 3) scSplit.nd rfl (Or.inl rfl))
      (pss_cons (ps_if (PW.pt (pw_and (pt_cmpR op_notIn_seq (pv 3) (pe_gref rfl mB) (by with_unfolding_all rfl)) (pw_and1 (pt_cmpR (op_notIn_itab eS) (pv 3) (pe_gref rfl mS) (by with_unfolding_all rfl)))))
        (pss_cons (ps_expr (pe_bm PySem.F.plainAttrs_list PySem.F.slot_list_append PySem.F.type_list_append mt_append (pv 2) (pa_cons (pe_callD Dl hr rfl pass0 (pa_cons (pv 3) pa_nil)) pa_nil))) (pss_one ps_continue)) pss_nil)
      (pss_cons (ps_if (pt_truth (pv 2) (fun _ => rfl))
        (pss_cons (ps_expr (pe_bm PySem.F.plainAttrs_list PySem.F.slot_list_append PySem.F.type_list_append mt_append (pv 1) (pa_cons (pe_join pe_str (pv 2)) pa_nil))) (pss_one (ps_set (i := 2) scSplit.nd rfl (Or.inl rfl) (pe_lst pa_nil)))) pss_nil)
      (PSs.to (t' := fun D σ H2 => ∃ (pw pl : Addr) (done : List Bytes) (c : Nat), σ = [some (.ref tx), some (.ref pw), some (.ref pl), some (.int (c : Nat))] ∧ H2 pw = some (.lst (done.map wV)) ∧ done.length ≤ 200000 ∧
            (Sa57.own c = true → D.nx σ (upd H2 pw (.lst ((done ++ [[c]]).map wV)))) ∧ (Sa57.own c = false → D.nx σ H2))
        (pss_one (ps_if (pt_cmpR (op_in_itab eS) (pv 3) (pe_gref rfl mS) (by with_unfolding_all rfl))
        (pss_one (ps_expr (pe_bm PySem.F.plainAttrs_list PySem.F.slot_list_append PySem.F.type_list_append mt_append (pv 1) (pa_cons (pe_itab eS (pe_gref rfl mS) (pv 3) (fun _ _ => rfl)) pa_nil)))) pss_nil)) ?tail))))
    (pss_cons (ps_if (pt_truth (pv 2) (fun _ => rfl))
        (pss_one (ps_expr (pe_bm PySem.F.plainAttrs_list PySem.F.slot_list_append PySem.F.type_list_append mt_append (pv 1) (pa_cons (pe_join pe_str (pv 2)) pa_nil)))) pss_nil)
    (pss_one (ps_ret (pv 1)))))), ?_⟩
  case tail =>
    rintro D σ H2 ⟨pw, pl, done, c, rfl, hpw, hdl, h1, h2⟩
    refine ⟨_, rfl, _, rfl, rfl, _, rfl, ?_⟩
    rw [sign_some]
    cases ho : Sa57.own c with
    | false => exact iteF (h2 ho)
    | true =>
      refine iteT ⟨_, rfl, .inl ⟨rfl, _, SqL.of hpw⟩, _, rfl, _, _, rfl, rfl, sign_at ho, pw, _, _, rfl, rfl, hpw, ?_, ?_⟩
      · rw [List.length_map]
        exact line20 hdl
      · have := h1 ho
        rw [List.map_append] at this
        exact this
  refine ⟨by show 0 ≤ sizeLine; exact Nat.zero_le _, fun pw hpw => ⟨by show 0 ≤ sizeLine; exact Nat.zero_le _, fun pl hpl => ?_⟩⟩
  have npl : pl ≠ pw := fun z => by rw [z, upd_same] at hpl; cases hpl
  have hpl0 : H pl = .none := by rw [upd_ne npl] at hpl; exact hpl
  have hl0 : (bV b).length = b.length := List.length_map _
  have wl : (Sa57.words b).length ≤ 200000 := by
    have := words_le b []
    simp only [if_true] at this
    show (Sa57.wordsFrom b []).length ≤ _
    omega
  refine ⟨_, rfl, tx, rfl, ⟨_, same_sql (same_new (same_new (fun _ _ z => z) hpw _) hpl0 _) hs⟩, ?_⟩
  refine for_list (xs := bV b) (fun i σ H2 => ∃ (pl : Addr) (done : List Bytes) (cur : Bytes) (v3 : Option V), σ = [some (.ref tx), some (.ref pw), some (.ref pl), v3] ∧ H pl = .none ∧ pl ≠ pw ∧ Same H H2 ∧ H2 pw = some (.lst (done.map wV)) ∧ H2 pl = some (.lst (cur.map fun c => V.str (oneS c))) ∧
    Begun (Sa57.words b) done (b.drop i) cur ∧ cur.length ≤ i) ?_ ?_ ?_ ?_
  · refine ⟨pl, [], [], _, rfl, hpl0, npl, same_new (same_new (fun _ _ z => z) hpw _) hpl0 _, ?_, upd_same, ⟨by simp [Sa57.words], fun x hx => by cases hx⟩, Nat.le_refl _⟩
    rw [upd_ne (Ne.symm npl), upd_same]
    rfl
  · rintro i σ H2 hi ⟨pl, done, cur, v3, rfl, _, _, s2, _⟩
    exact same_sql s2 hs
  · rintro i x σ H2 hx ⟨pl, done, cur, v3, rfl, hpl0, npl, s2, h1, h2, B, hcur⟩
    have hi : i < b.length := by
      have := (List.getElem?_eq_some_iff.mp hx).1
      rwa [hl0] at this
    have hx' : x = .int ((b[i] : Nat) : Int) := by
      unfold bV at hx
      rw [List.getElem?_map, List.getElem?_eq_getElem hi] at hx
      exact (Option.some.inj hx).symm
    subst hx'
    have hdrop := List.drop_eq_getElem_cons hi
    generalize hc : b[i] = c at *
    rw [hdrop] at B
    have hdone : done.length ≤ 200000 := by
      have := congrArg List.length B.eq
      rw [List.length_append] at this
      omega
    have hdone1 : ∀ u : List Bytes, (∃ r, Sa57.words b = u ++ r) → u.length ≤ 200000 := fun u ⟨r, e⟩ => by
      have := congrArg List.length e
      rw [List.length_append] at this
      omega
    refine ⟨_, rfl, aB, _, rfl, .inr (tB.sq _), rfl, by decide, _, rfl, ?_⟩
    show if (!inV (V.int ((c : Nat) : Int)) [.int 10, .int 32]) = true then _ else _
    rw [blank_in]
    cases hbl : Sa57.blank c with
    | false =>
      refine iteT ⟨_, rfl, _, rfl, rfl, _, rfl, ?_⟩
      rw [sign_some]
      cases ho : Sa57.own c with
      | false =>
        refine iteT ⟨_, rfl, .inl ⟨rfl, _, SqL.of h2⟩, _, rfl, c, rfl, ho, pl, _, _, rfl, rfl, h2, ?_, ?_⟩
        · rw [List.length_map]
          exact line20 (by omega)
        · refine ⟨pl, done, cur ++ [c], _, rfl, hpl0, npl, same_new s2 hpl0 _, ?_, ?_, B.letter hbl ho, by simp; omega⟩
          · rw [upd_ne (Ne.symm npl)]
            exact h1
          · rw [upd_same, List.map_append]
            rfl
      | true =>
        refine iteF ⟨_, rfl, !cur.isEmpty, .inl ⟨_, SqL.of h2, by cases cur <;> rfl⟩, ?_⟩
        have B' := B.sign hbl ho
        cases hcu : cur with
        | nil =>
          rw [hcu] at h2 B'
          refine iteF ⟨pw, pl, done, c, rfl, h1, hdone, fun _ => ?_, fun z => by rw [ho] at z; cases z⟩
          refine ⟨pl, done ++ [[c]], [], _, rfl, hpl0, npl, same_new s2 hpw _, upd_same, ?_, by simpa using B', Nat.zero_le _⟩
          rw [upd_ne npl]
          exact h2
        | cons c0 cur0 =>
          have hcn : cur ≠ [] := by rw [hcu]; exact List.cons_ne_nil _ _
          rw [if_neg hcn] at B'
          have e0 : (!cur.isEmpty) = true := by rw [hcu]; rfl
          refine iteT ⟨_, rfl, .inl ⟨rfl, _, SqL.of h1⟩, ⟨_, rfl⟩, _, rfl, _, pl, cur.map oneS, rfl, rfl, .inl (by rw [List.map_map]; exact SqL.of h2), by rw [show Str.ofString "" = nS "" from rfl, ones_sum]; omega, pw, _, _, rfl, rfl, h1, ?_, ?_⟩
          · rw [List.length_map]
            exact line20 hdone
          · refine ⟨by show 0 ≤ sizeLine; exact Nat.zero_le _, fun p3 hp3 => ?_⟩
            have n3 : p3 ≠ pw := fun z => by rw [z, upd_same] at hp3; cases hp3
            have hp3' : H2 p3 = .none := by rw [upd_ne n3] at hp3; exact hp3
            have hp30 : H p3 = .none := same_none s2 hp3'
            have eW : (done.map wV ++ [V.str (Txt.join (nS "") (cur.map oneS))]) = (done ++ [cur]).map wV := by rw [join_ones, List.map_append]; rfl
            refine ⟨pw, p3, done ++ [cur], c, rfl, ?_, hdone1 _ ⟨_, by rw [B'.eq, List.append_assoc]⟩, fun _ => ?_, fun z => by rw [ho] at z; cases z⟩
            · rw [upd_ne (Ne.symm n3), upd_same]
              exact congrArg (fun z => some (HO.lst z)) eW
            · refine ⟨p3, done ++ [cur] ++ [[c]], [], _, rfl, hp30, n3, same_new (same_new (same_new s2 hpw _) hp30 _) hpw _, upd_same, ?_, B', Nat.zero_le _⟩
              rw [upd_ne n3, upd_same]
              rfl
    | true =>
      refine iteF (iteF ⟨_, rfl, !cur.isEmpty, .inl ⟨_, SqL.of h2, by cases cur <;> rfl⟩, ?_⟩)
      have ho : Sa57.own c = false := by
        have : c = 32 ∨ c = 10 := by simpa [Sa57.blank] using hbl
        rcases this with rfl | rfl <;> rfl
      have B' := B.blank hbl
      cases hcu : cur with
      | nil =>
        rw [hcu] at h2 B'
        refine iteF ⟨pw, pl, done, c, rfl, h1, hdone, fun z => (by rw [ho] at z; cases z), fun _ => ?_⟩
        exact ⟨pl, done, [], _, rfl, hpl0, npl, s2, h1, h2, by simpa using B', Nat.zero_le _⟩
      | cons c0 cur0 =>
        have hcn : cur ≠ [] := by rw [hcu]; exact List.cons_ne_nil _ _
        rw [if_neg hcn] at B'
        have e0 : (!cur.isEmpty) = true := by rw [hcu]; rfl
        refine iteT ⟨_, rfl, .inl ⟨rfl, _, SqL.of h1⟩, ⟨_, rfl⟩, _, rfl, _, pl, cur.map oneS, rfl, rfl, .inl (by rw [List.map_map]; exact SqL.of h2), by rw [show Str.ofString "" = nS "" from rfl, ones_sum]; omega, pw, _, _, rfl, rfl, h1, ?_, ?_⟩
        · rw [List.length_map]
          exact line20 hdone
        · refine ⟨by show 0 ≤ sizeLine; exact Nat.zero_le _, fun p3 hp3 => ?_⟩
          have n3 : p3 ≠ pw := fun z => by rw [z, upd_same] at hp3; cases hp3
          have hp3' : H2 p3 = .none := by rw [upd_ne n3] at hp3; exact hp3
          have hp30 : H p3 = .none := same_none s2 hp3'
          have eW : (done.map wV ++ [V.str (Txt.join (nS "") (cur.map oneS))]) = (done ++ [cur]).map wV := by rw [join_ones, List.map_append]; rfl
          have hw3 : upd (upd H2 pw (.lst (done.map wV ++ [V.str (Txt.join (nS "") (cur.map oneS))]))) p3 (.lst []) pw = some (.lst ((done ++ [cur]).map wV)) := by
            rw [upd_ne (Ne.symm n3), upd_same]
            exact congrArg (fun z => some (HO.lst z)) eW
          refine ⟨pw, p3, done ++ [cur], c, rfl, hw3, hdone1 _ ⟨_, B'.eq⟩, fun z => (by rw [ho] at z; cases z), fun _ => ?_⟩
          refine ⟨p3, done ++ [cur], [], _, rfl, hp30, n3, same_new (same_new s2 hpw _) hp30 _, hw3, ?_, B', Nat.zero_le _⟩
          rw [upd_same]
          rfl
  · rintro σ H2 ⟨pl, done, cur, v3, rfl, hpl0, npl, s2, h1, h2, B, hcur⟩
    rw [hl0, List.drop_length] at B
    have hf := B.fin
    refine ⟨_, rfl, !cur.isEmpty, .inl ⟨_, SqL.of h2, by cases cur <;> rfl⟩, ?_⟩
    cases hcu : cur with
    | nil =>
      rw [hcu, if_pos rfl, List.append_nil] at hf
      refine iteF ⟨_, rfl, q pw H2 s2 ?_ hpw⟩
      show H2 pw = some (.lst ((Sa57.words b).map wV))
      rw [hf]
      exact h1
    | cons c0 cur0 =>
      have hcn : cur ≠ [] := by rw [hcu]; exact List.cons_ne_nil _ _
      rw [if_neg hcn] at hf
      have e0 : (!cur.isEmpty) = true := by rw [hcu]; rfl
      have hdone : done.length ≤ 200000 := by
        have := congrArg List.length hf
        rw [List.length_append] at this
        omega
      rw [hl0] at hcur
      refine iteT ⟨_, rfl, .inl ⟨rfl, _, SqL.of h1⟩, ⟨_, rfl⟩, _, rfl, _, pl, cur.map oneS, rfl, rfl, .inl (by rw [List.map_map]; exact SqL.of h2), by rw [show Str.ofString "" = nS "" from rfl, ones_sum]; omega, pw, _, _, rfl, rfl, h1, ?_, ?_⟩
      · rw [List.length_map]
        exact line20 hdone
      · refine ⟨_, rfl, q pw _ (same_new s2 hpw _) ?_ hpw⟩
        rw [upd_same]
        show some (HO.lst (done.map wV ++ [V.str (Txt.join (nS "") (cur.map oneS))])) = some (.lst ((Sa57.words b).map wV))
        rw [hf, join_ones, List.map_append]
        rfl

/-! ### no more than 2000 -/
theorem scWords : FnScope ["text", "words"] ["text"] (defScope sWords) := ⟨rfl, rfl, rfl, by decide +kernel, rfl, by decide +kernel, by decide +kernel⟩
theorem cut2000 (xs : List V) (h : 2000 < xs.length) : cutV xs none (some 2000) = xs.take 2000 := by
  unfold cutV
  have e : HT.sIx xs.length xs.length (some (2000 : Int)) = 2000 := by
    rw [show (2000 : Int) = ((2000 : Nat) : Int) from rfl, HT.sIx_nat]
    omega
  rw [e]
  rfl
theorem ok_words (S : Src K mg "words_of" sWords ["text"]) (Ds : Def P w K mg base CX0 2 "split_words" ["text"] (spSplit K id)) (gM : IntG mg "MOST_WORDS" 2000) (gO : StrG mg "OTHER" "?") (ml : mg "len" = none) : Def P w K mg base CX0 3 "words_of" ["text"] (spSplit K seen) := by
  refine S.def fun f fd F => F.ok scWords (fun vs H Q E h => ?_) fun cdv A outer s H vs Q E hr h => ?_
  · obtain ⟨tx, b, rfl, _⟩ := h
    rfl
  obtain ⟨tx, b, rfl, hs, hb, q⟩ := h
  obtain ⟨tM, mM⟩ := gM
  obtain ⟨tO, mO⟩ := gO
  refine ⟨_, pss_cons (ps_set (i := 1) scWords.nd rfl (Or.inl rfl) (pe_callD Ds hr rfl pass0 (pa_cons (pv 0) pa_nil)))
    (pss_cons (ps_if (pt_cmpR op_gt (pe_callB call_len_seq rfl ml PySem.boot_len (pa_cons (pv 1) pa_nil)) (pe_gint rfl mM) (nomark _))
      (pss_one (ps_ret (pe_op op_cat (pe_slice sl_list (pv 1) po_none (po_some (pe_gint rfl mM))) (pe_lst (pa_cons (pe_gstr rfl mO) pa_nil))))) pss_nil)
    (pss_one (ps_ret (pv 1)))), ?_⟩
  refine ⟨_, rfl, tx, b, rfl, hs, hb, fun p H1 s1 h1 n1 => ?_⟩
  refine ⟨_, rfl, p, _, rfl, .inl (SqL.of h1), _, _, rfl, rfl, _, rfl, ?_⟩
  have hl : ((id (Sa57.words b)).map wV).length = (Sa57.words b).length := List.length_map _
  have wl : (Sa57.words b).length ≤ 200000 := by
    have := words_le b []
    simp only [if_true] at this
    show (Sa57.wordsFrom b []).length ≤ _
    omega
  refine ite2 (fun a => ?_) fun a => ?_
  · have a' : (2000 : Int) < (((id (Sa57.words b)).map wV).length : Nat) := of_decide_eq_true a
    rw [hl] at a'
    have a2 : 2000 < (Sa57.words b).length := by omega
    refine ⟨_, rfl, _, rfl, p, _, rfl, SqL.of h1, fun p2 hp2 => ⟨by show 1 ≤ sizeLine; exact le1000 (by decide), fun p3 hp3 => ?_⟩⟩
    rw [cut2000 _ (by rw [hl]; exact a2)] at *
    have n3 : p3 ≠ p2 := fun z => by rw [z, upd_same] at hp3; cases hp3
    refine ⟨p2, p3, _, _, rfl, rfl, by rw [upd_ne (Ne.symm n3)]; exact upd_same, upd_same, ?_, fun p4 hp4 => ?_⟩
    · rw [List.length_take, hl]
      show min 2000 _ + 1 ≤ sizeLine
      exact Nat.le_of_lt (line20 (by omega))
    · have s4 : Same H (upd (upd (upd H1 p2 (.lst (((id (Sa57.words b)).map wV).take 2000))) p3 (.lst [nV "?"])) p4 (.lst (((id (Sa57.words b)).map wV).take 2000 ++ [nV "?"]))) :=
        same_trans s1 (same_trans (Same.new hp2 _) (same_trans (Same.new hp3 _) (Same.new hp4 _)))
      refine q p4 _ s4 ?_ (same_none s1 (same_none (Same.new hp2 _) (same_none (Same.new hp3 _) hp4)))
      rw [upd_same]
      show some (HO.lst _) = some (.lst ((seen (Sa57.words b)).map wV))
      unfold seen
      rw [if_pos a2, List.map_append, List.map_take]
      have e : wV bad = nV "?" := by
        show V.str (encS bad) = V.str (nS "?")
        rw [show encS bad = nS "?" from TL.ext_tl (by rw [tl_encS, tl_nS]; rfl)]
      show _ = some (HO.lst (((Sa57.words b).map wV).take 2000 ++ [wV bad]))
      rw [e]
      rfl
  · have a' : ¬ (2000 : Int) < (((id (Sa57.words b)).map wV).length : Nat) := of_decide_eq_false (Bool.eq_false_iff.mpr a)
    rw [hl] at a'
    refine ⟨_, rfl, q p H1 s1 ?_ n1⟩
    unfold seen
    rw [if_neg (by omega)]
    exact h1
end
end A57

namespace A57
open PySem L2
open Sa57 (Bytes ascii Read)
section
variable {P : Program} {w : World} {K : PySem.W.Frag} {mg : Str → Option Value} {base : Heap} {CX : Addr} {c : Cs}
/-- what reading arms leans on -/
structure RF (P : Program) (w : World) (K : PySem.W.Frag) (mg : Str → Option Value) (base : Heap) (c : Cs) (CX : Addr) : Prop where
  T : RdC K c.reader
  ok : c.Ok
  Dp : DPeek P w K mg base c.reader 1
  Dt : DTake P w K mg base c.reader CX 3
  Dn : DTinct P w K mg base c.reader CX 4
  Dm : DName P w K mg base c.reader CX 4
  DF : DFieldI P w K mg base c 1
  DA : DArmsI P w K mg base c 1
  Dv : Def P w K mg base (CXE P w CX) 5 "read_varied" ["reader"] (spP c.reader CX [] variedW (relF c))
  Di : Def P w K mg base (CXE P w CX) 5 "read_item" ["reader"] (spP c.reader CX [] Sa57.item (relI c))
  sH : Src K mg "read_half" sHalf ["reader", "depth"]
  sP : Src K mg "read_parted" sParted ["reader", "depth"]
  sF : Src K mg "read_field" sFieldR ["reader", "depth"]
  sA : Src K mg "read_arms" sArmsR ["reader", "depth"]
  gM : IntG mg "MOST_DEEP" 6
  GP : TupG K mg "PARTINGS" tPART
  GV : TupG K mg "VARIATIONS" tVAR
  gP : StrG mg "PLAIN" "plain"
theorem ok_deep (F : RF P w K mg base c CX) {k d : Nat} (hk : 4 ≤ k) (Dh : DHalf P w K mg base c CX (k + 1) d) : DArms P w K mg base c CX (k + 4) d :=
  ok_armsR F.sA F.T (k := k + 3) (by omega) F.Dp F.Dt (ok_fieldR F.sF F.T (k := k + 2) (by omega) F.Dp (ok_parted F.sP F.T (k := k + 1) (by omega) F.Dt F.Dm Dh F.DF F.GP F.ok) F.Dv F.Dn F.DF F.GV F.gP) F.Di F.DA F.ok
theorem ok_arms (F : RF P w K mg base c CX) : ∀ d, d ≤ 5 → DArms P w K mg base c CX (8 + 4 * d) d
  | 0, _ => ok_deep F (k := 4) (by decide) (ok_half0 F.sH F.T (k := 4) (by decide) F.Dp F.Dn F.gM)
  | d + 1, h => ok_deep F (k := 8 + 4 * d) (by omega) (ok_half1 F.sH F.T (k := 8 + 4 * d) (by omega) (by omega) F.Dp F.Dt F.Dn F.gM F.ok (ok_arms F d (by omega)))

/-! ### a whole text -/
theorem seen_len (l : List Bytes) : (seen l).length ≤ 2001 := by
  unfold seen
  by_cases h : 2000 < l.length
  · rw [if_pos h, List.length_append, List.length_take]
    simp only [List.length_cons, List.length_nil]
    omega
  · rw [if_neg h]
    omega
def spReadW (c : Cs) (CX : Addr) : Sp := fun vs H Q E => ∃ wl L, vs = [.ref wl] ∧ H wl = some (.lst (L.map wV)) ∧ L.length ≤ 2001 ∧
  (∀ a p H', outcome L = .inl a → ArmsAt c H' p a → H' wl = some (.lst (L.map wV)) → Q (.ref p) H') ∧ (∀ k d H', outcome L = .inr k → H' d = some (xp k) → E (.ref CX) (some d) H')
theorem scReadW : FnScope ["words", "reader", "arms"] ["words"] (defScope sReadW) := ⟨rfl, rfl, rfl, by decide +kernel, rfl, by decide +kernel, by decide +kernel⟩
abbrev DReadW (P : Program) (w : World) (K : PySem.W.Frag) (mg : Str → Option Value) (base : Heap) (c : Cs) (CX : Addr) : Prop := Def P w K mg base (CXE P w CX) 29 "read_words" ["words"] (spReadW c CX)
abbrev DWords (P : Program) (w : World) (K : PySem.W.Frag) (mg : Str → Option Value) (base : Heap) : Prop := Def P w K mg base CX0 3 "words_of" ["text"] (spSplit K seen)
theorem ok_readW {N fX : Addr} {fdX : FuncData} (S : Src K mg "read_words" sReadW ["words"]) (F : RF P w K mg base c CX)
    (DR : DefI P w K mg base CX0 1 "Reader" c.reader ["self", "words"] (spReader c.reader)) (xc : XCls K CX N fX) (FX : FnOk P w K mg base CX0 1 fX fdX ["self", "place"] (spXInit CX "place")) (bX : Binds K fdX ["self", "place"] []) (mX : mg "CannotStand" = some (.ref CX)) (ml : mg "len" = none) :
    DReadW P w K mg base c CX := by
  have Da := ok_arms F 5 (by decide)
  refine S.def fun f fd F' => F'.okE scReadW (fun vs H Q E h => ?_) fun cdv A outer s H vs Q E hr h => ?_
  · obtain ⟨wl, L, rfl, _⟩ := h
    rfl
  obtain ⟨p, L, rfl, hw, hL1, q, qe⟩ := h
  have T := F.T
  have hr2 : Room (1 + 1) _ := hr.mono (by decide)
  refine ⟨_, pss_cons (ps_set (i := 1) scReadW.nd rfl (Or.inl rfl) (pe_makeD DR hr2 rfl pass0 (pa_cons (pv 0) pa_nil)))
    (pss_cons (ps_set (i := 2) scReadW.nd rfl (Or.inl rfl) (pe_callD Da hr rfl passE (pa_cons (pv 1) (pa_cons pe_int pa_nil))))
    (pss_cons (ps_if (pt_cmpR op_lt (pe_fld (pv 1) rfl) (pe_callB call_len_seq rfl ml PySem.boot_len (pa_cons (pv 0) pa_nil)) (nomark _)) (pss_one (ps_raiseC xc FX hr2 bX rfl mX (pe_fld (pv 1) rfl))) pss_nil)
    (pss_one (ps_ret (pv 2))))), ?_⟩
  refine ⟨_, rfl, ?_⟩
  intro px dxx m1 m2 m3
  refine ⟨px, dxx, p, rfl, upd_same, fun H2 e2 k2 => ⟨rfl, ?_⟩⟩
  have s2 : Same H H2 := Same.made m1 m2 k2
  have R : RdAt c.reader H2 px L L := ⟨p, dxx, 0, e2, s2 _ _ hw, List.drop_zero.symm, Nat.zero_le _, hL1⟩
  refine ⟨_, rfl, px, L, L, rfl, R, fun a r v H3 ha kp R3 hv => ?_, fun k ha d H' hd => qe (L.length - k) d H' (by unfold outcome; rw [ha]) hd⟩
  obtain ⟨pa, rfl, hA⟩ := hv
  have hp3 : H3 p = some (.lst (L.map wV)) := kp.lst (s2 _ _ hw)
  obtain ⟨wl, dx, k, h1, h2, h3, h4, h5⟩ := R3
  refine ⟨_, rfl, px, c.reader, dx, _, _, rfl, h1, T.cl, T.np, rd_place _ _, _, rfl, p, _, rfl, .inl (SqL.of hp3), _, _, rfl, rfl, _, rfl, ?_⟩
  have hl : (L.map wV).length = L.length := List.length_map _
  have hrl : r.length = L.length - k := by rw [h3, List.length_drop]
  refine ite2 (fun z => ?_) fun z => ?_
  · have z' : ((k : Nat) : Int) < ((L.map wV).length : Nat) := of_decide_eq_true z
    rw [hl] at z'
    refine ⟨_, rfl, px, c.reader, dx, _, _, rfl, h1, T.cl, T.np, rd_place _ _, fun d hd => qe k d _ ?_ upd_same⟩
    unfold outcome
    rw [ha]
    have hne : r ≠ [] := fun y => by rw [y] at hrl; simp at hrl; omega
    show (if r = [] then _ else _) = _
    rw [if_neg hne, hrl]
    congr 1
    omega
  · have z' : ¬ ((k : Nat) : Int) < ((L.map wV).length : Nat) := of_decide_eq_false (Bool.eq_false_iff.mpr z)
    rw [hl] at z'
    refine ⟨_, rfl, q a pa H3 ?_ hA hp3⟩
    unfold outcome
    rw [ha]
    have hne : r = [] := List.eq_nil_of_length_eq_zero (by omega)
    show (if r = [] then _ else _) = _
    rw [if_pos hne]
end
end A57

namespace A57
open PySem L2
open Sa57 (Bytes ascii Read)
/-- what is asked of the classes of parts -/
structure PC3 (K : PySem.W.Frag) (c : Cs) : Prop where
  ac : Cls K c.arms
  af : NoAttr K c.arms "field"
  ab : NoAttr K c.arms "borne"
  fc : Cls K c.field
  fk : NoAttr K c.field "kind"
  fh : NoAttr K c.field "halves"
  ic : Cls K c.item
  ik : NoAttr K c.item "kind"
  it : NoAttr K c.item "tincture"
  ha : PySem.W.findIn K (.ref c.arms) "__class__" = some (some (.builtin "object.__class__"))
  hn : PySem.W.specialIn K (.builtin "object.__class__") "__get__" = some (some (.builtin "getset_descriptor.__get__"))
  htk : PySem.W.takesIn K (.builtin "object.__class__") = some true
  hm : PySem.W.mroIn K c.arms (.type "object") = some true
  k0 : PySem.W.kitOne K (.type "int") (.ref c.arms) = some false
  k1 : PySem.W.kitOne K (.ref c.arms) (.ref c.arms) = some true
theorem ar_field (f b : Addr) : (arF f b).lookup ("field" : Str) = some (.ref f) := lk_self _ _ _
theorem ar_borne (f b : Addr) : (arF f b).lookup ("borne" : Str) = some (.ref b) := (lk_ne _ _ (sne (by decide))).trans (lk_self _ _ _)
theorem fi_kind (k : String) (n : Int) (h : Addr) : (fiF k n h).lookup ("kind" : Str) = some (nV k) := lk_self _ _ _
theorem fi_halves (k : String) (n : Int) (h : Addr) : (fiF k n h).lookup ("halves" : Str) = some (.ref h) := (lk_ne _ _ (sne (by decide))).trans ((lk_ne _ _ (sne (by decide))).trans (lk_self _ _ _))
theorem it_kind (k : String) (n t : Int) : (itF k n t).lookup ("kind" : Str) = some (nV k) := lk_self _ _ _
theorem it_tinct (k : String) (n t : Int) : (itF k n t).lookup ("tincture" : Str) = some (.int t) := (lk_ne _ _ (sne (by decide))).trans ((lk_ne _ _ (sne (by decide))).trans (lk_self _ _ _))
section
variable {c : Cs} {H H' : Hp}
theorem arms_same (ok : c.Ok) (s : Same H H') {p : Addr} {a : Sa57.Arms} (h : ArmsAt c H p a) : ArmsAt c H' p a := ArmsAt.keep ok (Keep.same s) a p h
theorem field_same (ok : c.Ok) (s : Same H H') {p : Addr} {a : Sa57.Field} (h : FieldAt c H p a) : FieldAt c H' p a := FieldAt.keep ok (Keep.same s) a p h
theorem paired_get {α β : Type} {r : α → β → Prop} : ∀ {xs : List α} {ys : List β} {i : Nat} {x : α}, Paired r xs ys → xs[i]? = some x → ∃ y, ys[i]? = some y ∧ r x y
  | _, _, _, _, .nil, h => by cases h
  | _, _, 0, _, .cons a _, h => by cases h; exact ⟨_, rfl, a⟩
  | _, _, i + 1, _, .cons _ b, h => by
    obtain ⟨y, e, q⟩ := paired_get b (i := i) (by simpa using h)
    exact ⟨y, by simpa using e, q⟩
theorem paired_app {α β : Type} {r : α → β → Prop} : ∀ {xs xs' : List α} {ys ys' : List β}, Paired r xs ys → Paired r xs' ys' → Paired r (xs ++ xs') (ys ++ ys')
  | _, _, _, _, .nil, h => h
  | _, _, _, _, .cons a b, h => .cons a (paired_app b h)
theorem take_snoc {α : Type} {l : List α} {i : Nat} {x : α} (h : l[i]? = some x) : l.take (i + 1) = l.take i ++ [x] := by
  rw [List.take_add_one, h]
  rfl
end
end A57

namespace A57
open PySem L2
open Sa57 (Bytes ascii Read)
section
variable {K : PySem.W.Frag} {h : Heap} {mg : Str → Option Value} {f C : Addr} {x m qual : Str} {st : Stmt} {ps : List Str} {oc kV dc pm cd ct : Value} {od an : Option Addr} {sl : Array (Option Value)}
theorem src_mk (X : K.In h) (G : h.Ns mainGlobals mg) (hb : ∀ (kV doc pm : Value) (an : Option Addr) (cdv ct : Value) (us : List Value), us.length = ps.length → bindArgs (PySem.W.fnOf x x (defArgs st) (defBody st) (defScope st) .none kV doc pm an cdv ct) ⟨us, []⟩ = pure (ps.zip us))
    (a : PySem.W.nsIn K mainGlobals x = some (some (.ref f))) (l : K.lookup f = some ⟨oc, od, .func (PySem.W.fnOf x x (defArgs st) (defBody st) (defScope st) .none kV dc pm an cd ct), sl⟩) (c : PySem.W.codeIn K cd x = true) (k : PySem.W.keepIn K (.ref f) = true) : Src K mg x st ps :=
  ⟨f, _, PySem.W.mg_of X G a, fun_mk l c k, (fun_mk l c k).binds hb⟩
theorem srcM_mk (hb : ∀ (kV doc pm : Value) (an : Option Addr) (cdv ct : Value) (us : List Value), us.length = ps.length → bindArgs (PySem.W.fnOf m qual (defArgs st) (defBody st) (defScope st) .none kV doc pm an cdv ct) ⟨us, []⟩ = pure (ps.zip us))
    (a : PySem.W.findIn K (.ref C) m = some (some (.ref f))) (i : PySem.W.isFn K (.ref f) = true) (l : K.lookup f = some ⟨oc, od, .func (PySem.W.fnOf m qual (defArgs st) (defBody st) (defScope st) .none kV dc pm an cd ct), sl⟩) (c : PySem.W.codeIn K cd qual = true) (k : PySem.W.keepIn K (.ref f) = true) : SrcM K C m qual st ps :=
  ⟨f, _, ⟨a, i, k⟩, fun_mk l c k, (fun_mk l c k).binds hb⟩
theorem srcI_mk (hb : ∀ (kV doc pm : Value) (an : Option Addr) (cdv ct : Value) (us : List Value), us.length = ps.length → bindArgs (PySem.W.fnOf "__init__" qual (defArgs st) (defBody st) (defScope st) .none kV doc pm an cdv ct) ⟨us, []⟩ = pure (ps.zip us))
    (n : mg x = some (.ref C)) (mk : PySem.W.makesIn K C = true) (a : PySem.W.findIn K (.ref C) "__init__" = some (some (.ref f))) (i : PySem.W.isFn K (.ref f) = true)
    (l : K.lookup f = some ⟨oc, od, .func (PySem.W.fnOf "__init__" qual (defArgs st) (defBody st) (defScope st) .none kV dc pm an cd ct), sl⟩) (c : PySem.W.codeIn K cd qual = true) (k : PySem.W.keepIn K (.ref f) = true) (kc : PySem.W.keepIn K (.ref C) = true) : SrcI K mg x C qual st ps :=
  ⟨n, f, _, ⟨mk, a, i, kc⟩, fun_mk l c k, (fun_mk l c k).binds hb⟩
theorem xcls_mk {N : Addr} {nm q bs sn sub ab col dd k0 k1 k2 k3 k5} (o : K.lookup C = some (excClassObj nm q C N bs bmE true sn sub ab col dd k0 k1 k2 k3 k5 "Exception.__new__")) (ok : PySem.W.nsOkIn K N = true) (ini : PySem.W.nsIn K N "__init__" = some (some (.ref f)))
    (sa : PySem.W.nsIn K N "__setattr__" = some none) (ga : PySem.W.nsIn K N "__getattribute__" = some none) (gh : PySem.W.nsIn K N "__getattr__" = some none) (fn : PySem.W.isFn K (.ref f) = true) (kp : PySem.W.keepIn K (.ref C) = true) : XCls K C N f :=
  ⟨⟨nm, q, bs, sn, sub, ab, col, dd, k0, k1, k2, k3, k5, o⟩, ok, ini, sa, ga, gh, fn, kp⟩
theorem tupG_mk (X : K.In h) (G : h.Ns mainGlobals mg) {a : Addr} {names : List String} (e : PySem.W.nsIn K mainGlobals x = some (some (.ref a))) (t : strTup K a (names.map nS) = true) : TupG K mg x names :=
  ⟨a, PySem.W.mg_of X G e, by have := TupK.strs t; rwa [List.map_map] at this⟩
theorem intsG_mk (X : K.In h) (G : h.Ns mainGlobals mg) {a : Addr} {ns : List Int} (e : PySem.W.nsIn K mainGlobals x = some (some (.ref a))) (t : intTup K a ns = true) : IntsG K mg x ns :=
  ⟨a, PySem.W.mg_of X G e, TupK.ints t⟩
theorem itabG_mk (X : K.In h) (G : h.Ns mainGlobals mg) {a : Addr} {D : List (Int × PyData)} (e : PySem.W.nsIn K mainGlobals x = some (some (.ref a))) (t : PyProof.Rows.KTD.keyedLook (fun b => K.lookup b) a D = true) : ITabG K mg x D :=
  ⟨a, PySem.W.mg_of X G e, t⟩
theorem stabG_mk {P : Program} {w : World} (X : K.In h) (G : h.Ns mainGlobals mg) {a : Addr} {D : List (String × Int)} (e : PySem.W.nsIn K mainGlobals x = some (some (.ref a)))
    (t : PyProof.Rows.KTD.tabLook PyProof.Rows.KTD.flatLooks (fun b => K.lookup b) a (D.map fun p => (nS p.1, PyData.int p.2)) = true) (n : ((D.map fun p => (nS p.1, PyData.int p.2)).map (·.1)).Nodup)
    (q : PyProof.Rows.KTD.hashesOf (fun b => K.lookup b) a = (D.map fun p => (nS p.1, PyData.int p.2)).map fun p => (PySem.strKind P w).hash p.1) : STabG P w K mg x D :=
  ⟨a, PySem.W.mg_of X G e, ⟨fun h' X' => by
    have := PySem.W.kt_tab_in P w X' t n q
    rw [List.map_map] at this ⊢
    exact this⟩⟩
theorem intG_mk (X : K.In h) (G : h.Ns mainGlobals mg) {z : Int} {t : Tok} (e : PySem.W.nsIn K mainGlobals x = some (some (.int z t))) : IntG mg x z := ⟨t, PySem.W.mg_of X G e⟩
theorem strG_mk (X : K.In h) (G : h.Ns mainGlobals mg) {z : String} {t : Tok} (e : PySem.W.nsIn K mainGlobals x = some (some (.str (nS z) t))) : StrG mg x z := ⟨t, PySem.W.mg_of X G e⟩
end
/-- what the top has written, of reading -/
structure TopR (P : Program) (w : World) (K : PySem.W.Frag) (mg : Str → Option Value) (c : Cs) (CX N fX : Addr) (fdX : FuncData) : Prop where
  ok : c.Ok
  rc : RdC K c.reader
  pc : PC3 K c
  fn : NoAttr K c.field "number"
  inr : NoAttr K c.item "number"
  xc : XCls K CX N fX
  nf : PySem.W.nsIn K N "place" = some none
  fX : Fun K "__init__" "CannotStand.__init__" sCannot fX fdX
  bX : Binds K fdX ["self", "place"] []
  mX : mg "CannotStand" = some (.ref CX)
  mA : mg "Arms" = some (.ref c.arms)
  s1 : SrcI K mg "Arms" c.arms "Arms.__init__" sArms ["self", "field", "borne"]
  s2 : SrcI K mg "Field" c.field "Field.__init__" sField ["self", "kind", "number", "halves"]
  s3 : SrcI K mg "Item" c.item "Item.__init__" sItem ["self", "kind", "number", "tincture"]
  s4 : Src K mg "letter_of" sLetter ["byte"]
  s5 : Src K mg "split_words" sSplit ["text"]
  s6 : Src K mg "words_of" sWords ["text"]
  s7 : SrcI K mg "Reader" c.reader "Reader.__init__" sReader ["self", "words"]
  s8 : SrcM K c.reader "peek" "Reader.peek" sPeek ["self"]
  s9 : SrcM K c.reader "take" "Reader.take" sTake ["self", "allowed"]
  s10 : Src K mg "read_tincture" sTinct ["reader"]
  s11 : Src K mg "read_name" sName ["reader", "names"]
  s12 : Src K mg "read_half" sHalf ["reader", "depth"]
  s13 : Src K mg "read_parted" sParted ["reader", "depth"]
  s14 : Src K mg "read_varied" sVaried ["reader"]
  s15 : Src K mg "read_field" sFieldR ["reader", "depth"]
  s16 : Src K mg "read_item" sItemR ["reader"]
  s17 : Src K mg "read_arms" sArmsR ["reader", "depth"]
  s18 : Src K mg "read_words" sReadW ["words"]
  g1 : StrG mg "PLAIN" "plain"
  g2 : StrG mg "LETTERS" LETS
  g3 : StrG mg "OTHER" "?"
  g4 : IntG mg "MOST_WORDS" 2000
  g5 : IntG mg "MOST_DEEP" 6
  g6 : IntG mg "MOST_BYTES" 65536
  t1 : IntsG K mg "BLANKS" [10, 32]
  t2 : ITabG K mg "SIGNS" tSIGNS
  t3 : TupG K mg "TINCTURES" Sa57.TINCTURES
  t4 : TupG K mg "PARTINGS" tPART
  t5 : TupG K mg "VARIATIONS" tVAR
  t6 : TupG K mg "ORDINARIES" tORD
  t7 : TupG K mg "ONE_CHARGE" tONE
  t8 : TupG K mg "MORE_CHARGES" tMORE
  t9 : STabG P w K mg "NUMBERS" tNUM
  t10 : TupG K mg "NUMBERS_OF_CHARGES" tNOC
  t11 : TupG K mg "NUMBERS_BEHIND_OF" tNBO
  n1 : mg "len" = none
theorem ok_read {P : Program} {w : World} {K : PySem.W.Frag} {mg : Str → Option Value} {base : Heap} {c : Cs} {CX N fX : Addr} {fdX : FuncData} (T : TopR P w K mg c CX N fX fdX) : DWords P w K mg base ∧ DReadW P w K mg base c CX := by
  have DA : DArmsI P w K mg base c 1 := ok_armsI T.s1 T.pc.ac T.pc.af T.pc.ab
  have DF : DFieldI P w K mg base c 1 := ok_fieldI T.s2 T.pc.fc T.pc.fk T.fn T.pc.fh
  have DI : DItemI P w K mg base c 1 := ok_itemI T.s3 T.pc.ic T.pc.ik T.inr T.pc.it
  have DR := ok_readerI (P := P) (w := w) (base := base) T.s7 T.rc
  have FX : FnOk P w K mg base CX0 1 fX fdX ["self", "place"] (spXInit CX "place") := ok_cannotI T.xc T.nf T.fX
  have Dp : DPeek P w K mg base c.reader 1 := ok_peek T.s8 T.rc T.n1
  have Dt : DTake P w K mg base c.reader CX 3 := ok_take T.s9 T.rc Dp T.xc FX T.bX T.mX
  have Dn : DTinct P w K mg base c.reader CX 4 := ok_tinct T.s10 T.rc Dt T.t3
  have Dm : DName P w K mg base c.reader CX 4 := ok_name T.s11 T.rc Dt Dp
  have Dv := ok_varied T.s14 T.rc Dt Dn DF T.t5 T.t11 T.t9
  have Di := ok_itemR T.s16 T.rc Dt Dm Dn DI T.t10 T.t6 T.t7 T.t8 T.t9
  have R : RF P w K mg base c CX := ⟨T.rc, T.ok, Dp, Dt, Dn, Dm, DF, DA, Dv, Di, T.s12, T.s13, T.s15, T.s17, T.g5, T.t4, T.t5, T.g1⟩
  have Dl := ok_letter (P := P) (w := w) (base := base) T.s4 T.g2 T.g3
  have Ds := ok_split T.s5 Dl T.t1 T.t2
  exact ⟨ok_words T.s6 Ds T.g4 T.g3 T.n1, ok_readW T.s18 R DR T.xc FX T.bX T.mX T.n1⟩
theorem bV_toNat : ∀ {ns : List Int}, (∀ x ∈ ns, (0 : Int) ≤ x ∧ x ≤ 255) → bV (ns.map Int.toNat) = ns.map V.int
  | [], _ => rfl
  | n :: ns, hn => by
    have h1 := hn n (List.mem_cons_self ..)
    have ih := bV_toNat (ns := ns) fun x hx => hn x (List.mem_cons_of_mem _ hx)
    show V.int ((n.toNat : Nat) : Int) :: bV (ns.map Int.toNat) = V.int n :: ns.map V.int
    rw [ih, Int.toNat_of_nonneg h1.1]
theorem line16 : 65536 ≤ sizeLine := by rw [sizeLine_eq]; decide
end A57

namespace A57
open PySem L2
open Sa57 (Bytes ascii Read)
/-! ### rows -/
def rwF (w h y : Nat) : List (Str × V) := [("w", .int (w : Nat)), ("h", .int (h : Nat)), ("y", .int (y : Nat)), ("v", .int (2 * (y : Nat) + 1 - (h : Nat)))]
theorem rw_w (w h y : Nat) : (rwF w h y).lookup ("w" : Str) = some (.int (w : Nat)) := lk_self _ _ _
theorem rw_h (w h y : Nat) : (rwF w h y).lookup ("h" : Str) = some (.int (h : Nat)) := (lk_ne _ _ (sne (by decide))).trans (lk_self _ _ _)
theorem rw_y (w h y : Nat) : (rwF w h y).lookup ("y" : Str) = some (.int (y : Nat)) := (lk_ne _ _ (sne (by decide))).trans ((lk_ne _ _ (sne (by decide))).trans (lk_self _ _ _))
theorem rw_v (w h y : Nat) : (rwF w h y).lookup ("v" : Str) = some (.int (2 * (y : Nat) + 1 - (h : Nat))) := (lk_ne _ _ (sne (by decide))).trans ((lk_ne _ _ (sne (by decide))).trans ((lk_ne _ _ (sne (by decide))).trans (lk_self _ _ _)))
structure RwC (K : PySem.W.Frag) (CW : Addr) : Prop where
  cl : Cls K CW
  nw : NoAttr K CW "w"
  nh : NoAttr K CW "h"
  ny : NoAttr K CW "y"
  nv : NoAttr K CW "v"
def RowAt (CW : Addr) (H : Hp) (p : Addr) (w h y : Nat) : Prop := ∃ dx, H p = some (.ins CW dx (rwF w h y))
theorem RowAt.same {CW : Addr} {H H' : Hp} {p : Addr} {w h y : Nat} (r : RowAt CW H p w h y) (s : Same H H') : RowAt CW H' p w h y := let ⟨dx, e⟩ := r; ⟨dx, s _ _ e⟩
structure Sz (w h y : Nat) : Prop where
  wb : w ≤ 1024
  hb : h ≤ 1024
  yb : y < h
/-- a pair of whole numbers -/
abbrev pV (s : Int × Int) : List V := [.int s.1, .int s.2]
structure PairG (K : PySem.W.Frag) (mg : Str → Option Value) (x : Str) (s : Int × Int) : Prop where
  ex : ∃ a, mg x = some (.ref a) ∧ TupK K a (pV s)
theorem sqT_same {K : PySem.W.Frag} {H H' : Hp} (s : Same H H') {p : Addr} {xs : List V} (h : SqT K H p xs) : SqT K H' p xs := (Keep.same (CR := 0) s).tup h
section
variable {P : Program} {w : World} {K : PySem.W.Frag} {mg : Str → Option Value} {base : Heap} {CW : Addr}
theorem scRow : FnScope ["self", "w", "h", "y"] ["self", "w", "h", "y"] (defScope sRow) := ⟨rfl, rfl, rfl, by decide +kernel, rfl, by decide +kernel, by decide +kernel⟩
def spRowI (CW : Addr) : Sp := fun vs H Q _ => ∃ (p dx : Addr) (w h y : Nat), vs = [.ref p, .int (w : Nat), .int (h : Nat), .int (y : Nat)] ∧ H p = some (.ins CW dx []) ∧ ∀ H' : Hp, H' p = some (.ins CW dx (rwF w h y)) → (∀ q o, H q = some o → q ≠ p → H' q = some o) → Q .non H'
theorem ok_rowI (S : SrcI K mg "Row" CW "Row.__init__" sRow ["self", "w", "h", "y"]) (T : RwC K CW) : DefI P w K mg base CX0 1 "Row" CW ["self", "w", "h", "y"] (spRowI CW) := by
  refine S.def fun f fd F => F.ok scRow (fun vs H Q E h => ?_) fun cdv A outer s H vs Q E hr h => ?_
  · obtain ⟨p, dx, w, h, y, rfl, _⟩ := h
    rfl
  obtain ⟨p, dx, w, h, y, rfl, hp, q⟩ := h
  refine ⟨_, pss_cons (ps_fld (pv 0) (pv 1) rfl) (pss_cons (ps_fld (pv 0) (pv 2) rfl) (pss_cons (ps_fld (pv 0) (pv 3) rfl) (pss_one (ps_fld (pv 0) (pe_op op_sub (pe_op op_add (pe_op op_mul pe_int (pv 3)) pe_int) (pv 2)) rfl)))), ?_⟩
  refine ⟨_, rfl, _, rfl, p, CW, dx, [], rfl, hp, T.cl, T.nw, (by show 0 < 1000; decide), ?_⟩
  refine ⟨_, rfl, _, rfl, p, CW, dx, _, rfl, upd_same, T.cl, T.nh, (by show 1 < 1000; decide), ?_⟩
  refine ⟨_, rfl, _, rfl, p, CW, dx, _, rfl, upd_same, T.cl, T.ny, (by rw [put_nil, put_ne _ _ _ (sne (by decide)), put_nil]; show 2 < 1000; decide), ?_⟩
  refine ⟨_, rfl, _, _, rfl, rfl, Or.inl ⟨by omega, by omega⟩, _, _, rfl, rfl, _, rfl, _, _, rfl, rfl, ?_⟩
  refine ⟨_, rfl, p, CW, dx, _, rfl, upd_same, T.cl, T.nv, (by rw [put_nil, put_ne _ _ _ (sne (by decide)), put_nil, put_ne _ _ _ (sne (by decide)), put_ne _ _ _ (sne (by decide)), put_nil]; show 3 < 1000; decide), ?_⟩
  refine q _ (upd_same.trans ?_) fun b o e hb => by rw [upd_ne hb, upd_ne hb, upd_ne hb, upd_ne hb]; exact e
  repeat (first | rw [put_nil] | rw [put_ne _ _ _ (sne (by decide))])
  rfl
/-! ### within -/
def spWthn (K : PySem.W.Frag) (CW : Addr) : Sp := fun vs H Q _ => ∃ (pr : Addr) (w h y : Nat) (st of li : Int), vs = [.ref pr, .int st, .int of, .int li] ∧ RowAt CW H pr w h y ∧ 0 < st ∧ st < 1073741824 ∧ ∀ p H', Same H H' → SqT K H' p (pV (wthn w st of li)) → Q (.ref p) H'
abbrev DWthn (P : Program) (w : World) (K : PySem.W.Frag) (mg : Str → Option Value) (base : Heap) (CW : Addr) : Prop := Def P w K mg base CX0 1 "within" ["row", "step", "offset", "limit"] (spWthn K CW)
theorem scWthn : FnScope ["row", "step", "offset", "limit", "first", "behind"] ["row", "step", "offset", "limit"] (defScope f_within) := ⟨rfl, rfl, rfl, by decide +kernel, rfl, by decide +kernel, by decide +kernel⟩
theorem ok_wthn (S : Src K mg "within" f_within ["row", "step", "offset", "limit"]) (T : RwC K CW) (gN : PairG K mg "NOWHERE" (0, 0)) (mm : mg "max" = none) (mi : mg "min" = none) : DWthn P w K mg base CW := by
  refine S.def fun f fd F => F.ok scWthn (fun vs H Q E h => ?_) fun cdv A outer s H vs Q E hr h => ?_
  · obtain ⟨pr, w, h, y, st, of, li, rfl, _⟩ := h
    rfl
  obtain ⟨pr, w, h, y, st, of, li, rfl, ⟨dx, hR⟩, hs0, hs1, q⟩ := h
  obtain ⟨aN, mN, tN⟩ := gN.ex
  refine ⟨_, pss_cons (ps_set (i := 4) scWthn.nd rfl (Or.inl rfl) (pe_callB (call_max2 rfl) rfl mm PyProof.Rows.boot_max (pa_cons pe_int (pa_cons (pe_un un_neg (pe_op op_fdiv (pe_op op_add (pv 3) (pv 2)) (pv 1))) pa_nil))))
    (pss_cons (ps_set (i := 5) scWthn.nd rfl (Or.inl rfl) (pe_callB (call_min2 rfl) rfl mi PyProof.Rows.boot_min (pa_cons (pe_fld (pv 0) rfl) (pa_cons (pe_op op_add (pe_op op_fdiv (pe_op op_sub (pv 3) (pv 2)) (pv 1)) pe_int) pa_nil))))
    (pss_cons (ps_if (pt_cmpR op_lt (pv 4) (pv 5) (nomark _)) (pss_one (ps_ret (pe_tup (pa_cons (pv 4) (pa_cons (pv 5) pa_nil))))) pss_nil)
    (pss_one (ps_ret (pe_gref rfl mN))))), ?_⟩
  repeat first|refine ⟨_,rfl,?_⟩|refine ⟨_,_,_,_,_,rfl,‹_›,T.cl,by first|exact T.nw|exact T.nh|exact T.ny|exact T.nv,by first|exact rw_w _ _ _|exact rw_h _ _ _|exact rw_y _ _ _|exact rw_v _ _ _,?_⟩|refine ⟨_,_,rfl,rfl,by first|exact .inl ⟨by omega,by omega⟩|exact .inr ⟨by omega,by omega⟩|exact ⟨by omega,by omega⟩,?_⟩|refine ⟨_,_,rfl,rfl,?_⟩|refine ⟨_,_,rfl,?_⟩
  have key : ∀ z : Int × Int, wthn w st of li = z → (∀ p H', Same H H' → SqT K H' p (pV z) → Q (.ref p) H') := fun z e => by rw [← e]; exact q
  unfold wthn at key
  refine ite2 (fun z => ?_) fun z => ?_
  · have z' := of_decide_eq_true z
    refine ⟨_, rfl, _, rfl, by show 2 ≤ sizeLine; exact le1000 (by decide), fun p hp => ?_⟩
    exact key _ (if_pos z') p _ (Same.new hp _) (SqT.of upd_same)
  · have z' := of_decide_eq_false (Bool.eq_false_iff.mpr z)
    exact key _ (if_neg z') aN _ (fun _ _ e => e) (tN.sq _)
/-! ### around -/
/-- stretches, a list of pairs -/
def StAt (K : PySem.W.Frag) (H : Hp) (p : Addr) (l : List (Int × Int)) : Prop := ∃ ps : List Addr, H p = some (.lst (ps.map V.ref)) ∧ Paired (fun q s => SqT K H q (pV s)) ps l
theorem StAt.same {K : PySem.W.Frag} {H H' : Hp} {p : Addr} {l : List (Int × Int)} (h : StAt K H p l) (s : Same H H') : StAt K H' p l := let ⟨ps, e, q⟩ := h; ⟨ps, s _ _ e, Paired.mapP q fun _ _ z => sqT_same s z⟩
def spArnd (K : PySem.W.Frag) : Sp := fun vs H Q _ => ∃ (po pi : Addr) (o i : Int × Int), vs = [.ref po, .ref pi] ∧ SqT K H po (pV o) ∧ SqT K H pi (pV i) ∧ ∀ p H', Same H H' → StAt K H' p (arnd o i) → Q (.ref p) H'
abbrev DArnd (P : Program) (w : World) (K : PySem.W.Frag) (mg : Str → Option Value) (base : Heap) : Prop := Def P w K mg base CX0 1 "around" ["outer", "inner"] (spArnd K)
theorem scArnd : FnScope ["outer", "inner"] ["outer", "inner"] (defScope f_around) := ⟨rfl, rfl, rfl, by decide +kernel, rfl, by decide +kernel, by decide +kernel⟩
theorem ok_arnd (S : Src K mg "around" f_around ["outer", "inner"]) (gN : PairG K mg "NOWHERE" (0, 0)) : DArnd P w K mg base := by
  refine S.def fun f fd F => F.ok scArnd (fun vs H Q E h => ?_) fun cdv A outer s H vs Q E hr h => ?_
  · obtain ⟨po, pi, o, i, rfl, _⟩ := h
    rfl
  obtain ⟨po, pi, o, i, rfl, ho, hi, q⟩ := h
  obtain ⟨aN, mN, tN⟩ := gN.ex
  refine ⟨_, pss_cons (ps_if (pt_cmpR (op_eqP hr.units) (pv 1) (pe_gref rfl mN) (nomark _)) (pss_one (ps_ret (pe_lst (pa_cons (pv 0) pa_nil)))) pss_nil)
    (pss_one (ps_ret (pe_lst (pa_cons (pe_tup (pa_cons (pe_ix ix_tup (pv 0) pe_int (fun _ _ => rfl)) (pa_cons (pe_ix ix_tup (pv 1) pe_int (fun _ _ => rfl)) pa_nil)))
      (pa_cons (pe_tup (pa_cons (pe_ix ix_tup (pv 1) pe_int (fun _ _ => rfl)) (pa_cons (pe_ix ix_tup (pv 0) pe_int (fun _ _ => rfl)) pa_nil))) pa_nil))))), ?_⟩
  refine ⟨_, rfl, pi, aN, i.1, i.2, 0, 0, rfl, rfl, hi, tN.sq _, _, rfl, ?_⟩
  have key : ∀ z, arnd o i = z → (∀ p H', Same H H' → StAt K H' p z → Q (.ref p) H') := fun z e => by rw [← e]; exact q
  unfold arnd at key
  refine ite2 (fun z => ?_) fun z => ?_
  · have z' : i = (0, 0) := of_decide_eq_true z
    refine ⟨_, rfl, by show 1 ≤ sizeLine; exact le1000 (by decide), fun p hp => ?_⟩
    exact key _ (if_pos z') p _ (Same.new hp _) ⟨[po], upd_same, .cons (sqT_same (Same.new hp _) ho) .nil⟩
  · have z' : ¬ i = (0, 0) := of_decide_eq_false (Bool.eq_false_iff.mpr z)
    refine ⟨_, rfl, po, _, _, _, rfl, rfl, ho, atI_nat (j := 0) rfl, _, rfl, pi, _, _, _, rfl, rfl, hi, atI_nat (j := 0) rfl, by show 2 ≤ sizeLine; exact le1000 (by decide), fun t1 n1 => ?_⟩
    have s1 := Same.new n1 (.tup [V.int o.1, V.int i.1])
    refine ⟨_, rfl, pi, _, _, _, rfl, rfl, sqT_same s1 hi, atI_nat (j := 1) rfl, _, rfl, po, _, _, _, rfl, rfl, sqT_same s1 ho, atI_nat (j := 1) rfl, by show 2 ≤ sizeLine; exact le1000 (by decide), fun t2 n2 => ?_⟩
    have s2 := Same.new n2 (.tup [V.int i.2, V.int o.2])
    refine ⟨by show 2 ≤ sizeLine; exact le1000 (by decide), fun p hp => ?_⟩
    have s3 := Same.new hp (.lst [V.ref t1, V.ref t2])
    exact key _ (if_neg z') p _ (same_trans s1 (same_trans s2 s3)) ⟨[t1, t2], upd_same, .cons (sqT_same (same_trans s2 s3) (SqT.of upd_same)) (.cons (sqT_same s3 (SqT.of upd_same)) .nil)⟩
/-! ### painted -/
theorem cut_lo (xs : List V) {f : Int} (h0 : 0 ≤ f) : cutV xs none (some f) = xs.take f.toNat := by
  obtain ⟨n, rfl⟩ := Int.eq_ofNat_of_zero_le h0
  unfold cutV
  rw [HT.sIx_nat, HT.sIx_none, Int.toNat_natCast, List.drop_zero, Nat.sub_zero, List.take_eq_take_iff]
  omega
theorem cut_hi (xs : List V) {f : Int} (h0 : 0 ≤ f) : cutV xs (some f) none = xs.drop f.toNat := by
  obtain ⟨n, rfl⟩ := Int.eq_ofNat_of_zero_le h0
  unfold cutV
  rw [HT.sIx_nat, HT.sIx_none, Int.toNat_natCast]
  rcases Nat.le_total n xs.length with h | h
  · rw [Nat.min_eq_left h, List.take_of_length_le (by rw [List.length_drop]; omega)]
  · rw [Nat.min_eq_right h, List.drop_length, List.drop_eq_nil_of_le h]
    simp
theorem cut_mid (xs : List V) {f b : Int} (h0 : 0 ≤ f) (h1 : f ≤ b) (h2 : b ≤ xs.length) : cutV xs (some f) (some b) = (xs.drop f.toNat).take (b.toNat - f.toNat) := by
  obtain ⟨n, rfl⟩ := Int.eq_ofNat_of_zero_le h0
  obtain ⟨m, rfl⟩ := Int.eq_ofNat_of_zero_le (Int.le_trans h0 h1)
  unfold cutV
  rw [HT.sIx_nat, HT.sIx_nat, Int.toNat_natCast, Int.toNat_natCast, Nat.min_eq_left (by omega), Nat.min_eq_left (by omega)]
def spPntd (K : PySem.W.Frag) : Sp := fun vs H Q _ => ∃ (pc pp ps : Addr) (cells paint : List V) (l : List (Int × Int)), vs = [.ref pc, .ref pp, .ref ps] ∧ H pc = some (.lst cells) ∧ H pp = some (.lst paint) ∧ StAt K H ps l ∧ cells.length = paint.length ∧ paint.length ≤ 1024 ∧ (∀ s ∈ l, SOk' paint.length s) ∧ ∀ p H', Same H H' → H' p = some (.lst (pntAll paint cells l)) → Q (.ref p) H'
abbrev DPntd (P : Program) (w : World) (K : PySem.W.Frag) (mg : Str → Option Value) (base : Heap) : Prop := Def P w K mg base CX0 1 "painted" ["cells", "paint", "stretches"] (spPntd K)
theorem scPntd : FnScope ["cells", "paint", "stretches", "first", "behind"] ["cells", "paint", "stretches"] (defScope f_painted) := ⟨rfl, rfl, rfl, by decide +kernel, rfl, by decide +kernel, by decide +kernel⟩
theorem pnt_len {α : Type} {paint cells : List α} (s : Int × Int) (h : cells.length = paint.length) (hs : SOk' paint.length s) : (pnt paint cells s).length = paint.length := by
  unfold pnt
  have := hs.lo
  have := hs.hi
  split
  · simp only [List.length_append, List.length_take, List.length_drop]
    omega
  · exact h
theorem pntAll_len {α : Type} {paint : List α} : ∀ (l : List (Int × Int)) {cells : List α}, cells.length = paint.length → (∀ s ∈ l, SOk' paint.length s) → (pntAll paint cells l).length = paint.length
  | [], _, h, _ => h
  | s :: l, cells, h, hs => pntAll_len l (cells := pnt paint cells s) (pnt_len s h (hs s (List.mem_cons_self ..))) fun t ht => hs t (List.mem_cons_of_mem _ ht)
theorem ok_pntd (S : Src K mg "painted" f_painted ["cells", "paint", "stretches"]) : DPntd P w K mg base := by
  refine S.def fun f fd F => F.ok scPntd (fun vs H Q E h => ?_) fun cdv A outer s H vs Q E hr h => ?_
  · obtain ⟨pc, pp, ps, cells, paint, l, rfl, _⟩ := h
    rfl
  obtain ⟨pc, pp, ps, cells, paint, l, rfl, hc, hp, ⟨rs, hl, hP⟩, e1, e2, hok, q⟩ := h
  refine ⟨_, pss_cons (ps_for PassesOwn.never rfl (pi_list (pv 2)) (pg_tup rfl (pgs_cons (pg_name (i := 3) scPntd.nd rfl (Or.inl rfl)) (pgs_cons (pg_name (i := 4) scPntd.nd rfl (Or.inl rfl)) pgs_nil)))
      (pss_one (ps_if (pt_cmpR op_lt (pv 3) (pv 4) (nomark _)) (pss_one (ps_set (i := 0) scPntd.nd rfl (Or.inl rfl)
        (pe_op op_cat (pe_op op_cat (pe_slice sl_list (pv 0) po_none (po_some (pv 3))) (pe_slice sl_list (pv 1) (po_some (pv 3)) (po_some (pv 4)))) (pe_slice sl_list (pv 0) (po_some (pv 4)) po_none)))) pss_nil)))
    (pss_one (ps_ret (pv 0))), ?_⟩
  refine ⟨_, rfl, ps, rfl, ⟨_, SqL.of hl⟩, ?_⟩
  have hlen : rs.length = l.length := paired_len hP
  refine for_list (xs := rs.map V.ref) (fun i σ H2 => ∃ pc' v3 v4, σ = [some (.ref pc'), some (.ref pp), some (.ref ps), v3, v4] ∧ Same H H2 ∧ H2 pc' = some (.lst (pntAll paint cells (l.take i)))) ?_ ?_ ?_ ?_
  · exact ⟨pc, _, _, rfl, fun _ _ e => e, hc⟩
  · rintro i σ H2 hi ⟨pc', v3, v4, rfl, s2, h2⟩
    exact SqL.of (s2 _ _ hl)
  · rintro i x σ H2 hx ⟨pc', v3, v4, rfl, s2, h2⟩
    have hi : i < rs.length := by
      have := (List.getElem?_eq_some_iff.mp hx).1
      rwa [List.length_map] at this
    rw [List.getElem?_map, List.getElem?_eq_getElem hi] at hx
    obtain rfl := (Option.some.inj hx).symm
    obtain ⟨st, he, hst⟩ := paired_get hP (List.getElem?_eq_getElem hi)
    have hmem : st ∈ l := List.mem_of_getElem? he
    have ht : l.take (i + 1) = l.take i ++ [st] := take_snoc he
    have hso := hok st hmem
    have hcl : (pntAll paint cells (l.take i)).length = paint.length := pntAll_len _ e1 fun t ht => hok t (List.mem_of_mem_take ht)
    have hstep : pntAll paint cells (l.take (i + 1)) = pnt paint (pntAll paint cells (l.take i)) st := by
      rw [ht]
      unfold pntAll
      rw [List.foldl_append]
      rfl
    refine ⟨rs[i], _, rfl, sqT_same s2 hst, rfl, _, _, rfl, _, _, rfl, rfl, ?_⟩
    refine ⟨_, rfl, _, rfl, _, _, rfl, rfl, _, rfl, ?_⟩
    refine ite2 (fun z => ?_) fun z => ?_
    · have z' : st.1 < st.2 := of_decide_eq_true z
      have hh1 := hso.lo
      have hh2 := hso.hi
      have hp2 : H2 pp = some (.lst paint) := s2 _ _ hp
      refine ⟨_, rfl, _, rfl, _, rfl, pc', _, rfl, SqL.of h2, fun p1 n1 => ?_⟩
      have t1 := Same.new n1 (.lst (cutV (pntAll paint cells (l.take i)) none (some st.1)))
      refine ⟨_, rfl, _, rfl, _, rfl, _, rfl, _, rfl, pp, _, rfl, SqL.of (t1 _ _ hp2), fun p2 n2 => ?_⟩
      have t2 := Same.new n2 (.lst (cutV paint (some st.1) (some st.2)))
      rw [cut_lo _ hh1] at *
      rw [cut_mid _ hh1 (Int.le_of_lt z') hh2] at *
      refine ⟨p1, p2, _, _, rfl, rfl, t2 _ _ upd_same, upd_same, ?_, fun p3 n3 => ?_⟩
      · simp only [List.length_take, List.length_drop]
        rw [sizeLine_eq]
        omega
      have t3 := Same.new n3 (.lst ((pntAll paint cells (l.take i)).take st.1.toNat ++ (paint.drop st.1.toNat).take (st.2.toNat - st.1.toNat)))
      have s5 := same_trans t1 (same_trans t2 t3)
      refine ⟨_, rfl, _, rfl, _, rfl, pc', _, rfl, SqL.of (s5 _ _ h2), fun p4 n4 => ?_⟩
      have t4 := Same.new n4 (.lst (cutV (pntAll paint cells (l.take i)) (some st.2) none))
      rw [cut_hi _ (by omega)] at *
      refine ⟨p3, p4, _, _, rfl, rfl, t4 _ _ upd_same, upd_same, ?_, fun p5 n5 => ?_⟩
      · simp only [List.length_append, List.length_take, List.length_drop]
        rw [sizeLine_eq]
        omega
      refine ⟨p5, _, _, rfl, same_trans s2 (same_trans s5 (same_trans t4 (Same.new n5 _))), ?_⟩
      rw [upd_same, hstep]
      unfold pnt
      rw [if_pos z']
    · have z' : ¬ st.1 < st.2 := of_decide_eq_false (Bool.eq_false_iff.mpr z)
      refine ⟨pc', _, _, rfl, s2, ?_⟩
      rw [h2, hstep]
      unfold pnt
      rw [if_neg z']
  · rintro σ H2 ⟨pc', v3, v4, rfl, s2, h2⟩
    rw [List.length_map, hlen, List.take_length] at h2
    exact ⟨_, rfl, q pc' H2 s2 h2⟩
end
end A57

namespace A57
open PySem L2
open Sa57 (Bytes ascii Read)
section
variable {P : Program} {w : World} {K : PySem.W.Frag} {mg : Str → Option Value} {base : Heap} {CW : Addr}
def spBtw (K : PySem.W.Frag) (CW : Addr) : Sp := fun vs H Q _ => ∃ (pr : Addr) (w h y : Nat) (t of li : Int), vs = [.ref pr, .int t, .int of, .int li] ∧ RowAt CW H pr w h y ∧ w ≤ 1024 ∧ 0 < t ∧ t < 100000000 ∧ ∀ p H', Same H H' → SqT K H' p (pV (btw w t of li)) → Q (.ref p) H'
abbrev DBtw (P : Program) (w : World) (K : PySem.W.Frag) (mg : Str → Option Value) (base : Heap) (CW : Addr) : Prop := Def P w K mg base CX0 2 "between" ["row", "times", "offset", "limit"] (spBtw K CW)
theorem scBtw : FnScope ["row", "times", "offset", "limit"] ["row", "times", "offset", "limit"] (defScope f_between) := ⟨rfl, rfl, rfl, by decide +kernel, rfl, by decide +kernel, by decide +kernel⟩
theorem ok_btw (S : Src K mg "between" f_between ["row", "times", "offset", "limit"]) (T : RwC K CW) (Dw : DWthn P w K mg base CW) : DBtw P w K mg base CW := by
  refine S.def fun f fd F => F.ok scBtw (fun vs H Q E h => ?_) fun cdv A outer s H vs Q E hr h => ?_
  · obtain ⟨pr, w, h, y, t, of, li, rfl, _⟩ := h
    rfl
  obtain ⟨pr, w, h, y, t, of, li, rfl, ⟨dx, hR⟩, hw, hs0, hs1, q⟩ := h
  refine ⟨_, pss_one (ps_ret (pe_callD Dw hr rfl pass0 (pa_cons (pv 0) (pa_cons (pe_op op_mul pe_int (pv 1)) (pa_cons (pe_op op_add (pe_op op_mul (pv 1) (pe_op op_sub pe_int (pe_fld (pv 0) rfl))) (pv 2)) (pa_cons (pv 3) pa_nil)))))), ?_⟩
  repeat first|refine ⟨_,rfl,?_⟩|refine ⟨_,_,_,_,_,rfl,‹_›,T.cl,by first|exact T.nw|exact T.nh|exact T.ny|exact T.nv,by first|exact rw_w _ _ _|exact rw_h _ _ _|exact rw_y _ _ _|exact rw_v _ _ _,?_⟩|refine ⟨_,_,rfl,rfl,by first|exact .inl ⟨by omega,by omega⟩|exact .inr ⟨by omega,by omega⟩|exact ⟨by omega,by omega⟩,?_⟩|refine ⟨_,_,rfl,rfl,?_⟩|refine ⟨_,_,rfl,?_⟩
  exact ⟨pr, w, h, y, _, _, _, rfl, ⟨_, hR⟩, by omega, by omega, q⟩
def spAlong (K : PySem.W.Frag) (CW : Addr) (g : Int → Int → Int → Int → Int × Int) : Sp := fun vs H Q _ => ∃ (pr : Addr) (w h y : Nat) (t : Int), vs = [.ref pr, .int t] ∧ RowAt CW H pr w h y ∧ Sz w h y ∧ (t = 4 ∨ t = 5) ∧ ∀ p H', Same H H' → SqT K H' p (pV (g w h (2 * (y : Nat) + 1 - (h : Nat)) t)) → Q (.ref p) H'
theorem scAlong : FnScope ["row", "times"] ["row", "times"] (defScope f_along_bend) := ⟨rfl, rfl, rfl, by decide +kernel, rfl, by decide +kernel, by decide +kernel⟩
theorem scAlongS : FnScope ["row", "times"] ["row", "times"] (defScope f_along_bend_sinister) := ⟨rfl, rfl, rfl, by decide +kernel, rfl, by decide +kernel, by decide +kernel⟩
abbrev DAlong (P : Program) (w : World) (K : PySem.W.Frag) (mg : Str → Option Value) (base : Heap) (CW : Addr) : Prop := Def P w K mg base CX0 3 "along_bend" ["row", "times"] (spAlong K CW along)
abbrev DAlongS (P : Program) (w : World) (K : PySem.W.Frag) (mg : Str → Option Value) (base : Heap) (CW : Addr) : Prop := Def P w K mg base CX0 3 "along_bend_sinister" ["row", "times"] (spAlong K CW alongS)
theorem ok_along (S : Src K mg "along_bend" f_along_bend ["row", "times"]) (T : RwC K CW) (Db : DBtw P w K mg base CW) : DAlong P w K mg base CW := by
  refine S.def fun f fd F => F.ok scAlong (fun vs H Q E h => ?_) fun cdv A outer s H vs Q E hr h => ?_
  · obtain ⟨pr, w, h, y, t, rfl, _⟩ := h
    rfl
  obtain ⟨pr, w, h, y, t, rfl, ⟨dx, hR⟩, hz, ht, q⟩ := h
  obtain ⟨z1, z2, z3⟩ := hz
  refine ⟨_, pss_one (ps_ret (pe_callD Db hr rfl pass0 (pa_cons (pv 0) (pa_cons (pe_op op_mul (pv 1) (pe_fld (pv 0) rfl)) (pa_cons (pe_op op_mul (pe_op op_mul (pe_un un_neg (pv 1)) (pe_fld (pv 0) rfl)) (pe_fld (pv 0) rfl)) (pa_cons (pe_op op_mul (pe_fld (pv 0) rfl) (pe_fld (pv 0) rfl)) pa_nil)))))), ?_⟩
  rcases ht with rfl | rfl
  · repeat first|refine ⟨_,rfl,?_⟩|refine ⟨_,_,_,_,_,rfl,‹_›,T.cl,by first|exact T.nw|exact T.nh|exact T.ny|exact T.nv,by first|exact rw_w _ _ _|exact rw_h _ _ _|exact rw_y _ _ _|exact rw_v _ _ _,?_⟩|refine ⟨_,_,rfl,rfl,by first|exact .inl ⟨by omega,by omega⟩|exact .inr ⟨by omega,by omega⟩|exact ⟨by omega,by omega⟩,?_⟩|refine ⟨_,_,rfl,rfl,?_⟩|refine ⟨_,_,rfl,?_⟩
    exact ⟨pr, w, h, y, _, _, _, rfl, ⟨_, hR⟩, z1, by omega, by omega, q⟩
  · repeat first|refine ⟨_,rfl,?_⟩|refine ⟨_,_,_,_,_,rfl,‹_›,T.cl,by first|exact T.nw|exact T.nh|exact T.ny|exact T.nv,by first|exact rw_w _ _ _|exact rw_h _ _ _|exact rw_y _ _ _|exact rw_v _ _ _,?_⟩|refine ⟨_,_,rfl,rfl,by first|exact .inl ⟨by omega,by omega⟩|exact .inr ⟨by omega,by omega⟩|exact ⟨by omega,by omega⟩,?_⟩|refine ⟨_,_,rfl,rfl,?_⟩|refine ⟨_,_,rfl,?_⟩
    exact ⟨pr, w, h, y, _, _, _, rfl, ⟨_, hR⟩, z1, by omega, by omega, q⟩
theorem ok_alongS (S : Src K mg "along_bend_sinister" f_along_bend_sinister ["row", "times"]) (T : RwC K CW) (Db : DBtw P w K mg base CW) : DAlongS P w K mg base CW := by
  refine S.def fun f fd F => F.ok scAlongS (fun vs H Q E h => ?_) fun cdv A outer s H vs Q E hr h => ?_
  · obtain ⟨pr, w, h, y, t, rfl, _⟩ := h
    rfl
  obtain ⟨pr, w, h, y, t, rfl, ⟨dx, hR⟩, hz, ht, q⟩ := h
  obtain ⟨z1, z2, z3⟩ := hz
  refine ⟨_, pss_one (ps_ret (pe_callD Db hr rfl pass0 (pa_cons (pv 0) (pa_cons (pe_op op_mul (pv 1) (pe_fld (pv 0) rfl)) (pa_cons (pe_op op_mul (pe_op op_mul (pv 1) (pe_fld (pv 0) rfl)) (pe_fld (pv 0) rfl)) (pa_cons (pe_op op_mul (pe_fld (pv 0) rfl) (pe_fld (pv 0) rfl)) pa_nil)))))), ?_⟩
  rcases ht with rfl | rfl
  · repeat first|refine ⟨_,rfl,?_⟩|refine ⟨_,_,_,_,_,rfl,‹_›,T.cl,by first|exact T.nw|exact T.nh|exact T.ny|exact T.nv,by first|exact rw_w _ _ _|exact rw_h _ _ _|exact rw_y _ _ _|exact rw_v _ _ _,?_⟩|refine ⟨_,_,rfl,rfl,by first|exact .inl ⟨by omega,by omega⟩|exact .inr ⟨by omega,by omega⟩|exact ⟨by omega,by omega⟩,?_⟩|refine ⟨_,_,rfl,rfl,?_⟩|refine ⟨_,_,rfl,?_⟩
    exact ⟨pr, w, h, y, _, _, _, rfl, ⟨_, hR⟩, z1, by omega, by omega, q⟩
  · repeat first|refine ⟨_,rfl,?_⟩|refine ⟨_,_,_,_,_,rfl,‹_›,T.cl,by first|exact T.nw|exact T.nh|exact T.ny|exact T.nv,by first|exact rw_w _ _ _|exact rw_h _ _ _|exact rw_y _ _ _|exact rw_v _ _ _,?_⟩|refine ⟨_,_,rfl,rfl,by first|exact .inl ⟨by omega,by omega⟩|exact .inr ⟨by omega,by omega⟩|exact ⟨by omega,by omega⟩,?_⟩|refine ⟨_,_,rfl,rfl,?_⟩|refine ⟨_,_,rfl,?_⟩
    exact ⟨pr, w, h, y, _, _, _, rfl, ⟨_, hR⟩, z1, by omega, by omega, q⟩
def spAllIf (K : PySem.W.Frag) (CW : Addr) : Sp := fun vs H Q _ => ∃ (pr : Addr) (w h y : Nat) (b : Bool), vs = [.ref pr, .bl b] ∧ RowAt CW H pr w h y ∧ ∀ p H', Same H H' → StAt K H' p (allIf w b) → Q (.ref p) H'
abbrev DAllIf (P : Program) (w : World) (K : PySem.W.Frag) (mg : Str → Option Value) (base : Heap) (CW : Addr) : Prop := Def P w K mg base CX0 1 "all_if" ["row", "covered"] (spAllIf K CW)
theorem scAllIf : FnScope ["row", "covered"] ["row", "covered"] (defScope f_all_if) := ⟨rfl, rfl, rfl, by decide +kernel, rfl, by decide +kernel, by decide +kernel⟩
theorem ok_allIf (S : Src K mg "all_if" f_all_if ["row", "covered"]) (T : RwC K CW) : DAllIf P w K mg base CW := by
  refine S.def fun f fd F => F.ok scAllIf (fun vs H Q E h => ?_) fun cdv A outer s H vs Q E hr h => ?_
  · obtain ⟨pr, w, h, y, b, rfl, _⟩ := h
    rfl
  obtain ⟨pr, w, h, y, b, rfl, ⟨dx, hR⟩, q⟩ := h
  refine ⟨_, pss_one (ps_ret (pe_ifExp (pt_val (pv 1)) (pe_lst (pa_cons (pe_tup (pa_cons pe_int (pa_cons (pe_fld (pv 0) rfl) pa_nil))) pa_nil)) (pe_lst pa_nil))), ?_⟩
  refine ⟨_, rfl, _, rfl, ?_⟩
  cases b with
  | true =>
    refine iteT ?_
    repeat first|refine ⟨_,rfl,?_⟩|refine ⟨_,_,_,_,_,rfl,‹_›,T.cl,by first|exact T.nw|exact T.nh|exact T.ny|exact T.nv,by first|exact rw_w _ _ _|exact rw_h _ _ _|exact rw_y _ _ _|exact rw_v _ _ _,?_⟩|refine ⟨_,_,rfl,rfl,by first|exact .inl ⟨by omega,by omega⟩|exact .inr ⟨by omega,by omega⟩|exact ⟨by omega,by omega⟩,?_⟩|refine ⟨_,_,rfl,rfl,?_⟩|refine ⟨_,_,rfl,?_⟩
    refine ⟨by show 2 ≤ sizeLine; exact le1000 (by decide), fun t n => ⟨by show 1 ≤ sizeLine; exact le1000 (by decide), fun p hp => ?_⟩⟩
    have s1 := Same.new n (.tup [V.int 0, V.int (w : Nat)])
    have s2 := Same.new hp (.lst [V.ref t])
    exact q p _ (same_trans s1 s2) ⟨[t], upd_same, .cons (sqT_same s2 (SqT.of upd_same)) .nil⟩
  | false =>
    refine iteF ⟨by show 0 ≤ sizeLine; exact Nat.zero_le _, fun p hp => ?_⟩
    exact q p _ (Same.new hp _) ⟨[], upd_same, .nil⟩
/-! ### the ordinaries -/
theorem allIf_len (w : Int) (b : Bool) : (allIf w b).length ≤ 1 := by cases b <;> simp [allIf]
def spO (K : PySem.W.Frag) (CW : Addr) (o : Sa57.Ordinary) : Sp := fun vs H Q _ => ∃ (pr : Addr) (w h y : Nat), vs = [.ref pr] ∧ RowAt CW H pr w h y ∧ Sz w h y ∧ ∀ p H', Same H H' → StAt K H' p (ordS o w h y) → Q (.ref p) H'
theorem scFess : FnScope ["row"] ["row"] (defScope f_fess) := ⟨rfl, rfl, rfl, by decide +kernel, rfl, by decide +kernel, by decide +kernel⟩
theorem ok_fess (S : Src K mg "fess" f_fess ["row"]) (T : RwC K CW) (Da : DAllIf P w K mg base CW) (ma : mg "abs" = none) : Def P w K mg base CX0 4 "fess" ["row"] (spO K CW .fess) := by
  refine S.def fun f fd F => F.ok scFess (fun vs H Q E h => ?_) fun cdv A outer s H vs Q E hr h => ?_
  · obtain ⟨pr, w, h, y, rfl, _⟩ := h
    rfl
  obtain ⟨pr, w, h, y, rfl, ⟨dx, hR⟩, ⟨z1, z2, z3⟩, q⟩ := h
  refine ⟨_, pss_one (ps_ret (pe_callD Da (hr.mono (by decide)) rfl pass0 (pa_cons (pv 0) (pa_cons (pe_cmpR op_le (pe_op op_mul pe_int (pe_callB call_abs rfl ma PyProof.Rows.boot_abs (pa_cons (pe_fld (pv 0) rfl) pa_nil))) (pe_fld (pv 0) rfl) (nomark _)) pa_nil)))), ?_⟩
  repeat first|refine ⟨_,rfl,?_⟩|refine ⟨_,_,_,_,_,rfl,‹_›,T.cl,by first|exact T.nw|exact T.nh|exact T.ny|exact T.nv,by first|exact rw_w _ _ _|exact rw_h _ _ _|exact rw_y _ _ _|exact rw_v _ _ _,?_⟩|refine ⟨_,_,rfl,rfl,by first|exact .inl ⟨by omega,by omega⟩|exact .inr ⟨by omega,by omega⟩|exact ⟨by omega,by omega⟩,?_⟩|refine ⟨_,_,rfl,rfl,?_⟩|refine ⟨_,_,rfl,?_⟩
  exact ⟨pr, w, h, y, _, rfl, ⟨_, hR⟩, q⟩
theorem scPale : FnScope ["row"] ["row"] (defScope f_pale) := ⟨rfl, rfl, rfl, by decide +kernel, rfl, by decide +kernel, by decide +kernel⟩
theorem one_st {K : PySem.W.Frag} {H : Hp} {Q : VK} {t : Addr} {s : Int × Int} (ht : SqT K H t (pV s)) (q : ∀ p H', Same H H' → StAt K H' p [s] → Q (.ref p) H') : [V.ref t].length ≤ sizeLine ∧ ∀ p, H p = none → Q (.ref p) (upd H p (.lst [V.ref t])) :=
  ⟨by show 1 ≤ sizeLine; exact le1000 (by decide), fun p hp => q p _ (Same.new hp _) ⟨[t], upd_same, .cons (sqT_same (Same.new hp _) ht) .nil⟩⟩
theorem ok_pale (S : Src K mg "pale" f_pale ["row"]) (T : RwC K CW) (Db : DBtw P w K mg base CW) : Def P w K mg base CX0 4 "pale" ["row"] (spO K CW .pale) := by
  refine S.def fun f fd F => F.ok scPale (fun vs H Q E h => ?_) fun cdv A outer s H vs Q E hr h => ?_
  · obtain ⟨pr, w, h, y, rfl, _⟩ := h
    rfl
  obtain ⟨pr, w, h, y, rfl, ⟨dx, hR⟩, ⟨z1, z2, z3⟩, q⟩ := h
  refine ⟨_, pss_one (ps_ret (pe_lst (pa_cons (pe_callD Db (hr.mono (by decide)) rfl pass0 (pa_cons (pv 0) (pa_cons pe_int (pa_cons pe_int (pa_cons (pe_fld (pv 0) rfl) pa_nil))))) pa_nil))), ?_⟩
  repeat first|refine ⟨_,rfl,?_⟩|refine ⟨_,_,_,_,_,rfl,‹_›,T.cl,by first|exact T.nw|exact T.nh|exact T.ny|exact T.nv,by first|exact rw_w _ _ _|exact rw_h _ _ _|exact rw_y _ _ _|exact rw_v _ _ _,?_⟩|refine ⟨_,_,rfl,rfl,by first|exact .inl ⟨by omega,by omega⟩|exact .inr ⟨by omega,by omega⟩|exact ⟨by omega,by omega⟩,?_⟩|refine ⟨_,_,rfl,rfl,?_⟩|refine ⟨_,_,rfl,?_⟩
  refine ⟨pr, w, h, y, _, _, _, rfl, ⟨_, hR⟩, z1, by omega, by omega, fun t H1 s1 h1 => ?_⟩
  exact one_st h1 fun p H2 s2 h2 => q p H2 (same_trans s1 s2) h2
theorem scBend : FnScope ["row"] ["row"] (defScope f_bend) := ⟨rfl, rfl, rfl, by decide +kernel, rfl, by decide +kernel, by decide +kernel⟩
theorem ok_bend (S : Src K mg "bend" f_bend ["row"]) (T : RwC K CW) (Db : DAlong P w K mg base CW) : Def P w K mg base CX0 4 "bend" ["row"] (spO K CW .bend) := by
  refine S.def fun f fd F => F.ok scBend (fun vs H Q E h => ?_) fun cdv A outer s H vs Q E hr h => ?_
  · obtain ⟨pr, w, h, y, rfl, _⟩ := h
    rfl
  obtain ⟨pr, w, h, y, rfl, hR, hz, q⟩ := h
  refine ⟨_, pss_one (ps_ret (pe_lst (pa_cons (pe_callD Db hr rfl pass0 (pa_cons (pv 0) (pa_cons pe_int pa_nil))) pa_nil))), ?_⟩
  refine ⟨_, rfl, pr, w, h, y, _, rfl, hR, hz, .inl rfl, fun t H1 s1 h1 => ?_⟩
  exact one_st h1 fun p H2 s2 h2 => q p H2 (same_trans s1 s2) h2
theorem scBendS : FnScope ["row"] ["row"] (defScope f_bend_sinister) := ⟨rfl, rfl, rfl, by decide +kernel, rfl, by decide +kernel, by decide +kernel⟩
theorem ok_bendS (S : Src K mg "bend_sinister" f_bend_sinister ["row"]) (T : RwC K CW) (Db : DAlongS P w K mg base CW) : Def P w K mg base CX0 4 "bend_sinister" ["row"] (spO K CW .sinister) := by
  refine S.def fun f fd F => F.ok scBendS (fun vs H Q E h => ?_) fun cdv A outer s H vs Q E hr h => ?_
  · obtain ⟨pr, w, h, y, rfl, _⟩ := h
    rfl
  obtain ⟨pr, w, h, y, rfl, hR, hz, q⟩ := h
  refine ⟨_, pss_one (ps_ret (pe_lst (pa_cons (pe_callD Db hr rfl pass0 (pa_cons (pv 0) (pa_cons pe_int pa_nil))) pa_nil))), ?_⟩
  refine ⟨_, rfl, pr, w, h, y, _, rfl, hR, hz, .inl rfl, fun t H1 s1 h1 => ?_⟩
  exact one_st h1 fun p H2 s2 h2 => q p H2 (same_trans s1 s2) h2
theorem scChev : FnScope ["row", "lowest", "outer", "inner"] ["row"] (defScope f_chevron) := ⟨rfl, rfl, rfl, by decide +kernel, rfl, by decide +kernel, by decide +kernel⟩
theorem ok_chev (S : Src K mg "chevron" f_chevron ["row"]) (T : RwC K CW) (Db : DBtw P w K mg base CW) (Da : DArnd P w K mg base) : Def P w K mg base CX0 4 "chevron" ["row"] (spO K CW .chevron) := by
  refine S.def fun f fd F => F.ok scChev (fun vs H Q E h => ?_) fun cdv A outer s H vs Q E hr h => ?_
  · obtain ⟨pr, w, h, y, rfl, _⟩ := h
    rfl
  obtain ⟨pr, w, h, y, rfl, ⟨dx, hR⟩, ⟨z1, z2, z3⟩, q⟩ := h
  have hr2 : Room 2 _ := hr.mono (by decide)
  have hr1 : Room 1 _ := hr.mono (by decide)
  refine ⟨_, pss_cons (ps_set (i := 1) scChev.nd rfl (Or.inl rfl) (pe_op op_mul (pe_op op_mul pe_int (pe_fld (pv 0) rfl)) (pe_fld (pv 0) rfl)))
    (pss_cons (ps_set (i := 2) scChev.nd rfl (Or.inl rfl) (pe_callD Db hr2 rfl pass0 (pa_cons (pv 0) (pa_cons (pe_op op_mul pe_int (pe_fld (pv 0) rfl)) (pa_cons pe_int (pa_cons (pe_op op_add (pv 1) (pe_op op_mul (pe_op op_mul pe_int (pe_fld (pv 0) rfl)) (pe_fld (pv 0) rfl))) pa_nil))))))
    (pss_cons (ps_set (i := 3) scChev.nd rfl (Or.inl rfl) (pe_callD Db hr2 rfl pass0 (pa_cons (pv 0) (pa_cons (pe_op op_mul pe_int (pe_fld (pv 0) rfl)) (pa_cons pe_int (pa_cons (pe_op op_sub (pv 1) pe_int) pa_nil))))))
    (pss_one (ps_ret (pe_callD Da hr1 rfl pass0 (pa_cons (pv 2) (pa_cons (pv 3) pa_nil))))))), ?_⟩
  repeat first|refine ⟨_,rfl,?_⟩|refine ⟨_,_,_,_,_,rfl,‹_›,T.cl,by first|exact T.nw|exact T.nh|exact T.ny|exact T.nv,by first|exact rw_w _ _ _|exact rw_h _ _ _|exact rw_y _ _ _|exact rw_v _ _ _,?_⟩|refine ⟨_,_,rfl,rfl,by first|exact .inl ⟨by omega,by omega⟩|exact .inr ⟨by omega,by omega⟩|exact ⟨by omega,by omega⟩,?_⟩|refine ⟨_,_,rfl,rfl,?_⟩|refine ⟨_,_,rfl,?_⟩
  refine ⟨pr, w, h, y, _, _, _, rfl, ⟨_, hR⟩, z1, by omega, by omega, fun t1 H1 s1 h1 => ?_⟩
  have hR1 := s1 _ _ hR
  repeat first|refine ⟨_,rfl,?_⟩|refine ⟨_,_,_,_,_,rfl,‹_›,T.cl,by first|exact T.nw|exact T.nh|exact T.ny|exact T.nv,by first|exact rw_w _ _ _|exact rw_h _ _ _|exact rw_y _ _ _|exact rw_v _ _ _,?_⟩|refine ⟨_,_,rfl,rfl,by first|exact .inl ⟨by omega,by omega⟩|exact .inr ⟨by omega,by omega⟩|exact ⟨by omega,by omega⟩,?_⟩|refine ⟨_,_,rfl,rfl,?_⟩|refine ⟨_,_,rfl,?_⟩
  refine ⟨pr, w, h, y, _, _, _, rfl, ⟨_, hR1⟩, z1, by omega, by omega, fun t2 H2 s2 h2 => ?_⟩
  refine ⟨_, rfl, _, rfl, t1, t2, _, _, rfl, sqT_same s2 h1, h2, fun p H3 s3 h3 => ?_⟩
  exact q p H3 (same_trans s1 (same_trans s2 s3)) h3
theorem scCross : FnScope ["row"] ["row"] (defScope f_cross) := ⟨rfl, rfl, rfl, by decide +kernel, rfl, by decide +kernel, by decide +kernel⟩
theorem ok_cross (S : Src K mg "cross" f_cross ["row"]) (T : RwC K CW) (Da : DAllIf P w K mg base CW) (Db : DBtw P w K mg base CW) (ma : mg "abs" = none) : Def P w K mg base CX0 4 "cross" ["row"] (spO K CW .cross) := by
  refine S.def fun f fd F => F.ok scCross (fun vs H Q E h => ?_) fun cdv A outer s H vs Q E hr h => ?_
  · obtain ⟨pr, w, h, y, rfl, _⟩ := h
    rfl
  obtain ⟨pr, w, h, y, rfl, ⟨dx, hR⟩, ⟨z1, z2, z3⟩, q⟩ := h
  have hr2 : Room 2 _ := hr.mono (by decide)
  have hr1 : Room 1 _ := hr.mono (by decide)
  refine ⟨_, pss_one (ps_ret (pe_op op_cat (pe_callD Da hr1 rfl pass0 (pa_cons (pv 0) (pa_cons (pe_cmpR op_le (pe_op op_mul pe_int (pe_callB call_abs rfl ma PyProof.Rows.boot_abs (pa_cons (pe_fld (pv 0) rfl) pa_nil))) (pe_fld (pv 0) rfl) (nomark _)) pa_nil)))
    (pe_lst (pa_cons (pe_callD Db hr2 rfl pass0 (pa_cons (pv 0) (pa_cons pe_int (pa_cons pe_int (pa_cons (pe_fld (pv 0) rfl) pa_nil))))) pa_nil)))), ?_⟩
  repeat first|refine ⟨_,rfl,?_⟩|refine ⟨_,_,_,_,_,rfl,‹_›,T.cl,by first|exact T.nw|exact T.nh|exact T.ny|exact T.nv,by first|exact rw_w _ _ _|exact rw_h _ _ _|exact rw_y _ _ _|exact rw_v _ _ _,?_⟩|refine ⟨_,_,rfl,rfl,by first|exact .inl ⟨by omega,by omega⟩|exact .inr ⟨by omega,by omega⟩|exact ⟨by omega,by omega⟩,?_⟩|refine ⟨_,_,rfl,rfl,?_⟩|refine ⟨_,_,rfl,?_⟩
  refine ⟨pr, w, h, y, _, rfl, ⟨_, hR⟩, fun p1 H1 s1 h1 => ?_⟩
  have hR1 := s1 _ _ hR
  repeat first|refine ⟨_,rfl,?_⟩|refine ⟨_,_,_,_,_,rfl,‹_›,T.cl,by first|exact T.nw|exact T.nh|exact T.ny|exact T.nv,by first|exact rw_w _ _ _|exact rw_h _ _ _|exact rw_y _ _ _|exact rw_v _ _ _,?_⟩|refine ⟨_,_,rfl,rfl,by first|exact .inl ⟨by omega,by omega⟩|exact .inr ⟨by omega,by omega⟩|exact ⟨by omega,by omega⟩,?_⟩|refine ⟨_,_,rfl,rfl,?_⟩|refine ⟨_,_,rfl,?_⟩
  refine ⟨pr, w, h, y, _, _, _, rfl, ⟨_, hR1⟩, z1, by omega, by omega, fun t H2 s2 h2 => ?_⟩
  refine ⟨by show 1 ≤ sizeLine; exact le1000 (by decide), fun p2 n2 => ?_⟩
  have s3 := Same.new n2 (.lst [V.ref t])
  obtain ⟨ps, e1, hP⟩ := h1.same (same_trans s2 s3)
  have hpl : ps.length ≤ 1 := by
    rw [paired_len hP]
    exact allIf_len _ _
  refine ⟨p1, p2, _, _, rfl, rfl, e1, upd_same, ?_, fun p3 n3 => ?_⟩
  · rw [List.length_map]
    show _ + 1 ≤ _
    exact le1000 (by omega)
  have s4 := Same.new n3 (.lst (ps.map V.ref ++ [V.ref t]))
  refine q p3 _ (same_trans s1 (same_trans s2 (same_trans s3 s4))) ⟨ps ++ [t], by rw [upd_same, List.map_append]; rfl, ?_⟩
  exact paired_app (Paired.mapP hP fun _ _ z => sqT_same s4 z) (.cons (sqT_same (same_trans s3 s4) h2) .nil)
theorem scSalt : FnScope ["row"] ["row"] (defScope f_saltire) := ⟨rfl, rfl, rfl, by decide +kernel, rfl, by decide +kernel, by decide +kernel⟩
theorem ok_salt (S : Src K mg "saltire" f_saltire ["row"]) (T : RwC K CW) (D1 : DAlong P w K mg base CW) (D2 : DAlongS P w K mg base CW) : Def P w K mg base CX0 4 "saltire" ["row"] (spO K CW .saltire) := by
  refine S.def fun f fd F => F.ok scSalt (fun vs H Q E h => ?_) fun cdv A outer s H vs Q E hr h => ?_
  · obtain ⟨pr, w, h, y, rfl, _⟩ := h
    rfl
  obtain ⟨pr, w, h, y, rfl, hR, hz, q⟩ := h
  refine ⟨_, pss_one (ps_ret (pe_lst (pa_cons (pe_callD D1 hr rfl pass0 (pa_cons (pv 0) (pa_cons pe_int pa_nil))) (pa_cons (pe_callD D2 hr rfl pass0 (pa_cons (pv 0) (pa_cons pe_int pa_nil))) pa_nil)))), ?_⟩
  refine ⟨_, rfl, pr, w, h, y, _, rfl, hR, hz, .inr rfl, fun t H1 s1 h1 => ?_⟩
  refine ⟨_, rfl, pr, w, h, y, _, rfl, hR.same s1, hz, .inr rfl, fun t2 H2 s2 h2 => ?_⟩
  refine ⟨by show 2 ≤ sizeLine; exact le1000 (by decide), fun p hp => ?_⟩
  have s3 := Same.new hp (.lst [V.ref t, V.ref t2])
  exact q p _ (same_trans s1 (same_trans s2 s3)) ⟨[t, t2], upd_same, .cons (sqT_same (same_trans s2 s3) h1) (.cons (sqT_same s3 h2) .nil)⟩
theorem scChief : FnScope ["row"] ["row"] (defScope f_chief) := ⟨rfl, rfl, rfl, by decide +kernel, rfl, by decide +kernel, by decide +kernel⟩
theorem ok_chief (S : Src K mg "chief" f_chief ["row"]) (T : RwC K CW) (Da : DAllIf P w K mg base CW) : Def P w K mg base CX0 4 "chief" ["row"] (spO K CW .chief) := by
  refine S.def fun f fd F => F.ok scChief (fun vs H Q E h => ?_) fun cdv A outer s H vs Q E hr h => ?_
  · obtain ⟨pr, w, h, y, rfl, _⟩ := h
    rfl
  obtain ⟨pr, w, h, y, rfl, ⟨dx, hR⟩, ⟨z1, z2, z3⟩, q⟩ := h
  refine ⟨_, pss_one (ps_ret (pe_callD Da (hr.mono (by decide)) rfl pass0 (pa_cons (pv 0) (pa_cons (pe_cmpR op_le (pe_op op_mul pe_int (pe_op op_add (pe_op op_mul pe_int (pe_fld (pv 0) rfl)) pe_int)) (pe_op op_mul pe_int (pe_fld (pv 0) rfl)) (nomark _)) pa_nil)))), ?_⟩
  repeat first|refine ⟨_,rfl,?_⟩|refine ⟨_,_,_,_,_,rfl,‹_›,T.cl,by first|exact T.nw|exact T.nh|exact T.ny|exact T.nv,by first|exact rw_w _ _ _|exact rw_h _ _ _|exact rw_y _ _ _|exact rw_v _ _ _,?_⟩|refine ⟨_,_,rfl,rfl,by first|exact .inl ⟨by omega,by omega⟩|exact .inr ⟨by omega,by omega⟩|exact ⟨by omega,by omega⟩,?_⟩|refine ⟨_,_,rfl,rfl,?_⟩|refine ⟨_,_,rfl,?_⟩
  exact ⟨pr, w, h, y, _, rfl, ⟨_, hR⟩, q⟩
theorem scBord : FnScope ["row"] ["row"] (defScope f_bordure) := ⟨rfl, rfl, rfl, by decide +kernel, rfl, by decide +kernel, by decide +kernel⟩
theorem ok_bord (S : Src K mg "bordure" f_bordure ["row"]) (T : RwC K CW) (Db : DBtw P w K mg base CW) (Da : DArnd P w K mg base) : Def P w K mg base CX0 4 "bordure" ["row"] (spO K CW .bordure) := by
  refine S.def fun f fd F => F.ok scBord (fun vs H Q E h => ?_) fun cdv A outer s H vs Q E hr h => ?_
  · obtain ⟨pr, w, h, y, rfl, _⟩ := h
    rfl
  obtain ⟨pr, w, h, y, rfl, ⟨dx, hR⟩, ⟨z1, z2, z3⟩, q⟩ := h
  have hr2 : Room 2 _ := hr.mono (by decide)
  have hr1 : Room 1 _ := hr.mono (by decide)
  refine ⟨_, pss_cons (ps_if (PW.pt (pw_or (pt_cmpR op_lt (pe_op op_mul pe_int (pe_op op_add (pe_op op_mul pe_int (pe_fld (pv 0) rfl)) pe_int)) (pe_fld (pv 0) rfl) (nomark _)) (pw_or1 (pt_cmpR op_lt (pe_op op_mul pe_int (pe_op op_sub (pe_op op_mul pe_int (pe_op op_sub (pe_fld (pv 0) rfl) (pe_fld (pv 0) rfl))) pe_int)) (pe_fld (pv 0) rfl) (nomark _)))))
      (pss_one (ps_ret (pe_lst (pa_cons (pe_tup (pa_cons pe_int (pa_cons (pe_fld (pv 0) rfl) pa_nil))) pa_nil)))) pss_nil)
    (pss_one (ps_ret (pe_callD Da hr1 rfl pass0 (pa_cons (pe_tup (pa_cons pe_int (pa_cons (pe_fld (pv 0) rfl) pa_nil))) (pa_cons (pe_callD Db hr2 rfl pass0 (pa_cons (pv 0) (pa_cons pe_int (pa_cons pe_int (pa_cons (pe_op op_mul pe_int (pe_fld (pv 0) rfl)) pa_nil))))) pa_nil))))), ?_⟩
  have key : ∀ z, ordS .bordure w h y = z → (∀ p H', Same H H' → StAt K H' p z → Q (.ref p) H') := fun z e => by rw [← e]; exact q
  have whole : ordS .bordure w h y = [(0, ((w : Nat) : Int))] → ∀ t, H t = none → ∀ p, (upd H t (.tup [V.int 0, V.int (w : Nat)])) p = none → Q (.ref p) (upd (upd H t (.tup [V.int 0, V.int (w : Nat)])) p (.lst [V.ref t])) := fun e t n p hp =>
    key _ e p _ (same_trans (Same.new n _) (Same.new hp _)) ⟨[t], upd_same, .cons (sqT_same (Same.new hp _) (SqT.of upd_same)) .nil⟩
  repeat first|refine ⟨_,rfl,?_⟩|refine ⟨_,_,_,_,_,rfl,‹_›,T.cl,by first|exact T.nw|exact T.nh|exact T.ny|exact T.nv,by first|exact rw_w _ _ _|exact rw_h _ _ _|exact rw_y _ _ _|exact rw_v _ _ _,?_⟩|refine ⟨_,_,rfl,rfl,by first|exact .inl ⟨by omega,by omega⟩|exact .inr ⟨by omega,by omega⟩|exact ⟨by omega,by omega⟩,?_⟩|refine ⟨_,_,rfl,rfl,?_⟩|refine ⟨_,_,rfl,?_⟩
  refine ite2 (fun a => ?_) fun a => ?_
  · have a' := of_decide_eq_true a
    refine iteT ?_
    repeat first|refine ⟨_,rfl,?_⟩|refine ⟨_,_,_,_,_,rfl,‹_›,T.cl,by first|exact T.nw|exact T.nh|exact T.ny|exact T.nv,by first|exact rw_w _ _ _|exact rw_h _ _ _|exact rw_y _ _ _|exact rw_v _ _ _,?_⟩|refine ⟨_,_,rfl,rfl,by first|exact .inl ⟨by omega,by omega⟩|exact .inr ⟨by omega,by omega⟩|exact ⟨by omega,by omega⟩,?_⟩|refine ⟨_,_,rfl,rfl,?_⟩|refine ⟨_,_,rfl,?_⟩
    exact ⟨by show 2 ≤ sizeLine; exact le1000 (by decide), fun t n => ⟨by show 1 ≤ sizeLine; exact le1000 (by decide), fun p hp => whole (if_pos (.inl a')) t n p hp⟩⟩
  · have a' := of_decide_eq_false (Bool.eq_false_iff.mpr a)
    repeat first|refine ⟨_,rfl,?_⟩|refine ⟨_,_,_,_,_,rfl,‹_›,T.cl,by first|exact T.nw|exact T.nh|exact T.ny|exact T.nv,by first|exact rw_w _ _ _|exact rw_h _ _ _|exact rw_y _ _ _|exact rw_v _ _ _,?_⟩|refine ⟨_,_,rfl,rfl,by first|exact .inl ⟨by omega,by omega⟩|exact .inr ⟨by omega,by omega⟩|exact ⟨by omega,by omega⟩,?_⟩|refine ⟨_,_,rfl,rfl,?_⟩|refine ⟨_,_,rfl,?_⟩
    refine ite2 (fun b => ?_) fun b => ?_
    · have b' := of_decide_eq_true b
      repeat first|refine ⟨_,rfl,?_⟩|refine ⟨_,_,_,_,_,rfl,‹_›,T.cl,by first|exact T.nw|exact T.nh|exact T.ny|exact T.nv,by first|exact rw_w _ _ _|exact rw_h _ _ _|exact rw_y _ _ _|exact rw_v _ _ _,?_⟩|refine ⟨_,_,rfl,rfl,by first|exact .inl ⟨by omega,by omega⟩|exact .inr ⟨by omega,by omega⟩|exact ⟨by omega,by omega⟩,?_⟩|refine ⟨_,_,rfl,rfl,?_⟩|refine ⟨_,_,rfl,?_⟩
      exact ⟨by show 2 ≤ sizeLine; exact le1000 (by decide), fun t n => ⟨by show 1 ≤ sizeLine; exact le1000 (by decide), fun p hp => whole (if_pos (.inr b')) t n p hp⟩⟩
    · have b' := of_decide_eq_false (Bool.eq_false_iff.mpr b)
      repeat first|refine ⟨_,rfl,?_⟩|refine ⟨_,_,_,_,_,rfl,‹_›,T.cl,by first|exact T.nw|exact T.nh|exact T.ny|exact T.nv,by first|exact rw_w _ _ _|exact rw_h _ _ _|exact rw_y _ _ _|exact rw_v _ _ _,?_⟩|refine ⟨_,_,rfl,rfl,by first|exact .inl ⟨by omega,by omega⟩|exact .inr ⟨by omega,by omega⟩|exact ⟨by omega,by omega⟩,?_⟩|refine ⟨_,_,rfl,rfl,?_⟩|refine ⟨_,_,rfl,?_⟩
      refine ⟨by show 2 ≤ sizeLine; exact le1000 (by decide), fun t n => ?_⟩
      have s1 := Same.new n (.tup [V.int 0, V.int (w : Nat)])
      have hR1 := s1 _ _ hR
      repeat first|refine ⟨_,rfl,?_⟩|refine ⟨_,_,_,_,_,rfl,‹_›,T.cl,by first|exact T.nw|exact T.nh|exact T.ny|exact T.nv,by first|exact rw_w _ _ _|exact rw_h _ _ _|exact rw_y _ _ _|exact rw_v _ _ _,?_⟩|refine ⟨_,_,rfl,rfl,by first|exact .inl ⟨by omega,by omega⟩|exact .inr ⟨by omega,by omega⟩|exact ⟨by omega,by omega⟩,?_⟩|refine ⟨_,_,rfl,rfl,?_⟩|refine ⟨_,_,rfl,?_⟩
      refine ⟨pr, w, h, y, _, _, _, rfl, ⟨_, hR1⟩, z1, by omega, by omega, fun t2 H2 s2 h2 => ?_⟩
      refine ⟨t, t2, (0, ((w : Nat) : Int)), _, rfl, sqT_same s2 (SqT.of upd_same), h2, fun p H3 s3 h3 => ?_⟩
      exact key _ (if_neg fun z => z.elim a' b') p H3 (same_trans s1 (same_trans s2 s3)) h3
end
end A57

namespace A57
open PySem L2
open Sa57 (Bytes ascii Read)
/-! ### dicts of defs -/
structure RTabG (P : Program) (w : World) (K : PySem.W.Frag) (mg : Str → Option Value) (x : Str) (D : List (String × Addr)) : Prop where
  ex : ∃ a, mg x = some (.ref a) ∧ RTab P w K a (D.map fun p => (nS p.1, p.2))
theorem rAt_names (x : String) (D : List (String × Addr)) : rAt (nS x) (D.map fun p => (nS p.1, p.2)) = (D.find? fun p => p.1 = x).map (·.2) := by
  unfold rAt
  rw [List.find?_map, Option.map_map]
  have e : ((fun p : Str × Addr => decide (p.1 = nS x)) ∘ fun p : String × Addr => (nS p.1, p.2)) = fun p => decide (p.1 = x) := by
    funext p
    show decide (nS p.1 = nS x) = decide (p.1 = x)
    rw [decide_eq_decide]
    exact ⟨nS_inj, fun z => by rw [z]⟩
  rw [e]
  rfl
section
variable {P : Program} {w : World} {K : PySem.W.Frag} {mg : Str → Option Value} {base : Heap} {CW : Addr}
def oFn : Sa57.Ordinary → String
  | .fess => "fess" | .pale => "pale" | .bend => "bend" | .sinister => "bend_sinister" | .chevron => "chevron" | .cross => "cross" | .saltire => "saltire" | .chief => "chief" | .bordure => "bordure"
structure OrdG (P : Program) (w : World) (K : PySem.W.Frag) (mg : Str → Option Value) : Prop where
  ex : ∃ D, RTabG P w K mg "COVERS_ordinaries" D ∧ (∀ o, ∃ f, (D.find? fun p => p.1 = oName o).map (·.2) = some f ∧ mg (oFn o) = some (.ref f)) ∧ ∀ k, (D.find? fun p => p.1 = cName k).map (·.2) = none
theorem ordG_of {f1 f2 f3 f4 f5 f6 f7 f8 f9 : Addr} (T : RTabG P w K mg "COVERS_ordinaries" [("fess", f1), ("pale", f2), ("bend", f3), ("bend sinister", f4), ("chevron", f5), ("cross", f6), ("saltire", f7), ("chief", f8), ("bordure", f9)])
    (h1 : mg "fess" = some (.ref f1)) (h2 : mg "pale" = some (.ref f2)) (h3 : mg "bend" = some (.ref f3)) (h4 : mg "bend_sinister" = some (.ref f4)) (h5 : mg "chevron" = some (.ref f5)) (h6 : mg "cross" = some (.ref f6)) (h7 : mg "saltire" = some (.ref f7)) (h8 : mg "chief" = some (.ref f8)) (h9 : mg "bordure" = some (.ref f9)) : OrdG P w K mg :=
  ⟨_, T, fun o => by cases o <;> first | exact ⟨_, rfl, h1⟩ | exact ⟨_, rfl, h2⟩ | exact ⟨_, rfl, h3⟩ | exact ⟨_, rfl, h4⟩ | exact ⟨_, rfl, h5⟩ | exact ⟨_, rfl, h6⟩ | exact ⟨_, rfl, h7⟩ | exact ⟨_, rfl, h8⟩ | exact ⟨_, rfl, h9⟩, fun k => by cases k <;> rfl⟩
def isOrd : Sa57.Item → Bool
  | .ordinary _ _ => true
  | .charges _ _ _ => false
def spIsOrd : Sp := fun vs H Q _ => ∃ i, vs = [nV (iKind i)] ∧ Q (.bl (isOrd i)) H
theorem scIsOrd : FnScope ["kind"] ["kind"] (defScope f_is_ordinary) := ⟨rfl, rfl, rfl, by decide +kernel, rfl, by decide +kernel, by decide +kernel⟩
abbrev DIsOrd (P : Program) (w : World) (K : PySem.W.Frag) (mg : Str → Option Value) (base : Heap) : Prop := Def P w K mg base CX0 1 "is_ordinary" ["kind"] spIsOrd
theorem ok_isOrd (S : Src K mg "is_ordinary" f_is_ordinary ["kind"]) (G : OrdG P w K mg) : DIsOrd P w K mg base := by
  refine S.def fun f fd F => F.ok scIsOrd (fun vs H Q E h => ?_) fun cdv A outer s H vs Q E hr h => ?_
  · obtain ⟨i, rfl, _⟩ := h
    rfl
  obtain ⟨i, rfl, q⟩ := h
  obtain ⟨D, TD, hO, hC⟩ := G.ex
  obtain ⟨a, ma, T⟩ := TD.ex
  refine ⟨_, pss_one (ps_ret (pe_cmpR (op_in_rtab T) (pv 0) (pe_gref rfl ma) (by with_unfolding_all rfl))), ?_⟩
  refine ⟨_, rfl, _, rfl, rfl, ?_⟩
  rw [rAt_names]
  cases i with
  | ordinary o t =>
    obtain ⟨f, e, _⟩ := hO o
    show Q (.bl ((D.find? fun p => p.1 = oName o).map (·.2)).isSome) H
    rw [e]
    exact q
  | charges n k t =>
    show Q (.bl ((D.find? fun p => p.1 = cName k).map (·.2)).isSome) H
    rw [hC k]
    exact q
structure DOrds (P : Program) (w : World) (K : PySem.W.Frag) (mg : Str → Option Value) (base : Heap) (CW : Addr) : Prop where
  d : ∀ o, Def P w K mg base CX0 4 (oFn o) ["row"] (spO K CW o)
def spOS (K : PySem.W.Frag) (CW : Addr) : Sp := fun vs H Q _ => ∃ (o : Sa57.Ordinary) (pr : Addr) (w h y : Nat), vs = [nV (oName o), .ref pr] ∧ RowAt CW H pr w h y ∧ Sz w h y ∧ ∀ p H', Same H H' → StAt K H' p (ordS o w h y) → Q (.ref p) H'
theorem scOS : FnScope ["kind", "row"] ["kind", "row"] (defScope f_ordinary_stretches) := ⟨rfl, rfl, rfl, by decide +kernel, rfl, by decide +kernel, by decide +kernel⟩
abbrev DOS (P : Program) (w : World) (K : PySem.W.Frag) (mg : Str → Option Value) (base : Heap) (CW : Addr) : Prop := Def P w K mg base CX0 5 "ordinary_stretches" ["kind", "row"] (spOS K CW)
theorem ok_OS (S : Src K mg "ordinary_stretches" f_ordinary_stretches ["kind", "row"]) (G : OrdG P w K mg) (Do : DOrds P w K mg base CW) : DOS P w K mg base CW := by
  refine S.def fun f fd F => F.ok scOS (fun vs H Q E h => ?_) fun cdv A outer s H vs Q E hr h => ?_
  · obtain ⟨o, pr, w, h, y, rfl, _⟩ := h
    rfl
  obtain ⟨o, pr, w, h, y, rfl, hR, hz, q⟩ := h
  obtain ⟨D, TD, hO, hC⟩ := G.ex
  obtain ⟨a, ma, T⟩ := TD.ex
  refine ⟨_, pss_one (ps_ret (pe_callX (pe_rtab T (pe_gref rfl ma) (pv 0) (fun _ _ => rfl)) hr pass0 (pa_cons (pv 1) pa_nil))), ?_⟩
  obtain ⟨fo, e, mo⟩ := hO o
  obtain ⟨fo', fdo, mo', kp, hb, FO⟩ := (Do.d o).ex
  obtain rfl : fo' = fo := by rw [mo] at mo'; cases mo'; rfl
  refine ⟨_, rfl, _, fo', rfl, rfl, by rw [rAt_names]; exact e, fo', rfl, kp, _, rfl, fdo, _, _, hb, FO, pr, w, h, y, rfl, hR, hz, q⟩
end
end A57

namespace A57
open PySem L2
open Sa57 (Bytes ascii Read)
/-! ### the places, the sizes -/
def refTup : List Value → List (Int × Int) → PySem.W.Frag → Bool
  | [], [], _ => true
  | .ref r :: vs, p :: ps, K => intTup K r [p.1, p.2] && refTup vs ps K
  | _, _, _ => false
def pairsTup (K : PySem.W.Frag) (b : Addr) (ps : List (Int × Int)) : Bool := match K.lookup b with
  | some ⟨.type "tuple", none, .seq vs _, _⟩ => decide (vs.size ≤ 1000) && refTup vs.toList ps K
  | _ => false
theorem refTup_of {K : PySem.W.Frag} : ∀ {vs : List Value} {ps : List (Int × Int)}, refTup vs ps K = true → ∃ rs : List Addr, vs = rs.map Value.ref ∧ Paired (fun r p => TupK K r (pV p)) rs ps
  | [], [], _ => ⟨[], rfl, .nil⟩
  | .ref r :: vs, p :: ps, h => by
    simp only [refTup, Bool.and_eq_true] at h
    obtain ⟨rs, e, hP⟩ := refTup_of h.2
    exact ⟨r :: rs, by rw [e]; rfl, .cons (TupK.ints h.1) hP⟩
  | .ref r :: vs, [], h => by simp [refTup] at h
  | [], _ :: _, h => by simp [refTup] at h
theorem vals_refs (rs : List Addr) : Vals (rs.map V.ref) (rs.map Value.ref) := by
  induction rs with
  | nil => exact .nil
  | cons r rs ih => exact .cons rfl ih
theorem pairsTup_of {K : PySem.W.Frag} {b : Addr} {ps : List (Int × Int)} (h : pairsTup K b ps = true) : ∃ rs : List Addr, TupK K b (rs.map V.ref) ∧ Paired (fun r p => TupK K r (pV p)) rs ps := by
  unfold pairsTup at h
  split at h
  · rename_i vs n sl ho
    rw [Bool.and_eq_true, decide_eq_true_eq] at h
    obtain ⟨rs, e, hP⟩ := refTup_of h.2
    refine ⟨rs, ⟨fun H => .inr ⟨_, vs, n, ho, rfl, rfl, le1000 h.1, ?_⟩, _, ho, rfl, rfl⟩, hP⟩
    rw [e]
    exact vals_refs rs
  · cases h
def entriesR (K : PySem.W.Frag) (a : Addr) : List (Int × Addr) := match K.lookup a with
  | some o => (match o.data with
    | .dict es _ => es.toList.filterMap fun e => (match e.key, e.val with
      | .int j _, .ref b => some (j, b)
      | _, _ => none)
    | _ => [])
  | none => []
def placesOk (K : PySem.W.Frag) (a : Addr) : Bool := itabLook (fun b => K.lookup b) a (entriesR K a) && ([1, 2, 3, 4, 5, 6].all fun n => match rAt ((n : Nat) : Int) (entriesR K a) with
  | some b => pairsTup K b (Sa57.places n).1
  | none => false)
structure PlacesG (P : Program) (w : World) (K : PySem.W.Frag) (mg : Str → Option Value) : Prop where
  ex : ∃ a D, mg "PLACES" = some (.ref a) ∧ ITabR P w K a D ∧ ∀ n : Nat, 1 ≤ n → n ≤ 6 → ∃ (b : Addr) (rs : List Addr), rAt (n : Int) D = some b ∧ TupK K b (rs.map V.ref) ∧ Paired (fun r p => TupK K r (pV p)) rs (Sa57.places n).1
theorem placesG_of {P : Program} {w : World} {K : PySem.W.Frag} {mg : Str → Option Value} {a : Addr} (m : mg "PLACES" = some (.ref a)) (h : placesOk K a = true) : PlacesG P w K mg := by
  unfold placesOk at h
  rw [Bool.and_eq_true] at h
  refine ⟨a, _, m, itabR_of h.1, fun n h1 h2 => ?_⟩
  have hm : n ∈ [1, 2, 3, 4, 5, 6] := by simp; omega
  have := List.all_eq_true.mp h.2 n hm
  split at this
  · rename_i b e
    obtain ⟨rs, t, hP⟩ := pairsTup_of this
    exact ⟨b, rs, e, t, hP⟩
  · cases this
def tSIZES : List (Int × PyData) := [(1, .int 6), (2, .int 4), (3, .int 4), (4, .int 4), (5, .int 3), (6, .int 3)]
theorem sizes_at : ∀ n : Nat, 1 ≤ n → n ≤ 6 → PyProof.Rows.KTD.datumAt (n : Int) tSIZES = some (.int (Sa57.places n).2) := by
  intro n h1 h2
  rcases n with _ | _ | _ | _ | _ | _ | _ | n
  · omega
  all_goals first | rfl | omega
theorem places_ab : ∀ n : Nat, ∀ p ∈ (Sa57.places n).1, 0 ≤ p.1 ∧ p.1 ≤ 12 ∧ 0 ≤ p.2 ∧ p.2 ≤ 12 := by
  intro n
  unfold Sa57.places
  split <;> decide
theorem places_sz (n : Nat) : (Sa57.places n).2 ≤ 6 := by
  unfold Sa57.places
  split <;> decide
section
variable {P : Program} {w : World} {K : PySem.W.Frag} {mg : Str → Option Value} {base : Heap} {CW : Addr}
/-! ### root_of -/
def spRoot : Sp := fun vs H Q _ => ∃ n st : Int, vs = [.int n, .int st] ∧ 0 ≤ st ∧ st ≤ 100000 ∧ n ≤ st * st ∧ Q (.int (root n)) H
abbrev DRoot (P : Program) (w : World) (K : PySem.W.Frag) (mg : Str → Option Value) (base : Heap) : Prop := Def P w K mg base CX0 1 "root_of" ["number", "start"] spRoot
theorem scRoot : FnScope ["number", "start", "root"] ["number", "start"] (defScope f_root_of) := ⟨rfl, rfl, rfl, by decide +kernel, rfl, by decide +kernel, by decide +kernel⟩
theorem newton {n r : Int} (hn : 0 ≤ n) (hr : 0 ≤ r) (h : n < r * r) : 0 < r ∧ 0 ≤ (r + n / r) / 2 ∧ (r + n / r) / 2 < r ∧ n < ((r + n / r) / 2 + 1) * ((r + n / r) / 2 + 1) := by
  have h0 : 0 < r := by
    rcases Int.lt_or_eq_of_le hr with z | z
    · exact z
    · rw [← z] at h; omega
  have a1 : 0 ≤ n / r := Int.ediv_nonneg hn hr
  have a2 : n / r < r := Int.ediv_lt_of_lt_mul h0 h
  have a3 : n < (n / r + 1) * r := by
    have := Int.lt_ediv_add_one_mul_self n h0
    exact this
  generalize hq : n / r = q at *
  have b1 : r + q + 1 ≤ 2 * ((r + q) / 2 + 1) := by omega
  refine ⟨h0, by omega, by omega, ?_⟩
  generalize (r + q) / 2 = m at *
  have c1 : (r + q + 1) * (r + q + 1) ≤ (2 * (m + 1)) * (2 * (m + 1)) := Int.mul_le_mul b1 b1 (by omega) (by omega)
  have c2 : (2 * (m + 1)) * (2 * (m + 1)) = 4 * ((m + 1) * (m + 1)) := by grind
  have c3 : (r + q + 1) * (r + q + 1) = (r - (q + 1)) * (r - (q + 1)) + 4 * ((q + 1) * r) := by grind
  have c4 := sq_nonneg (r - (q + 1))
  omega
theorem ok_root (S : Src K mg "root_of" f_root_of ["number", "start"]) : DRoot P w K mg base := by
  refine S.def fun f fd F => F.ok scRoot (fun vs H Q E h => ?_) fun cdv A outer s H vs Q E hr h => ?_
  · obtain ⟨n, st, rfl, _⟩ := h
    rfl
  obtain ⟨n, st, rfl, h0, h1, h2, q⟩ := h
  refine ⟨_, pss_cons (ps_if (pt_cmpR op_lt (pv 0) pe_int (nomark _)) (pss_one (ps_ret (pe_un un_neg pe_int))) pss_nil)
    (pss_cons (ps_set (i := 2) scRoot.nd rfl (Or.inl rfl) (pv 1))
    (pss_cons (ps_while PassesOwn.never (pt_cmpR op_gt (pe_op op_mul (pv 2) (pv 2)) (pv 0) (nomark _)) (pss_one (ps_set (i := 2) scRoot.nd rfl (Or.inl rfl) (pe_op op_fdiv (pe_op op_add (pv 2) (pe_op op_fdiv (pv 0) (pv 2))) pe_int))))
    (pss_one (ps_ret (pv 2))))), ?_⟩
  refine ⟨_, rfl, _, _, rfl, rfl, _, rfl, ?_⟩
  refine ite2 (fun z => ?_) fun z => ?_
  · have z' : n < 0 := of_decide_eq_true z
    refine ⟨_, rfl, ?_⟩
    have e : root n = -1 := by unfold root; rw [if_pos z']
    rw [e] at q
    exact q
  have z' : ¬ n < 0 := of_decide_eq_false (Bool.eq_false_iff.mpr z)
  refine ⟨_, rfl, ?_⟩
  refine while_by (fun σ H2 => H2 = H ∧ ∃ r : Int, σ = [some (.int n), some (.int st), some (.int r)] ∧ 0 ≤ r ∧ r ≤ 100000 ∧ n < (r + 1) * (r + 1)) (fun σ _ => match σ with | [_, _, some (.int r)] => r.toNat | _ => 0) ⟨rfl, st, rfl, h0, h1, ?_⟩ ?_ ?_
  · have : st * st ≤ (st + 1) * (st + 1) := Int.mul_le_mul (by omega) (by omega) h0 (by omega)
    have e : (st + 1) * (st + 1) = st * st + 2 * st + 1 := by grind
    omega
  · rintro σ H2 ⟨rfl, r, rfl, r0, r1, r2⟩
    refine ⟨_, rfl, _, rfl, _, _, rfl, rfl, Or.inl ⟨by omega, by omega⟩, _, rfl, _, _, rfl, rfl, _, rfl, ?_⟩
    refine ite2 (fun y => ?_) fun y => ?_
    · have y' : n < r * r := of_decide_eq_true y
      obtain ⟨k1, k2, k3, k4⟩ := newton (by omega) r0 y'
      refine ⟨_, rfl, _, rfl, _, rfl, _, _, rfl, rfl, ⟨k1, by omega⟩, _, _, rfl, rfl, _, _, rfl, rfl, ⟨by decide, by decide⟩, ?_⟩
      refine ⟨⟨rfl, _, rfl, k2, by omega, k4⟩, ?_⟩
      show ((r + n / r) / 2).toNat < r.toNat
      omega
    · have y' : ¬ n < r * r := of_decide_eq_false (Bool.eq_false_iff.mpr y)
      refine ⟨_, rfl, ?_⟩
      have e := root_is (by omega) r0 (by omega) r2
      rw [← e] at q
      exact q
  · rintro σ H2 Q1 Q2 im ⟨a, ha, b, hb, i, j, e1, e2, hc, d, hd, i2, j2, e3, e4, k, e5, hq⟩
    exact ⟨a, ha, b, hb, i, j, e1, e2, hc, d, hd, i2, j2, e3, e4, k, e5, im _ _ hq⟩
/-! ### beside -/
def spBsd (K : PySem.W.Frag) (CW : Addr) : Sp := fun vs H Q _ => ∃ (pr : Addr) (w h y : Nat) (a t li : Int), vs = [.ref pr, .int a, .int t, .int li] ∧ RowAt CW H pr w h y ∧ w ≤ 1024 ∧ 0 ≤ a ∧ a ≤ 12 ∧ 0 < t ∧ t ≤ 3 ∧ ∀ p H', Same H H' → SqT K H' p (pV (bsd w a t li)) → Q (.ref p) H'
abbrev DBsd (P : Program) (w : World) (K : PySem.W.Frag) (mg : Str → Option Value) (base : Heap) (CW : Addr) : Prop := Def P w K mg base CX0 2 "beside" ["row", "a", "times", "limit"] (spBsd K CW)
theorem scBsd : FnScope ["row", "a", "times", "limit"] ["row", "a", "times", "limit"] (defScope f_beside) := ⟨rfl, rfl, rfl, by decide +kernel, rfl, by decide +kernel, by decide +kernel⟩
theorem ok_bsd (S : Src K mg "beside" f_beside ["row", "a", "times", "limit"]) (T : RwC K CW) (Dw : DWthn P w K mg base CW) : DBsd P w K mg base CW := by
  refine S.def fun f fd F => F.ok scBsd (fun vs H Q E h => ?_) fun cdv A outer s H vs Q E hr h => ?_
  · obtain ⟨pr, w, h, y, a, t, li, rfl, _⟩ := h
    rfl
  obtain ⟨pr, w, h, y, a, t, li, rfl, ⟨dx, hR⟩, hw, a0, a1, t0, t1, q⟩ := h
  refine ⟨_, pss_one (ps_ret (pe_callD Dw hr rfl pass0 (pa_cons (pv 0) (pa_cons (pe_op op_mul (pv 2) pe_int) (pa_cons (pe_op op_mul (pv 2) (pe_op op_sub pe_int (pe_op op_mul (pe_op op_mul pe_int (pv 1)) (pe_fld (pv 0) rfl)))) (pa_cons (pv 3) pa_nil)))))), ?_⟩
  repeat first|refine ⟨_,rfl,?_⟩|refine ⟨_,_,_,_,_,rfl,‹_›,T.cl,by first|exact T.nw|exact T.nh|exact T.ny|exact T.nv,by first|exact rw_w _ _ _|exact rw_h _ _ _|exact rw_y _ _ _|exact rw_v _ _ _,?_⟩|refine ⟨_,_,rfl,rfl,by first|exact .inl ⟨by omega,by omega⟩|exact .inr ⟨by omega,by omega⟩|exact ⟨by omega,by omega⟩,?_⟩|refine ⟨_,_,rfl,rfl,?_⟩|refine ⟨_,_,rfl,?_⟩
  exact ⟨pr, w, h, y, _, _, _, rfl, ⟨_, hR⟩, by omega, by omega, q⟩
/-! ### the charges -/
def spC (K : PySem.W.Frag) (CW : Addr) (k : Sa57.Charge) : Sp := fun vs H Q _ => ∃ (pr : Addr) (w h y : Nat) (a qq r : Int), vs = [.ref pr, .int a, .int qq, .int r] ∧ RowAt CW H pr w h y ∧ w ≤ 1024 ∧ 0 ≤ a ∧ a ≤ 12 ∧ (-100000 ≤ qq ∧ qq ≤ 100000) ∧ 0 ≤ r ∧ r ≤ 100000 ∧ ∀ p H', Same H H' → StAt K H' p (chS k w a qq r) → Q (.ref p) H'
theorem scRoun : FnScope ["row", "a", "q", "r"] ["row", "a", "q", "r"] (defScope f_roundel) := ⟨rfl, rfl, rfl, by decide +kernel, rfl, by decide +kernel, by decide +kernel⟩
theorem ok_roun (S : Src K mg "roundel" f_roundel ["row", "a", "q", "r"]) (T : RwC K CW) (Db : DBsd P w K mg base CW) (Dr : DRoot P w K mg base) : Def P w K mg base CX0 3 "roundel" ["row", "a", "q", "r"] (spC K CW .roundel) := by
  refine S.def fun f fd F => F.ok scRoun (fun vs H Q E h => ?_) fun cdv A outer s H vs Q E hr h => ?_
  · obtain ⟨pr, w, h, y, a, qq, r, rfl, _⟩ := h
    rfl
  obtain ⟨pr, w, h, y, a, qq, r, rfl, hR, hw, a0, a1, ⟨q0, q1⟩, r0, r1, q⟩ := h
  have hr1 : Room 1 _ := hr.mono (by decide)
  refine ⟨_, pss_one (ps_ret (pe_lst (pa_cons (pe_callD Db hr rfl pass0 (pa_cons (pv 0) (pa_cons (pv 1) (pa_cons pe_int (pa_cons (pe_callD Dr hr1 rfl pass0 (pa_cons (pe_op op_sub (pe_op op_mul (pv 3) (pv 3)) (pe_op op_mul (pv 2) (pv 2))) (pa_cons (pv 3) pa_nil))) pa_nil))))) pa_nil))), ?_⟩
  have := sq_nonneg qq
  repeat first|refine ⟨_,rfl,?_⟩|refine ⟨_,_,_,_,_,rfl,‹_›,T.cl,by first|exact T.nw|exact T.nh|exact T.ny|exact T.nv,by first|exact rw_w _ _ _|exact rw_h _ _ _|exact rw_y _ _ _|exact rw_v _ _ _,?_⟩|refine ⟨_,_,rfl,rfl,by first|exact .inl ⟨by omega,by omega⟩|exact .inr ⟨by omega,by omega⟩|exact ⟨by omega,by omega⟩,?_⟩|refine ⟨_,_,rfl,rfl,?_⟩|refine ⟨_,_,rfl,?_⟩
  refine ⟨r0, r1, by omega, ?_⟩
  refine ⟨pr, w, h, y, _, _, _, rfl, hR, hw, a0, a1, by decide, by decide, fun t H1 s1 h1 => ?_⟩
  exact one_st h1 fun p H2 s2 h2 => q p H2 (same_trans s1 s2) h2
theorem scAnnu : FnScope ["row", "a", "q", "r", "outer", "inner"] ["row", "a", "q", "r"] (defScope f_annulet) := ⟨rfl, rfl, rfl, by decide +kernel, rfl, by decide +kernel, by decide +kernel⟩
theorem ok_annu (S : Src K mg "annulet" f_annulet ["row", "a", "q", "r"]) (T : RwC K CW) (Db : DBsd P w K mg base CW) (Dr : DRoot P w K mg base) (Da : DArnd P w K mg base) : Def P w K mg base CX0 3 "annulet" ["row", "a", "q", "r"] (spC K CW .annulet) := by
  refine S.def fun f fd F => F.ok scAnnu (fun vs H Q E h => ?_) fun cdv A outer s H vs Q E hr h => ?_
  · obtain ⟨pr, w, h, y, a, qq, r, rfl, _⟩ := h
    rfl
  obtain ⟨pr, w, h, y, a, qq, r, rfl, hR, hw, a0, a1, ⟨q0, q1⟩, r0, r1, q⟩ := h
  have hr1 : Room 1 _ := hr.mono (by decide)
  refine ⟨_, pss_cons (ps_set (i := 4) scAnnu.nd rfl (Or.inl rfl) (pe_callD Db hr rfl pass0 (pa_cons (pv 0) (pa_cons (pv 1) (pa_cons pe_int (pa_cons (pe_callD Dr hr1 rfl pass0 (pa_cons (pe_op op_sub (pe_op op_mul (pv 3) (pv 3)) (pe_op op_mul (pv 2) (pv 2))) (pa_cons (pv 3) pa_nil))) pa_nil))))))
    (pss_cons (ps_set (i := 5) scAnnu.nd rfl (Or.inl rfl) (pe_callD Db hr rfl pass0 (pa_cons (pv 0) (pa_cons (pv 1) (pa_cons pe_int (pa_cons (pe_callD Dr hr1 rfl pass0 (pa_cons (pe_op op_sub (pe_op op_sub (pe_op op_mul (pv 3) (pv 3)) (pe_op op_mul (pe_op op_mul pe_int (pv 2)) (pv 2))) pe_int) (pa_cons (pv 3) pa_nil))) pa_nil))))))
    (pss_one (ps_ret (pe_callD Da hr1 rfl pass0 (pa_cons (pv 4) (pa_cons (pv 5) pa_nil)))))), ?_⟩
  have := sq_nonneg qq
  have e4 : 4 * qq * qq = 4 * (qq * qq) := by grind
  repeat first|refine ⟨_,rfl,?_⟩|refine ⟨_,_,_,_,_,rfl,‹_›,T.cl,by first|exact T.nw|exact T.nh|exact T.ny|exact T.nv,by first|exact rw_w _ _ _|exact rw_h _ _ _|exact rw_y _ _ _|exact rw_v _ _ _,?_⟩|refine ⟨_,_,rfl,rfl,by first|exact .inl ⟨by omega,by omega⟩|exact .inr ⟨by omega,by omega⟩|exact ⟨by omega,by omega⟩,?_⟩|refine ⟨_,_,rfl,rfl,?_⟩|refine ⟨_,_,rfl,?_⟩
  refine ⟨r0, r1, by omega, ?_⟩
  refine ⟨pr, w, h, y, _, _, _, rfl, hR, hw, a0, a1, by decide, by decide, fun t1 H1 s1 h1 => ?_⟩
  repeat first|refine ⟨_,rfl,?_⟩|refine ⟨_,_,_,_,_,rfl,‹_›,T.cl,by first|exact T.nw|exact T.nh|exact T.ny|exact T.nv,by first|exact rw_w _ _ _|exact rw_h _ _ _|exact rw_y _ _ _|exact rw_v _ _ _,?_⟩|refine ⟨_,_,rfl,rfl,by first|exact .inl ⟨by omega,by omega⟩|exact .inr ⟨by omega,by omega⟩|exact ⟨by omega,by omega⟩,?_⟩|refine ⟨_,_,rfl,rfl,?_⟩|refine ⟨_,_,rfl,?_⟩
  refine ⟨r0, r1, by rw [e4]; omega, ?_⟩
  refine ⟨pr, w, h, y, _, _, _, rfl, hR.same s1, hw, a0, a1, by decide, by decide, fun t2 H2 s2 h2 => ?_⟩
  refine ⟨_, rfl, _, rfl, t1, t2, _, _, rfl, sqT_same s2 h1, h2, fun p H3 s3 h3 => ?_⟩
  exact q p H3 (same_trans s1 (same_trans s2 s3)) h3
theorem scLoze : FnScope ["row", "a", "q", "r"] ["row", "a", "q", "r"] (defScope f_lozenge) := ⟨rfl, rfl, rfl, by decide +kernel, rfl, by decide +kernel, by decide +kernel⟩
theorem ok_loze (S : Src K mg "lozenge" f_lozenge ["row", "a", "q", "r"]) (T : RwC K CW) (Db : DBsd P w K mg base CW) (ma : mg "abs" = none) : Def P w K mg base CX0 3 "lozenge" ["row", "a", "q", "r"] (spC K CW .lozenge) := by
  refine S.def fun f fd F => F.ok scLoze (fun vs H Q E h => ?_) fun cdv A outer s H vs Q E hr h => ?_
  · obtain ⟨pr, w, h, y, a, qq, r, rfl, _⟩ := h
    rfl
  obtain ⟨pr, w, h, y, a, qq, r, rfl, hR, hw, a0, a1, ⟨q0, q1⟩, r0, r1, q⟩ := h
  refine ⟨_, pss_one (ps_ret (pe_lst (pa_cons (pe_callD Db hr rfl pass0 (pa_cons (pv 0) (pa_cons (pv 1) (pa_cons pe_int (pa_cons (pe_op op_sub (pe_op op_mul pe_int (pv 3)) (pe_op op_mul pe_int (pe_callB call_abs rfl ma PyProof.Rows.boot_abs (pa_cons (pv 2) pa_nil)))) pa_nil))))) pa_nil))), ?_⟩
  repeat first|refine ⟨_,rfl,?_⟩|refine ⟨_,_,_,_,_,rfl,‹_›,T.cl,by first|exact T.nw|exact T.nh|exact T.ny|exact T.nv,by first|exact rw_w _ _ _|exact rw_h _ _ _|exact rw_y _ _ _|exact rw_v _ _ _,?_⟩|refine ⟨_,_,rfl,rfl,by first|exact .inl ⟨by omega,by omega⟩|exact .inr ⟨by omega,by omega⟩|exact ⟨by omega,by omega⟩,?_⟩|refine ⟨_,_,rfl,rfl,?_⟩|refine ⟨_,_,rfl,?_⟩
  refine ⟨pr, w, h, y, _, _, _, rfl, hR, hw, a0, a1, by decide, by decide, fun t H1 s1 h1 => ?_⟩
  exact one_st h1 fun p H2 s2 h2 => q p H2 (same_trans s1 s2) h2
theorem scBill : FnScope ["row", "a", "q", "r"] ["row", "a", "q", "r"] (defScope f_billet) := ⟨rfl, rfl, rfl, by decide +kernel, rfl, by decide +kernel, by decide +kernel⟩
theorem ok_bill (S : Src K mg "billet" f_billet ["row", "a", "q", "r"]) (T : RwC K CW) (Db : DBsd P w K mg base CW) (ma : mg "abs" = none) : Def P w K mg base CX0 3 "billet" ["row", "a", "q", "r"] (spC K CW .billet) := by
  refine S.def fun f fd F => F.ok scBill (fun vs H Q E h => ?_) fun cdv A outer s H vs Q E hr h => ?_
  · obtain ⟨pr, w, h, y, a, qq, r, rfl, _⟩ := h
    rfl
  obtain ⟨pr, w, h, y, a, qq, r, rfl, hR, hw, a0, a1, ⟨q0, q1⟩, r0, r1, q⟩ := h
  refine ⟨_, pss_one (ps_ret (pe_ifExp (pt_cmpR op_le (pe_callB call_abs rfl ma PyProof.Rows.boot_abs (pa_cons (pv 2) pa_nil)) (pv 3) (nomark _)) (pe_lst (pa_cons (pe_callD Db hr rfl pass0 (pa_cons (pv 0) (pa_cons (pv 1) (pa_cons pe_int (pa_cons (pv 3) pa_nil))))) pa_nil)) (pe_lst pa_nil))), ?_⟩
  have key : ∀ z, chS .billet w a qq r = z → (∀ p H', Same H H' → StAt K H' p z → Q (.ref p) H') := fun z e => by rw [← e]; exact q
  repeat first|refine ⟨_,rfl,?_⟩|refine ⟨_,_,_,_,_,rfl,‹_›,T.cl,by first|exact T.nw|exact T.nh|exact T.ny|exact T.nv,by first|exact rw_w _ _ _|exact rw_h _ _ _|exact rw_y _ _ _|exact rw_v _ _ _,?_⟩|refine ⟨_,_,rfl,rfl,by first|exact .inl ⟨by omega,by omega⟩|exact .inr ⟨by omega,by omega⟩|exact ⟨by omega,by omega⟩,?_⟩|refine ⟨_,_,rfl,rfl,?_⟩|refine ⟨_,_,rfl,?_⟩
  refine ite2 (fun z => ?_) fun z => ?_
  · have z' : absI qq ≤ r := of_decide_eq_true z
    repeat first|refine ⟨_,rfl,?_⟩|refine ⟨_,_,_,_,_,rfl,‹_›,T.cl,by first|exact T.nw|exact T.nh|exact T.ny|exact T.nv,by first|exact rw_w _ _ _|exact rw_h _ _ _|exact rw_y _ _ _|exact rw_v _ _ _,?_⟩|refine ⟨_,_,rfl,rfl,by first|exact .inl ⟨by omega,by omega⟩|exact .inr ⟨by omega,by omega⟩|exact ⟨by omega,by omega⟩,?_⟩|refine ⟨_,_,rfl,rfl,?_⟩|refine ⟨_,_,rfl,?_⟩
    refine ⟨pr, w, h, y, _, _, _, rfl, hR, hw, a0, a1, by decide, by decide, fun t H1 s1 h1 => ?_⟩
    exact one_st h1 fun p H2 s2 h2 => key _ (if_pos z') p H2 (same_trans s1 s2) h2
  · have z' : ¬ absI qq ≤ r := of_decide_eq_false (Bool.eq_false_iff.mpr z)
    exact ⟨by show 0 ≤ sizeLine; exact Nat.zero_le _, fun p hp => key _ (if_neg z') p _ (Same.new hp _) ⟨[], upd_same, .nil⟩⟩
theorem scDelf : FnScope ["row", "a", "q", "r"] ["row", "a", "q", "r"] (defScope f_delf) := ⟨rfl, rfl, rfl, by decide +kernel, rfl, by decide +kernel, by decide +kernel⟩
theorem ok_delf (S : Src K mg "delf" f_delf ["row", "a", "q", "r"]) (T : RwC K CW) (Db : DBsd P w K mg base CW) (ma : mg "abs" = none) : Def P w K mg base CX0 3 "delf" ["row", "a", "q", "r"] (spC K CW .delf) := by
  refine S.def fun f fd F => F.ok scDelf (fun vs H Q E h => ?_) fun cdv A outer s H vs Q E hr h => ?_
  · obtain ⟨pr, w, h, y, a, qq, r, rfl, _⟩ := h
    rfl
  obtain ⟨pr, w, h, y, a, qq, r, rfl, hR, hw, a0, a1, ⟨q0, q1⟩, r0, r1, q⟩ := h
  refine ⟨_, pss_one (ps_ret (pe_ifExp (pt_cmpR op_le (pe_callB call_abs rfl ma PyProof.Rows.boot_abs (pa_cons (pv 2) pa_nil)) (pv 3) (nomark _)) (pe_lst (pa_cons (pe_callD Db hr rfl pass0 (pa_cons (pv 0) (pa_cons (pv 1) (pa_cons pe_int (pa_cons (pv 3) pa_nil))))) pa_nil)) (pe_lst pa_nil))), ?_⟩
  have key : ∀ z, chS .delf w a qq r = z → (∀ p H', Same H H' → StAt K H' p z → Q (.ref p) H') := fun z e => by rw [← e]; exact q
  repeat first|refine ⟨_,rfl,?_⟩|refine ⟨_,_,_,_,_,rfl,‹_›,T.cl,by first|exact T.nw|exact T.nh|exact T.ny|exact T.nv,by first|exact rw_w _ _ _|exact rw_h _ _ _|exact rw_y _ _ _|exact rw_v _ _ _,?_⟩|refine ⟨_,_,rfl,rfl,by first|exact .inl ⟨by omega,by omega⟩|exact .inr ⟨by omega,by omega⟩|exact ⟨by omega,by omega⟩,?_⟩|refine ⟨_,_,rfl,rfl,?_⟩|refine ⟨_,_,rfl,?_⟩
  refine ite2 (fun z => ?_) fun z => ?_
  · have z' : absI qq ≤ r := of_decide_eq_true z
    repeat first|refine ⟨_,rfl,?_⟩|refine ⟨_,_,_,_,_,rfl,‹_›,T.cl,by first|exact T.nw|exact T.nh|exact T.ny|exact T.nv,by first|exact rw_w _ _ _|exact rw_h _ _ _|exact rw_y _ _ _|exact rw_v _ _ _,?_⟩|refine ⟨_,_,rfl,rfl,by first|exact .inl ⟨by omega,by omega⟩|exact .inr ⟨by omega,by omega⟩|exact ⟨by omega,by omega⟩,?_⟩|refine ⟨_,_,rfl,rfl,?_⟩|refine ⟨_,_,rfl,?_⟩
    refine ⟨pr, w, h, y, _, _, _, rfl, hR, hw, a0, a1, by decide, by decide, fun t H1 s1 h1 => ?_⟩
    exact one_st h1 fun p H2 s2 h2 => key _ (if_pos z') p H2 (same_trans s1 s2) h2
  · have z' : ¬ absI qq ≤ r := of_decide_eq_false (Bool.eq_false_iff.mpr z)
    exact ⟨by show 0 ≤ sizeLine; exact Nat.zero_le _, fun p hp => key _ (if_neg z') p _ (Same.new hp _) ⟨[], upd_same, .nil⟩⟩
theorem scCros : FnScope ["row", "a", "q", "r"] ["row", "a", "q", "r"] (defScope f_crosslet) := ⟨rfl, rfl, rfl, by decide +kernel, rfl, by decide +kernel, by decide +kernel⟩
theorem ok_cros (S : Src K mg "crosslet" f_crosslet ["row", "a", "q", "r"]) (T : RwC K CW) (Db : DBsd P w K mg base CW) (ma : mg "abs" = none) : Def P w K mg base CX0 3 "crosslet" ["row", "a", "q", "r"] (spC K CW .crosslet) := by
  refine S.def fun f fd F => F.ok scCros (fun vs H Q E h => ?_) fun cdv A outer s H vs Q E hr h => ?_
  · obtain ⟨pr, w, h, y, a, qq, r, rfl, _⟩ := h
    rfl
  obtain ⟨pr, w, h, y, a, qq, r, rfl, hR, hw, a0, a1, ⟨q0, q1⟩, r0, r1, q⟩ := h
  refine ⟨_, pss_cons (ps_if (pt_cmpR op_le (pe_op op_mul pe_int (pe_callB call_abs rfl ma PyProof.Rows.boot_abs (pa_cons (pv 2) pa_nil))) (pv 3) (nomark _)) (pss_one (ps_ret (pe_lst (pa_cons (pe_callD Db hr rfl pass0 (pa_cons (pv 0) (pa_cons (pv 1) (pa_cons pe_int (pa_cons (pv 3) pa_nil))))) pa_nil)))) pss_nil)
    (pss_one (ps_ret (pe_ifExp (pt_cmpR op_le (pe_callB call_abs rfl ma PyProof.Rows.boot_abs (pa_cons (pv 2) pa_nil)) (pv 3) (nomark _)) (pe_lst (pa_cons (pe_callD Db hr rfl pass0 (pa_cons (pv 0) (pa_cons (pv 1) (pa_cons pe_int (pa_cons (pv 3) pa_nil))))) pa_nil)) (pe_lst pa_nil)))), ?_⟩
  have key : ∀ z, chS .crosslet w a qq r = z → (∀ p H', Same H H' → StAt K H' p z → Q (.ref p) H') := fun z e => by rw [← e]; exact q
  repeat first|refine ⟨_,rfl,?_⟩|refine ⟨_,_,_,_,_,rfl,‹_›,T.cl,by first|exact T.nw|exact T.nh|exact T.ny|exact T.nv,by first|exact rw_w _ _ _|exact rw_h _ _ _|exact rw_y _ _ _|exact rw_v _ _ _,?_⟩|refine ⟨_,_,rfl,rfl,by first|exact .inl ⟨by omega,by omega⟩|exact .inr ⟨by omega,by omega⟩|exact ⟨by omega,by omega⟩,?_⟩|refine ⟨_,_,rfl,rfl,?_⟩|refine ⟨_,_,rfl,?_⟩
  refine ite2 (fun z => ?_) fun z => ?_
  · have z' : 3 * absI qq ≤ r := of_decide_eq_true z
    repeat first|refine ⟨_,rfl,?_⟩|refine ⟨_,_,_,_,_,rfl,‹_›,T.cl,by first|exact T.nw|exact T.nh|exact T.ny|exact T.nv,by first|exact rw_w _ _ _|exact rw_h _ _ _|exact rw_y _ _ _|exact rw_v _ _ _,?_⟩|refine ⟨_,_,rfl,rfl,by first|exact .inl ⟨by omega,by omega⟩|exact .inr ⟨by omega,by omega⟩|exact ⟨by omega,by omega⟩,?_⟩|refine ⟨_,_,rfl,rfl,?_⟩|refine ⟨_,_,rfl,?_⟩
    refine ⟨pr, w, h, y, _, _, _, rfl, hR, hw, a0, a1, by decide, by decide, fun t H1 s1 h1 => ?_⟩
    exact one_st h1 fun p H2 s2 h2 => key _ (if_pos z') p H2 (same_trans s1 s2) h2
  have z' : ¬ 3 * absI qq ≤ r := of_decide_eq_false (Bool.eq_false_iff.mpr z)
  repeat first|refine ⟨_,rfl,?_⟩|refine ⟨_,_,_,_,_,rfl,‹_›,T.cl,by first|exact T.nw|exact T.nh|exact T.ny|exact T.nv,by first|exact rw_w _ _ _|exact rw_h _ _ _|exact rw_y _ _ _|exact rw_v _ _ _,?_⟩|refine ⟨_,_,rfl,rfl,by first|exact .inl ⟨by omega,by omega⟩|exact .inr ⟨by omega,by omega⟩|exact ⟨by omega,by omega⟩,?_⟩|refine ⟨_,_,rfl,rfl,?_⟩|refine ⟨_,_,rfl,?_⟩
  refine ite2 (fun x => ?_) fun x => ?_
  · have x' : absI qq ≤ r := of_decide_eq_true x
    repeat first|refine ⟨_,rfl,?_⟩|refine ⟨_,_,_,_,_,rfl,‹_›,T.cl,by first|exact T.nw|exact T.nh|exact T.ny|exact T.nv,by first|exact rw_w _ _ _|exact rw_h _ _ _|exact rw_y _ _ _|exact rw_v _ _ _,?_⟩|refine ⟨_,_,rfl,rfl,by first|exact .inl ⟨by omega,by omega⟩|exact .inr ⟨by omega,by omega⟩|exact ⟨by omega,by omega⟩,?_⟩|refine ⟨_,_,rfl,rfl,?_⟩|refine ⟨_,_,rfl,?_⟩
    refine ⟨pr, w, h, y, _, _, _, rfl, hR, hw, a0, a1, by decide, by decide, fun t H1 s1 h1 => ?_⟩
    exact one_st h1 fun p H2 s2 h2 => key _ ((if_neg z').trans (if_pos x')) p H2 (same_trans s1 s2) h2
  · have x' : ¬ absI qq ≤ r := of_decide_eq_false (Bool.eq_false_iff.mpr x)
    exact ⟨by show 0 ≤ sizeLine; exact Nat.zero_le _, fun p hp => key _ ((if_neg z').trans (if_neg x')) p _ (Same.new hp _) ⟨[], upd_same, .nil⟩⟩
/-! ### charge_stretches -/
structure ChgG (P : Program) (w : World) (K : PySem.W.Frag) (mg : Str → Option Value) : Prop where
  ex : ∃ D, RTabG P w K mg "COVERS_charges" D ∧ ∀ k, ∃ f, (D.find? fun p => p.1 = cName k).map (·.2) = some f ∧ mg (cName k) = some (.ref f)
theorem chgG_of {f1 f2 f3 f4 f5 f6 : Addr} (T : RTabG P w K mg "COVERS_charges" [("roundel", f1), ("annulet", f2), ("lozenge", f3), ("billet", f4), ("delf", f5), ("crosslet", f6)])
    (h1 : mg "roundel" = some (.ref f1)) (h2 : mg "annulet" = some (.ref f2)) (h3 : mg "lozenge" = some (.ref f3)) (h4 : mg "billet" = some (.ref f4)) (h5 : mg "delf" = some (.ref f5)) (h6 : mg "crosslet" = some (.ref f6)) : ChgG P w K mg :=
  ⟨_, T, fun o => by cases o <;> first | exact ⟨_, rfl, h1⟩ | exact ⟨_, rfl, h2⟩ | exact ⟨_, rfl, h3⟩ | exact ⟨_, rfl, h4⟩ | exact ⟨_, rfl, h5⟩ | exact ⟨_, rfl, h6⟩⟩
structure DChgs (P : Program) (w : World) (K : PySem.W.Frag) (mg : Str → Option Value) (base : Heap) (CW : Addr) : Prop where
  d : ∀ k, Def P w K mg base CX0 3 (cName k) ["row", "a", "q", "r"] (spC K CW k)
def spCS (K : PySem.W.Frag) (CW : Addr) : Sp := fun vs H Q _ => ∃ (k : Sa57.Charge) (n : Nat) (pr : Addr) (w h y : Nat), vs = [nV (cName k), .int (n : Nat), .ref pr] ∧ 1 ≤ n ∧ n ≤ 6 ∧ RowAt CW H pr w h y ∧ Sz w h y ∧ ∀ p H', Same H H' → StAt K H' p (chAll k n w h y) → Q (.ref p) H'
theorem scCS : FnScope ["kind", "number", "row", "r", "stretches", "a", "b", "q"] ["kind", "number", "row"] (defScope f_charge_stretches) := ⟨rfl, rfl, rfl, by decide +kernel, rfl, by decide +kernel, by decide +kernel⟩
abbrev DCS (P : Program) (w : World) (K : PySem.W.Frag) (mg : Str → Option Value) (base : Heap) (CW : Addr) : Prop := Def P w K mg base CX0 4 "charge_stretches" ["kind", "number", "row"] (spCS K CW)
theorem arnd_len (o i : Int × Int) : (arnd o i).length ≤ 2 := by unfold arnd; split <;> simp
theorem chS_len (k : Sa57.Charge) (w a q r : Int) : (chS k w a q r).length ≤ 2 := by
  cases k with
  | annulet => exact arnd_len _ _
  | roundel => simp [chS]
  | lozenge => simp [chS]
  | billet => simp only [chS]; split <;> simp
  | delf => simp only [chS]; split <;> simp
  | crosslet =>
    simp only [chS]
    split
    · simp
    · split <;> simp
theorem flat_len {α : Type} (f : α → List (Int × Int)) (h : ∀ a, (f a).length ≤ 2) : ∀ l : List α, (l.flatMap f).length ≤ 2 * l.length
  | [] => Nat.le_refl _
  | a :: l => by
    have := flat_len f h l
    have := h a
    rw [List.flatMap_cons, List.length_append, List.length_cons]
    omega
theorem places_len (n : Nat) : (Sa57.places n).1.length ≤ 6 := by
  unfold Sa57.places
  split <;> decide
theorem ok_CS (S : Src K mg "charge_stretches" f_charge_stretches ["kind", "number", "row"]) (T : RwC K CW) (GC : ChgG P w K mg) (GP : PlacesG P w K mg) (GS : ITabG K mg "SIZES" tSIZES) (Dc : DChgs P w K mg base CW) : DCS P w K mg base CW := by
  refine S.def fun f fd F => F.ok scCS (fun vs H Q E h => ?_) fun cdv A outer s H vs Q E hr h => ?_
  · obtain ⟨k, n, pr, w, h, y, rfl, _⟩ := h
    rfl
  obtain ⟨k, n, pr, w, h, y, rfl, n0, n1, ⟨dx, hR⟩, ⟨z1, z2, z3⟩, q⟩ := h
  obtain ⟨D, TD, hC⟩ := GC.ex
  obtain ⟨aC, mC, TC⟩ := TD.ex
  obtain ⟨aP, DP, mP, TP, hP⟩ := GP.ex
  obtain ⟨aS, mS, eS⟩ := GS.ex
  obtain ⟨bP, rs, eP, tP, hrs⟩ := hP n n0 n1
  obtain ⟨fk, ek, mk⟩ := hC k
  obtain ⟨fk', fdk, mk', kp, hb, FK⟩ := (Dc.d k).ex
  obtain rfl : fk' = fk := by rw [mk] at mk'; cases mk'; rfl
  refine ⟨_, pss_cons (ps_set (i := 3) scCS.nd rfl (Or.inl rfl) (pe_op op_mul (pe_itabI eS (pe_gref rfl mS) (pv 1) (fun _ _ => rfl)) (pe_fld (pv 2) rfl)))
    (pss_cons (ps_set (i := 4) scCS.nd rfl (Or.inl rfl) (pe_lst pa_nil))
    (pss_cons (ps_for PassesOwn.never rfl (pi_tup (pe_itabR TP (pe_gref rfl mP) (pv 1) (fun _ _ => rfl))) (pg_tup rfl (pgs_cons (pg_name (i := 5) scCS.nd rfl (Or.inl rfl)) (pgs_cons (pg_name (i := 6) scCS.nd rfl (Or.inl rfl)) pgs_nil)))
      (pss_cons (ps_set (i := 7) scCS.nd rfl (Or.inl rfl) (pe_op op_sub (pe_op op_mul pe_int (pe_op op_add (pe_op op_mul pe_int (pe_fld (pv 2) rfl)) pe_int)) (pe_op op_mul (pe_op op_mul pe_int (pv 6)) (pe_fld (pv 2) rfl))))
      (pss_one (ps_expr (pe_bm PySem.F.plainAttrs_list PySem.F.slot_list_extend PySem.F.type_list_extend mt_extend (pv 4) (pa_cons (pe_callX (pe_rtab TC (pe_gref rfl mC) (pv 0) (fun _ _ => rfl)) hr pass0 (pa_cons (pv 2) (pa_cons (pv 5) (pa_cons (pv 7) (pa_cons (pv 3) pa_nil))))) pa_nil))))))
    (pss_one (ps_ret (pv 4))))), ?_⟩
  have hsz := places_sz n
  have hsp := places_pos n
  generalize hS : (Sa57.places n).2 = sz at *
  refine ⟨_, rfl, _, sz, rfl, rfl, by rw [sizes_at n n0 n1, hS], ?_⟩
  repeat first|refine ⟨_,rfl,?_⟩|refine ⟨_,_,_,_,_,rfl,‹_›,T.cl,by first|exact T.nw|exact T.nh|exact T.ny|exact T.nv,by first|exact rw_w _ _ _|exact rw_h _ _ _|exact rw_y _ _ _|exact rw_v _ _ _,?_⟩|refine ⟨_,_,rfl,rfl,by first|exact .inl ⟨by omega,by omega⟩|exact .inr ⟨by omega,by omega⟩|exact ⟨by omega,by omega⟩,?_⟩|refine ⟨_,_,rfl,rfl,?_⟩|refine ⟨_,_,rfl,?_⟩
  refine ⟨by show 0 ≤ sizeLine; exact Nat.zero_le _, fun ps nps => ?_⟩
  have s0 := Same.new nps (.lst [])
  refine ⟨_, rfl, _, bP, rfl, rfl, eP, bP, rfl, ⟨_, tP.sq _⟩, ?_⟩
  have hlen : rs.length = (Sa57.places n).1.length := paired_len hrs
  have hrw : sz * (w : Int) ≤ 6 * 1024 := Int.mul_le_mul hsz (by omega) (by omega) (by decide)
  have hrw0 : 0 ≤ sz * (w : Int) := Int.mul_nonneg hsp (by omega)
  generalize hg : (fun ab : Int × Int => chS k w ab.1 (12 * (2 * (y : Int) + 1) - 2 * ab.2 * (h : Int)) (sz * (w : Int))) = g at *
  have hg2 : ∀ ab : Int × Int, g ab = chS k w ab.1 (12 * (2 * (y : Int) + 1) - 2 * ab.2 * (h : Int)) (sz * (w : Int)) := fun ab => by rw [← hg]
  have hq : chAll k n w h y = (Sa57.places n).1.flatMap g := by
    unfold chAll
    rw [hS, ← hg]
  refine for_tup (xs := rs.map V.ref) (fun i σ H2 => ∃ v5 v6 v7, σ = [some (nV (cName k)), some (.int (n : Nat)), some (.ref pr), some (.int (sz * (w : Int))), some (.ref ps), v5, v6, v7] ∧ Same H H2 ∧ StAt K H2 ps (((Sa57.places n).1.take i).flatMap g)) ?_ ?_ ?_ ?_
  · exact ⟨_, _, _, rfl, s0, [], upd_same, .nil⟩
  · rintro i σ H2 hi ⟨v5, v6, v7, rfl, s2, h2⟩
    exact tP.sq _
  · rintro i x σ H2 hx ⟨v5, v6, v7, rfl, s2, ⟨ps2, e2, hP2⟩⟩
    have hi : i < rs.length := by
      have := (List.getElem?_eq_some_iff.mp hx).1
      rwa [List.length_map] at this
    rw [List.getElem?_map, List.getElem?_eq_getElem hi] at hx
    obtain rfl := (Option.some.inj hx).symm
    obtain ⟨ab, he, hst⟩ := paired_get hrs (List.getElem?_eq_getElem hi)
    have hmem : ab ∈ (Sa57.places n).1 := List.mem_of_getElem? he
    obtain ⟨b1, b2, b3, b4⟩ := places_ab n ab hmem
    have ht : (Sa57.places n).1.take (i + 1) = (Sa57.places n).1.take i ++ [ab] := take_snoc he
    have hR2 := s2 _ _ hR
    have hbh : ab.2 * (h : Int) ≤ 12 * 1024 := Int.mul_le_mul b4 (by omega) (by omega) (by decide)
    have hbh0 : 0 ≤ ab.2 * (h : Int) := Int.mul_nonneg b3 (by omega)
    have e2b : 2 * ab.2 * (h : Int) = 2 * (ab.2 * (h : Int)) := by grind
    refine ⟨rs[i], _, rfl, hst.sq _, rfl, _, _, rfl, _, _, rfl, rfl, ?_⟩
    repeat first|refine ⟨_,rfl,?_⟩|refine ⟨_,_,_,_,_,rfl,‹_›,T.cl,by first|exact T.nw|exact T.nh|exact T.ny|exact T.nv,by first|exact rw_w _ _ _|exact rw_h _ _ _|exact rw_y _ _ _|exact rw_v _ _ _,?_⟩|refine ⟨_,_,rfl,rfl,by first|exact .inl ⟨by omega,by omega⟩|exact .inr ⟨by omega,by omega⟩|exact ⟨by omega,by omega⟩,?_⟩|refine ⟨_,_,rfl,rfl,?_⟩|refine ⟨_,_,rfl,?_⟩
    refine ⟨.inl ⟨rfl, _, SqL.of e2⟩, ?_⟩
    refine ⟨_, rfl, _, fk', rfl, rfl, by rw [rAt_names]; exact ek, fk', rfl, kp, ?_⟩
    repeat first|refine ⟨_,rfl,?_⟩|refine ⟨_,_,_,_,_,rfl,‹_›,T.cl,by first|exact T.nw|exact T.nh|exact T.ny|exact T.nv,by first|exact rw_w _ _ _|exact rw_h _ _ _|exact rw_y _ _ _|exact rw_v _ _ _,?_⟩|refine ⟨_,_,rfl,rfl,by first|exact .inl ⟨by omega,by omega⟩|exact .inr ⟨by omega,by omega⟩|exact ⟨by omega,by omega⟩,?_⟩|refine ⟨_,_,rfl,rfl,?_⟩|refine ⟨_,_,rfl,?_⟩
    refine ⟨fdk, _, _, hb, FK, pr, w, h, y, _, _, _, rfl, ⟨_, hR2⟩, z1, b1, b2, ⟨by rw [e2b]; omega, by rw [e2b]; omega⟩, hrw0, by omega, fun p H3 s3 h3 => ?_⟩
    obtain ⟨ps3, e3, hP3⟩ := h3
    have l1 := flat_len g (fun a => by rw [hg2]; exact chS_len ..) ((Sa57.places n).1.take i)
    have l2 := chS_len k w ab.1 (12 * (2 * (y : Int) + 1) - 2 * ab.2 * (h : Int)) (sz * (w : Int))
    have l3 := places_len n
    have l4 := paired_len hP2
    have l5 := paired_len hP3
    rw [List.length_take] at l1
    refine ⟨ps, p, _, _, rfl, rfl, s3 _ _ e2, e3, ?_, ?_⟩
    · rw [List.length_map, List.length_map, l4, l5]
      exact le1000 (by omega)
    · have nH3 : Same H (upd H3 ps (.lst (ps2.map V.ref ++ ps3.map V.ref))) := same_new (same_trans s2 s3) nps _
      refine ⟨_, _, _, rfl, nH3, ps2 ++ ps3, by rw [upd_same, List.map_append], ?_⟩
      have key : ∀ {r : Addr} {xs : List V}, SqT K H3 r xs → SqT K (upd H3 ps (.lst (ps2.map V.ref ++ ps3.map V.ref))) r xs := by
        intro r xs hh
        rcases hh with (hh | ⟨o, hh⟩) | hh
        · exact .inl (.inl (by rw [upd_ne (ne_of hh (s3 _ _ e2) (by intro z; cases z))]; exact hh))
        · exact .inl (.inr ⟨o, by rw [upd_ne (ne_of hh (s3 _ _ e2) (by intro z; cases z))]; exact hh⟩)
        · exact .inr hh
      rw [ht, List.flatMap_append]
      refine paired_app (Paired.mapP hP2 fun _ _ z => key (sqT_same s3 z)) ?_
      rw [List.flatMap_cons, List.flatMap_nil, List.append_nil, hg2]
      exact Paired.mapP hP3 fun _ _ z => key z
  · rintro σ H2 ⟨v5, v6, v7, rfl, s2, h2⟩
    rw [List.length_map, hlen, List.take_length, ← hq] at h2
    exact ⟨_, rfl, q ps H2 s2 h2⟩
end
end A57

namespace L2
open PySem
theorem lc_mapL {K : PySem.W.Frag} {a : Addr} {xs ys : List V} {g : TG} {te : TE} {vs : List Nat} {σ : St} {H1 : Hp} {D : Addr} {Qd : Hp → Prop} (ha : H1 a = some (.lst xs)) (hD : H1 D = none) (hlen : ys.length = xs.length) (hn : xs.length ≤ sizeLine)
    (hturn : ∀ (i : Nat) (x y : V) (H : Hp), xs[i]? = some x → ys[i]? = some y → Same H1 H → ∀ N : VK, (∀ H4, Same H H4 → N y H4) → g x (wipe σ vs) H fun σ2 H2 => wipe σ2 vs = wipe σ vs ∧ te σ2 H2 N)
    (hd : ∀ H, Same H1 H → H D = some (.lst ys) → Qd H) :
    ∃ W : Nat → Nat → Hp → Prop, (∃ m, W 0 m (upd H1 D (.lst []))) ∧ ∀ i m H, W i m H →
      ((Itl K a).stop i H ∧ Qd H) ∨ ((Itl K a).go i H ∧ ∃ Nx : Hp → Prop, (∀ H', Nx H' → ∃ m', m' < m ∧ W (i + 1) m' H') ∧ ∀ x H', (Itl K a).yld i H x H' → g x (wipe σ vs) H' fun σ2 H2 => wipe σ2 vs = wipe σ vs ∧ tYes σ2 H2 fun b H3 =>
        if b = true then te σ2 H3 fun y H4 => ∃ acc, H4 D = some (.lst acc) ∧ acc.length < sizeLine ∧ Nx (upd H4 D (.lst (acc ++ [y]))) else Nx H3) := by
  refine lc_gen hD hlen hn (fun H s => ⟨xs, SqL.of (s _ _ ha), Nat.le_refl _⟩) (fun i H hi s => ⟨xs, xs[i], SqL.of (s _ _ ha), by simp [hi]⟩) (fun i H x H' y hy s hDl yl N hN => ?_) hd
  obtain ⟨e, hx⟩ := yl
  subst e
  exact hturn i x y _ (hx xs (SqL.of (s _ _ ha))) hy s N fun H4 s4 => hN H4 (s4 _ _ hDl) fun b o e => s4 b o (s b o e)
theorem lc_mapR {n : Nat} {ys : List V} {g : TG} {te : TE} {vs : List Nat} {σ : St} {H1 : Hp} {D : Addr} {Qd : Hp → Prop} (hD : H1 D = none) (hlen : ys.length = n) (hn : n ≤ sizeLine)
    (hturn : ∀ (i : Nat) (y : V) (H : Hp), i < n → ys[i]? = some y → Same H1 H → ∀ N : VK, (∀ H4, Same H H4 → N y H4) → g (.int (0 + (i : Nat))) (wipe σ vs) H fun σ2 H2 => wipe σ2 vs = wipe σ vs ∧ te σ2 H2 N)
    (hd : ∀ H, Same H1 H → H D = some (.lst ys) → Qd H) :
    ∃ W : Nat → Nat → Hp → Prop, (∃ m, W 0 m (upd H1 D (.lst []))) ∧ ∀ i m H, W i m H →
      ((Itr 0 n).stop i H ∧ Qd H) ∨ ((Itr 0 n).go i H ∧ ∃ Nx : Hp → Prop, (∀ H', Nx H' → ∃ m', m' < m ∧ W (i + 1) m' H') ∧ ∀ x H', (Itr 0 n).yld i H x H' → g x (wipe σ vs) H' fun σ2 H2 => wipe σ2 vs = wipe σ vs ∧ tYes σ2 H2 fun b H3 =>
        if b = true then te σ2 H3 fun y H4 => ∃ acc, H4 D = some (.lst acc) ∧ acc.length < sizeLine ∧ Nx (upd H4 D (.lst (acc ++ [y]))) else Nx H3) := by
  refine lc_gen hD hlen hn (fun H s => Nat.le_refl _) (fun i H hi s => hi) (fun i H x H' y hy s hDl yl N hN => ?_) hd
  obtain ⟨e, rfl⟩ := yl
  subst e
  have hi : i < n := by
    have := (List.getElem?_eq_some_iff.mp hy).1
    omega
  exact hturn i y _ hi hy s N fun H4 s4 => hN H4 (s4 _ _ hDl) fun b o e => s4 b o (s b o e)
theorem lc_mapZ {K : PySem.W.Frag} {a b : Addr} {n : Nat} {xs zs ys : List V} {g : TG} {te : TE} {vs : List Nat} {σ : St} {H1 : Hp} {D : Addr} {Qd : Hp → Prop} (ha : H1 a = some (.lst xs)) (hb : H1 b = some (.lst zs)) (hD : H1 D = none) (hx : xs.length = n) (hz : zs.length = n) (hlen : ys.length = n) (hn : n ≤ sizeLine)
    (hturn : ∀ (i : Nat) (x z y : V) (T : Addr) (H : Hp), xs[i]? = some x → zs[i]? = some z → ys[i]? = some y → Same H1 H → H T = some (.tup [x, z]) → ∀ N : VK, (∀ H4, Same H H4 → N y H4) → g (.ref T) (wipe σ vs) H fun σ2 H2 => wipe σ2 vs = wipe σ vs ∧ te σ2 H2 N)
    (hd : ∀ H, Same H1 H → H D = some (.lst ys) → Qd H) :
    ∃ W : Nat → Nat → Hp → Prop, (∃ m, W 0 m (upd H1 D (.lst []))) ∧ ∀ i m H, W i m H →
      ((Itz K a b).stop i H ∧ Qd H) ∨ ((Itz K a b).go i H ∧ ∃ Nx : Hp → Prop, (∀ H', Nx H' → ∃ m', m' < m ∧ W (i + 1) m' H') ∧ ∀ x H', (Itz K a b).yld i H x H' → g x (wipe σ vs) H' fun σ2 H2 => wipe σ2 vs = wipe σ vs ∧ tYes σ2 H2 fun b H3 =>
        if b = true then te σ2 H3 fun y H4 => ∃ acc, H4 D = some (.lst acc) ∧ acc.length < sizeLine ∧ Nx (upd H4 D (.lst (acc ++ [y]))) else Nx H3) := by
  refine lc_gen hD hlen hn (fun H s => ⟨xs, zs, SqL.of (s _ _ ha), SqL.of (s _ _ hb), .inl (by omega)⟩) (fun i H hi s => ⟨xs, zs, xs[i]'(by omega), zs[i]'(by omega), SqL.of (s _ _ ha), SqL.of (s _ _ hb), List.getElem?_eq_getElem _, List.getElem?_eq_getElem _⟩) (fun i H x H' y hy s hDl yl N hN => ?_) hd
  obtain ⟨T, x', z', rfl, hT, rfl, hx', hz'⟩ := yl
  have sT : Same H (upd H T (.tup [x', z'])) := fun b o e => by rw [upd_ne (ne_of_none e hT)]; exact e
  exact hturn i x' z' y T _ (hx' xs (SqL.of (s _ _ ha))) (hz' zs (SqL.of (s _ _ hb))) hy (fun b o e => sT b o (s b o e)) upd_same N fun H4 s4 => hN H4 (s4 _ _ (sT _ _ hDl)) fun b o e => s4 b o (sT b o (s b o e))
end L2
namespace A57
open PySem L2
open Sa57 (Bytes ascii Read)
theorem map_at {α : Type} {w i : Nat} {f : Nat → α} {x : α} (h : ((List.range w).map f)[i]? = some x) : i < w ∧ x = f i := by
  obtain ⟨h1, h2⟩ := List.getElem?_eq_some_iff.mp h
  simp only [List.length_map, List.length_range] at h1
  simp only [List.getElem_map, List.getElem_range] at h2
  exact ⟨h1, h2.symm⟩
theorem rng_len {α : Type} (w : Nat) (f : Nat → α) : ((List.range w).map f).length = w := by simp
theorem sz1024 {n : Nat} (h : n ≤ 1024) : n ≤ sizeLine := by rw [sizeLine_eq]; omega
/-! ### lists written -/
theorem rep_flat (v : V) : ∀ n : Nat, (List.replicate n [v]).flatten = List.replicate n v
  | 0 => rfl
  | n + 1 => by rw [List.replicate_succ, List.replicate_succ, List.flatten_cons, rep_flat v n]; rfl
/-! ### furs -/
def e8 (t y : Int) : List Int := if t = 8 ∧ (y % 8 = 3 ∨ y % 8 = 4) then [2, 2, 2, 5, 2, 2, 2, 2] else if t = 8 then [2, 2, 2, 2, 2, 2, 2, 2] else if t = 9 ∧ y / 4 % 2 = 1 then [4, 4, 4, 4, 2, 2, 2, 2] else if t = 9 then [2, 2, 2, 2, 4, 4, 4, 4] else [t, t, t, t, t, t, t, t]
theorem flat_get {α : Type} (l : List α) (h : 0 < l.length) : ∀ (k x : Nat), x < k * l.length → (List.replicate k l).flatten[x]? = l[x % l.length]?
  | 0, x, hx => by omega
  | k + 1, x, hx => by
    rw [List.replicate_succ, List.flatten_cons]
    by_cases hlt : x < l.length
    · rw [List.getElem?_append_left hlt, Nat.mod_eq_of_lt hlt]
    · rw [List.getElem?_append_right (by omega), flat_get l h k _ (by rw [Nat.succ_mul] at hx; omega)]
      congr 1
      exact (Nat.mod_eq_sub_mod (by omega)).symm
theorem e8_len (t y : Int) : (e8 t y).length = 8 := by
  unfold e8
  split
  · rfl
  · split
    · rfl
    · split
      · rfl
      · split <;> rfl
theorem e8_get (t w h y x : Nat) : (e8 t y)[x % 8]? = some ((Sa57.shade t (cl w h y x) : Nat) : Int) := by
  unfold e8 Sa57.shade cl
  dsimp only
  by_cases h8 : t = 8
  · subst h8
    rw [if_pos rfl]
    by_cases hy : ((y : Nat) : Int) % 8 = 3 ∨ ((y : Nat) : Int) % 8 = 4
    · rw [if_pos ⟨rfl, hy⟩]
      have : x % 8 = 0 ∨ x % 8 = 1 ∨ x % 8 = 2 ∨ x % 8 = 3 ∨ x % 8 = 4 ∨ x % 8 = 5 ∨ x % 8 = 6 ∨ x % 8 = 7 := by omega
      rcases this with z | z | z | z | z | z | z | z <;> rw [z]
      case inr.inr.inr.inl => rw [if_pos ⟨by omega, hy⟩]; rfl
      all_goals rw [if_neg (by omega)]; rfl
    · rw [if_neg (fun z => hy z.2), if_pos (show ((8 : Nat) : Int) = 8 from rfl), if_neg (fun z => hy z.2)]
      have : x % 8 = 0 ∨ x % 8 = 1 ∨ x % 8 = 2 ∨ x % 8 = 3 ∨ x % 8 = 4 ∨ x % 8 = 5 ∨ x % 8 = 6 ∨ x % 8 = 7 := by omega
      rcases this with z | z | z | z | z | z | z | z <;> rw [z] <;> rfl
  · rw [if_neg h8, if_neg (by intro z; exact h8 (by omega)), if_neg (by intro z; exact h8 (by omega))]
    by_cases h9 : t = 9
    · subst h9
      rw [if_pos rfl]
      have : x % 8 = 0 ∨ x % 8 = 1 ∨ x % 8 = 2 ∨ x % 8 = 3 ∨ x % 8 = 4 ∨ x % 8 = 5 ∨ x % 8 = 6 ∨ x % 8 = 7 := by omega
      by_cases hy : ((y : Nat) : Int) / 4 % 2 = 1
      · rw [if_pos ⟨rfl, hy⟩]
        rcases this with z | z | z | z | z | z | z | z <;> rw [z]
        · rw [if_pos (by omega)]; rfl
        · rw [if_pos (by omega)]; rfl
        · rw [if_pos (by omega)]; rfl
        · rw [if_pos (by omega)]; rfl
        · rw [if_neg (by omega)]; rfl
        · rw [if_neg (by omega)]; rfl
        · rw [if_neg (by omega)]; rfl
        · rw [if_neg (by omega)]; rfl
      · rw [if_neg (fun z => hy z.2), if_pos (show ((9 : Nat) : Int) = 9 from rfl)]
        rcases this with z | z | z | z | z | z | z | z <;> rw [z]
        · rw [if_neg (by omega)]; rfl
        · rw [if_neg (by omega)]; rfl
        · rw [if_neg (by omega)]; rfl
        · rw [if_neg (by omega)]; rfl
        · rw [if_pos (by omega)]; rfl
        · rw [if_pos (by omega)]; rfl
        · rw [if_pos (by omega)]; rfl
        · rw [if_pos (by omega)]; rfl
    · rw [if_neg h9, if_neg (by intro z; exact h9 (by omega)), if_neg (by intro z; exact h9 (by omega))]
      have : x % 8 = 0 ∨ x % 8 = 1 ∨ x % 8 = 2 ∨ x % 8 = 3 ∨ x % 8 = 4 ∨ x % 8 = 5 ∨ x % 8 = 6 ∨ x % 8 = 7 := by omega
      rcases this with z | z | z | z | z | z | z | z <;> rw [z] <;> rfl
/-- cells as values -/
def cV (l : List Nat) : List V := l.map fun (x : Nat) => V.int (x : Int)
theorem cV_len (l : List Nat) : (cV l).length = l.length := List.length_map _
theorem cells_eq (t w h y : Nat) : ((List.replicate (w / 8 + 1) ((e8 t y).map V.int)).flatten).take w = cV (shR t w h y) := by
  refine List.ext_getElem? fun x => ?_
  by_cases hx : x < w
  · have hl : ((e8 t y).map V.int).length = 8 := by rw [List.length_map, e8_len]
    rw [List.getElem?_take_of_lt hx, flat_get _ (by omega) _ _ (by rw [hl]; omega), hl, List.getElem?_map, e8_get t w h y x]
    unfold cV
    rw [List.getElem?_map, shR_get hx]
    rfl
  · rw [List.getElem?_eq_none (by rw [List.length_take]; omega), List.getElem?_eq_none (by rw [cV_len]; simp [shR]; omega)]
section
variable {P : Program} {w : World} {K : PySem.W.Frag} {mg : Str → Option Value} {base : Heap} {CW : Addr}
structure FurG (mg : Str → Option Value) : Prop where
  ar : IntG mg "ARGENT" 2
  az : IntG mg "AZURE" 4
  sa : IntG mg "SABLE" 5
  er : IntG mg "ERMINE" 8
  va : IntG mg "VAIR" 9
def spEight : Sp := fun vs H Q _ => ∃ t y : Int, vs = [.int t, .int y] ∧ ∀ p H', Same H H' → H' p = some (.lst ((e8 t y).map V.int)) → Q (.ref p) H'
theorem scEight : FnScope ["tincture", "y"] ["tincture", "y"] (defScope f_eight_cells) := ⟨rfl, rfl, rfl, by decide +kernel, rfl, by decide +kernel, by decide +kernel⟩
theorem int_dec (i j : Int) : decide (V.int i = V.int j) = decide (i = j) := by
  rw [decide_eq_decide]
  exact ⟨fun z => V.int.inj z, fun z => by rw [z]⟩
theorem in34 (z : Int) : inV (.int z) [.int 3, .int 4] = decide (z = 3 ∨ z = 4) := by
  show ((3 : Int) == z || ((4 : Int) == z || false)) = _
  rw [Bool.eq_iff_iff]
  simp only [Bool.or_eq_true, beq_iff_eq, Bool.or_false, decide_eq_true_eq]
  omega
abbrev DEight (P : Program) (w : World) (K : PySem.W.Frag) (mg : Str → Option Value) (base : Heap) : Prop := Def P w K mg base CX0 1 "eight_cells" ["tincture", "y"] spEight
theorem ok_eight (S : Src K mg "eight_cells" f_eight_cells ["tincture", "y"]) (G : FurG mg) : DEight P w K mg base := by
  refine S.def fun f fd F => F.ok scEight (fun vs H Q E h => ?_) fun cdv A outer s H vs Q E hr h => ?_
  · obtain ⟨t, y, rfl, _⟩ := h
    rfl
  obtain ⟨t, y, rfl, q⟩ := h
  obtain ⟨⟨t1, m1⟩, ⟨t2, m2⟩, ⟨t3, m3⟩, ⟨t4, m4⟩, ⟨t5, m5⟩⟩ := G
  refine ⟨_, pss_cons (ps_if (PW.pt (pw_and (pt_cmpR op_eq (pv 0) (pe_gint rfl m4) (nomark _)) (pw_and1 (pt_cmpR op_in_seq (pe_op op_mod (pv 1) pe_int) (pe_tup (pa_cons pe_int (pa_cons pe_int pa_nil))) (by with_unfolding_all rfl)))))
      (pss_one (ps_ret (pe_op op_cat (pe_op op_cat (pe_op op_rep (pe_lst (pa_cons (pe_gint rfl m1) pa_nil)) pe_int) (pe_lst (pa_cons (pe_gint rfl m3) pa_nil))) (pe_op op_rep (pe_lst (pa_cons (pe_gint rfl m1) pa_nil)) pe_int)))) pss_nil)
    (pss_cons (ps_if (pt_cmpR op_eq (pv 0) (pe_gint rfl m4) (nomark _)) (pss_one (ps_ret (pe_op op_rep (pe_lst (pa_cons (pe_gint rfl m1) pa_nil)) pe_int))) pss_nil)
    (pss_cons (ps_if (PW.pt (pw_and (pt_cmpR op_eq (pv 0) (pe_gint rfl m5) (nomark _)) (pw_and1 (pt_cmpR op_eq (pe_op op_mod (pe_op op_fdiv (pv 1) pe_int) pe_int) pe_int (nomark _)))))
      (pss_one (ps_ret (pe_op op_cat (pe_op op_rep (pe_lst (pa_cons (pe_gint rfl m2) pa_nil)) pe_int) (pe_op op_rep (pe_lst (pa_cons (pe_gint rfl m1) pa_nil)) pe_int)))) pss_nil)
    (pss_cons (ps_if (pt_cmpR op_eq (pv 0) (pe_gint rfl m5) (nomark _)) (pss_one (ps_ret (pe_op op_cat (pe_op op_rep (pe_lst (pa_cons (pe_gint rfl m1) pa_nil)) pe_int) (pe_op op_rep (pe_lst (pa_cons (pe_gint rfl m2) pa_nil)) pe_int)))) pss_nil)
    (pss_one (ps_ret (pe_op op_rep (pe_lst (pa_cons (pv 0) pa_nil)) pe_int)))))), ?_⟩
  have key : ∀ z, e8 t y = z → (∀ p H', Same H H' → H' p = some (.lst (z.map V.int)) → Q (.ref p) H') := fun z e => by rw [← e]; exact q
  unfold e8 at key
  refine ⟨_, rfl, rfl, _, rfl, ?_⟩
  rw [int_dec]
  by_cases h8 : t = 8
  · rw [decide_eq_true h8]
    refine iteT ⟨_, rfl, _, _, rfl, rfl, (by decide : (0 : Int) < 8), by show 2 ≤ sizeLine; exact le1000 (by decide), fun p0 n0 => ⟨p0, _, rfl, .inr (SqT.of upd_same), rfl, by decide, _, rfl, ?_⟩⟩
    have s0 := Same.new n0 (.tup [V.int 3, V.int 4])
    show if inV (.int (y % 8)) [.int 3, .int 4] = true then _ else _
    rw [in34]
    by_cases hy : y % 8 = 3 ∨ y % 8 = 4
    · rw [decide_eq_true hy]
      refine iteT ?_
      refine ⟨by show 1 ≤ sizeLine; exact le1000 (by decide), fun a1 b1 => ⟨a1, _, _, rfl, rfl, upd_same, by decide, by decide, (by show 1 * Int.toNat _ ≤ sizeLine; exact le1000 (by decide)), fun a2 b2 => ?_⟩⟩
      refine ⟨by show 1 ≤ sizeLine; exact le1000 (by decide), fun a3 b3 => ?_⟩
      refine ⟨a2, a3, _, _, rfl, rfl, Same.new b3 _ _ _ upd_same, upd_same, le1000 (by decide), fun a4 b4 => ?_⟩
      refine ⟨by show 1 ≤ sizeLine; exact le1000 (by decide), fun a5 b5 => ⟨a5, _, _, rfl, rfl, upd_same, by decide, by decide, (by show 1 * Int.toNat _ ≤ sizeLine; exact le1000 (by decide)), fun a6 b6 => ?_⟩⟩
      refine ⟨a4, a6, _, _, rfl, rfl, Same.new b6 _ _ _ (Same.new b5 _ _ _ upd_same), upd_same, le1000 (by decide), fun a7 b7 => ?_⟩
      exact key _ (if_pos ⟨h8, hy⟩) a7 _ (same_trans s0 (same_trans (Same.new b1 _) (same_trans (Same.new b2 _) (same_trans (Same.new b3 _) (same_trans (Same.new b4 _) (same_trans (Same.new b5 _) (same_trans (Same.new b6 _) (Same.new b7 _)))))))) upd_same
    · rw [decide_eq_false hy]
      refine iteF ⟨_, rfl, rfl, _, rfl, ?_⟩
      rw [int_dec, decide_eq_true h8]
      refine iteT ?_
      refine ⟨by show 1 ≤ sizeLine; exact le1000 (by decide), fun a1 b1 => ⟨a1, _, _, rfl, rfl, upd_same, by decide, by decide, (by show 1 * Int.toNat _ ≤ sizeLine; exact le1000 (by decide)), fun a2 b2 => ?_⟩⟩
      exact key _ ((if_neg fun z => hy z.2).trans (if_pos h8)) a2 _ (same_trans s0 (same_trans (Same.new b1 _) (Same.new b2 _))) upd_same
  · rw [decide_eq_false h8]
    refine iteF (iteF ⟨_, rfl, rfl, _, rfl, ?_⟩)
    rw [int_dec, decide_eq_false h8]
    refine iteF ⟨_, rfl, rfl, _, rfl, ?_⟩
    rw [int_dec]
    have k1 := fun z (e : _ = z) => key z ((if_neg fun (z : t = 8 ∧ (y % 8 = 3 ∨ y % 8 = 4)) => h8 z.1).trans ((if_neg h8).trans e))
    by_cases h9 : t = 9
    · rw [decide_eq_true h9]
      refine iteT ⟨_, rfl, _, _, rfl, rfl, ⟨by decide, by decide⟩, _, _, rfl, rfl, (by decide : (0 : Int) < 2), rfl, _, rfl, ?_⟩
      rw [int_dec]
      by_cases hy : y / 4 % 2 = 1
      · rw [decide_eq_true hy]
        refine iteT ?_
        refine ⟨by show 1 ≤ sizeLine; exact le1000 (by decide), fun a1 b1 => ⟨a1, _, _, rfl, rfl, upd_same, by decide, by decide, (by show 1 * Int.toNat _ ≤ sizeLine; exact le1000 (by decide)), fun a2 b2 => ?_⟩⟩
        refine ⟨by show 1 ≤ sizeLine; exact le1000 (by decide), fun a3 b3 => ⟨a3, _, _, rfl, rfl, upd_same, by decide, by decide, (by show 1 * Int.toNat _ ≤ sizeLine; exact le1000 (by decide)), fun a4 b4 => ?_⟩⟩
        refine ⟨a2, a4, _, _, rfl, rfl, Same.new b4 _ _ _ (Same.new b3 _ _ _ upd_same), upd_same, le1000 (by decide), fun a5 b5 => ?_⟩
        exact k1 _ (if_pos ⟨h9, hy⟩) a5 _ (same_trans (Same.new b1 _) (same_trans (Same.new b2 _) (same_trans (Same.new b3 _) (same_trans (Same.new b4 _) (Same.new b5 _))))) upd_same
      · rw [decide_eq_false hy]
        refine iteF ⟨_, rfl, rfl, _, rfl, ?_⟩
        rw [int_dec, decide_eq_true h9]
        refine iteT ?_
        refine ⟨by show 1 ≤ sizeLine; exact le1000 (by decide), fun a1 b1 => ⟨a1, _, _, rfl, rfl, upd_same, by decide, by decide, (by show 1 * Int.toNat _ ≤ sizeLine; exact le1000 (by decide)), fun a2 b2 => ?_⟩⟩
        refine ⟨by show 1 ≤ sizeLine; exact le1000 (by decide), fun a3 b3 => ⟨a3, _, _, rfl, rfl, upd_same, by decide, by decide, (by show 1 * Int.toNat _ ≤ sizeLine; exact le1000 (by decide)), fun a4 b4 => ?_⟩⟩
        refine ⟨a2, a4, _, _, rfl, rfl, Same.new b4 _ _ _ (Same.new b3 _ _ _ upd_same), upd_same, le1000 (by decide), fun a5 b5 => ?_⟩
        exact k1 _ ((if_neg fun z => hy z.2).trans (if_pos h9)) a5 _ (same_trans (Same.new b1 _) (same_trans (Same.new b2 _) (same_trans (Same.new b3 _) (same_trans (Same.new b4 _) (Same.new b5 _))))) upd_same
    · rw [decide_eq_false h9]
      refine iteF (iteF ⟨_, rfl, rfl, _, rfl, ?_⟩)
      rw [int_dec, decide_eq_false h9]
      refine iteF ⟨_, rfl, ?_⟩
      refine ⟨by show 1 ≤ sizeLine; exact le1000 (by decide), fun a1 b1 => ⟨a1, _, _, rfl, rfl, upd_same, by decide, by decide, (by show 1 * Int.toNat _ ≤ sizeLine; exact le1000 (by decide)), fun a2 b2 => ?_⟩⟩
      exact k1 _ ((if_neg fun z => h9 z.1).trans (if_neg h9)) a2 _ (same_trans (Same.new b1 _) (Same.new b2 _)) upd_same
def spTinc (CW : Addr) : Sp := fun vs H Q _ => ∃ (t : Nat) (pr : Addr) (w h y : Nat), vs = [.int (t : Nat), .ref pr] ∧ RowAt CW H pr w h y ∧ w ≤ 1024 ∧ ∀ p H', Same H H' → H' p = some (.lst (cV (shR t w h y))) → Q (.ref p) H'
theorem scTinc : FnScope ["tincture", "row", "times"] ["tincture", "row"] (defScope f_tincture_cells) := ⟨rfl, rfl, rfl, by decide +kernel, rfl, by decide +kernel, by decide +kernel⟩
abbrev DTinc (P : Program) (w : World) (K : PySem.W.Frag) (mg : Str → Option Value) (base : Heap) (CW : Addr) : Prop := Def P w K mg base CX0 2 "tincture_cells" ["tincture", "row"] (spTinc CW)
theorem ok_tinc (S : Src K mg "tincture_cells" f_tincture_cells ["tincture", "row"]) (T : RwC K CW) (De : DEight P w K mg base) : DTinc P w K mg base CW := by
  refine S.def fun f fd F => F.ok scTinc (fun vs H Q E h => ?_) fun cdv A outer s H vs Q E hr h => ?_
  · obtain ⟨t, pr, w, h, y, rfl, _⟩ := h
    rfl
  obtain ⟨t, pr, w, h, y, rfl, ⟨dx, hR⟩, hw, q⟩ := h
  refine ⟨_, pss_cons (ps_set (i := 2) scTinc.nd rfl (Or.inl rfl) (pe_op op_add (pe_op op_fdiv (pe_fld (pv 1) rfl) pe_int) pe_int))
    (pss_one (ps_ret (pe_slice sl_list (pe_op op_rep (pe_callD De hr rfl pass0 (pa_cons (pv 0) (pa_cons (pe_fld (pv 1) rfl) pa_nil))) (pv 2)) po_none (po_some (pe_fld (pv 1) rfl))))), ?_⟩
  repeat first|refine ⟨_,rfl,?_⟩|refine ⟨_,_,_,_,_,rfl,‹_›,T.cl,by first|exact T.nw|exact T.nh|exact T.ny|exact T.nv,by first|exact rw_w _ _ _|exact rw_h _ _ _|exact rw_y _ _ _|exact rw_v _ _ _,?_⟩|refine ⟨_,_,rfl,rfl,by first|exact .inl ⟨by omega,by omega⟩|exact .inr ⟨by omega,by omega⟩|exact ⟨by omega,by omega⟩,?_⟩|refine ⟨_,_,rfl,rfl,?_⟩|refine ⟨_,_,rfl,?_⟩
  intro p1 H1 s1 h1
  have hR1 := s1 _ _ hR
  have e1 : (((w : Nat) : Int) / 8 + 1).toNat = w / 8 + 1 := by omega
  refine ⟨_, rfl, p1, _, _, rfl, rfl, h1, by omega, by omega, ?_, fun p2 n2 => ?_⟩
  · rw [e1, List.length_map, e8_len, sizeLine_eq]
    omega
  have s2 := Same.new n2 (.lst (List.replicate (((w : Nat) : Int) / 8 + 1).toNat ((e8 t y).map V.int)).flatten)
  have hR2 := s2 _ _ hR1
  repeat first|refine ⟨_,rfl,?_⟩|refine ⟨_,_,_,_,_,rfl,‹_›,T.cl,by first|exact T.nw|exact T.nh|exact T.ny|exact T.nv,by first|exact rw_w _ _ _|exact rw_h _ _ _|exact rw_y _ _ _|exact rw_v _ _ _,?_⟩|refine ⟨_,_,rfl,rfl,by first|exact .inl ⟨by omega,by omega⟩|exact .inr ⟨by omega,by omega⟩|exact ⟨by omega,by omega⟩,?_⟩|refine ⟨_,_,rfl,rfl,?_⟩|refine ⟨_,_,rfl,?_⟩
  refine ⟨p2, _, rfl, SqL.of upd_same, fun p3 n3 => q p3 _ (same_trans s1 (same_trans s2 (Same.new n3 _))) ?_⟩
  rw [upd_same, cut_lo _ (by omega), Int.toNat_natCast, e1, cells_eq t w h y]
end
end A57

namespace L2
open PySem
theorem pe_fldK {X : Cx} {K : PySem.W.Frag} {e : Expr} {ta : TE} {f : Str} {pos : Pos} (hK : X.K = K) (he : PE X e ta) (hb : attributeBase e f X.env (eval e X.env) = eval e X.env) : PE X (.Attribute e f pos) (tFld K ta f) := by
  subst hK
  exact pe_fld he hb
theorem pg_tupK {X : Cx} {K : PySem.W.Frag} {pos : Pos} {es : List Expr} {k : Nat} {t : TGs} {n : Nat} (hK : X.K = K) (hc : X.calm = true) (h : PGs X es t)
    (hn : (assignEach es X.env).length = n := by rfl) (hst : (assignEach es X.env).findIdx? (·.1) = none := by rfl) : PG X (.Tuple es k pos) (gTup K n t) := by
  subst hK
  exact pg_tup hc h hn hst
end L2
namespace A57
open PySem L2
open Sa57 (Bytes ascii Read)
section
variable {P : Program} {w : World} {K : PySem.W.Frag} {mg : Str → Option Value} {base : Heap} {CW : Addr}
/-- a def of a row that gives a list -/
def spL (CW : Addr) (F : Nat → Nat → Nat → Nat → V) : Sp := fun vs H Q _ => ∃ (pr : Addr) (w h y : Nat), vs = [.ref pr] ∧ RowAt CW H pr w h y ∧ Sz w h y ∧ ∀ p H', Same H H' → H' p = some (.lst ((List.range w).map (F w h y))) → Q (.ref p) H'
def uF (w h y x : Nat) : V := .int (2 * (x : Int) + 1 - (w : Int))
def bF (w h y x : Nat) : V := .int ((2 * (x : Int) + 1 - (w : Int)) * (h : Int) - (2 * (y : Int) + 1 - (h : Int)) * (w : Int))
def cF (w h y x : Nat) : V := .int ((2 * (x : Int) + 1 - (w : Int)) * (h : Int) + (2 * (y : Int) + 1 - (h : Int)) * (w : Int))
def kF (w h y x : Nat) : V := .int (4 * ((2 * (y : Int) + 1 - (h : Int)) * (w : Int) - absI (2 * (x : Int) + 1 - (w : Int)) * (h : Int)) + (w : Int) * (h : Int))
theorem scU : FnScope ["row"] ["row"] (defScope f_u_values) := ⟨rfl, rfl, rfl, by decide +kernel, rfl, by decide +kernel, by decide +kernel⟩
theorem rgC2 {w : Nat} (hw : w ≤ 1024) : RgC (1 - (w : Int)) (w : Int) 2 w := by
  have e : Builtin.Range.rangeSize (1 - (w : Int)) (w : Int) 2 = (w : Int) := by
    unfold Builtin.Range.rangeSize
    rw [if_pos (by decide)]
    split <;> omega
  refine ⟨by decide, by decide, ?_, e⟩
  have f : ∀ i : Int, -5000 ≤ i → i ≤ 5000 → Builtin.Range.rangeFitsLong i = true := fun i h1 h2 => by
    unfold Builtin.Range.rangeFitsLong
    rw [Bool.and_eq_true, decide_eq_true_eq, decide_eq_true_eq]
    exact ⟨by omega, by omega⟩
  unfold Builtin.Range.small
  rw [e, f (1 - (w : Int)) (by omega) (by omega), f (w : Int) (by omega) (by omega), f 2 (by decide) (by decide), f ((w : Int) + (2 - 1)) (by omega) (by omega), if_pos (show (2 : Int) > 0 by decide)]
  simp
abbrev DU (P : Program) (w : World) (K : PySem.W.Frag) (mg : Str → Option Value) (base : Heap) (CW : Addr) : Prop := Def P w K mg base CX0 1 "u_values" ["row"] (spL CW uF)
theorem ok_u (S : Src K mg "u_values" f_u_values ["row"]) (T : RwC K CW) (ml : mg "list" = none) (mr : mg "range" = none) : DU P w K mg base CW := by
  refine S.def fun f fd F => F.ok scU (fun vs H Q E h => ?_) fun cdv A outer s H vs Q E hr h => ?_
  · obtain ⟨pr, w, h, y, rfl, _⟩ := h
    rfl
  obtain ⟨pr, w, h, y, rfl, ⟨dx, hR⟩, ⟨z1, z2, z3⟩, q⟩ := h
  refine ⟨_, pss_one (ps_ret (pe_listRange rfl ml rfl mr rfl (pa_cons (pe_op op_sub pe_int (pe_fld (pv 0) rfl)) (pa_cons (pe_fld (pv 0) rfl) (pa_cons pe_int pa_nil))))), ?_⟩
  repeat first|refine ⟨_,rfl,?_⟩|refine ⟨_,_,_,_,_,rfl,‹_›,T.cl,by first|exact T.nw|exact T.nh|exact T.ny|exact T.nv,by first|exact rw_w _ _ _|exact rw_h _ _ _|exact rw_y _ _ _|exact rw_v _ _ _,?_⟩|refine ⟨_,_,rfl,rfl,by first|exact .inl ⟨by omega,by omega⟩|exact .inr ⟨by omega,by omega⟩|exact ⟨by omega,by omega⟩,?_⟩|refine ⟨_,_,rfl,rfl,?_⟩|refine ⟨_,_,rfl,?_⟩
  refine ⟨_, _, _, w, rfl, rgC2 z1, sz1024 z1, fun l hl => q l _ (Same.new hl _) ?_⟩
  rw [upd_same]
  congr 2
  refine List.map_congr_left fun x _ => ?_
  unfold uF
  congr 1
  omega
theorem scB : FnScope ["row", "h", "vw", "u"] ["row"] (defScope f_b_values) := ⟨rfl, rfl, rfl, by decide +kernel, rfl, by decide +kernel, by decide +kernel⟩
theorem ok_b (S : Src K mg "b_values" f_b_values ["row"]) (T : RwC K CW) (Du : DU P w K mg base CW) : Def P w K mg base CX0 2 "b_values" ["row"] (spL CW bF) := by
  refine S.def fun f fd F => F.ok scB (fun vs H Q E h => ?_) fun cdv A outer s H vs Q E hr h => ?_
  · obtain ⟨pr, w, h, y, rfl, _⟩ := h
    rfl
  obtain ⟨pr, w, h, y, rfl, ⟨dx, hR⟩, hz, q⟩ := h
  obtain ⟨z1, z2, z3⟩ := id hz
  refine ⟨_, pss_cons (ps_set (i := 1) scB.nd rfl (Or.inr rfl) (pe_fld (pv 0) rfl))
    (pss_cons (ps_set (i := 2) scB.nd rfl (Or.inr rfl) (pe_op op_mul (pe_fld (pv 0) rfl) (pe_fld (pv 0) rfl)))
    (pss_one (ps_ret (pe_lc (own := [("u", 3)]) rfl scB.nd (pi_list (pe_callD Du hr rfl pass0 (pa_cons (pv 0) pa_nil))) (blkOk_by (by kernel_rfl)) (fun _ _ _ _ _ => pg_name (i := 3) scB.nd rfl (Or.inl rfl)) (fun _ _ _ _ _ => pts_nil)
      (fun _ _ _ _ _ => pe_op op_sub (pe_op op_mul (pv 3) (pv 1)) (pv 2)))))), ?_⟩
  repeat first|refine ⟨_,rfl,?_⟩|refine ⟨_,_,_,_,_,rfl,‹_›,T.cl,by first|exact T.nw|exact T.nh|exact T.ny|exact T.nv,by first|exact rw_w _ _ _|exact rw_h _ _ _|exact rw_y _ _ _|exact rw_v _ _ _,?_⟩|refine ⟨_,_,rfl,rfl,by first|exact .inl ⟨by omega,by omega⟩|exact .inr ⟨by omega,by omega⟩|exact ⟨by omega,by omega⟩,?_⟩|refine ⟨_,_,rfl,rfl,?_⟩|refine ⟨_,_,rfl,?_⟩
  refine ⟨pr, w, h, y, rfl, ⟨_, hR⟩, hz, fun p1 H1 s1 h1 => ⟨p1, rfl, ⟨_, SqL.of h1⟩, fun D hD => ?_⟩⟩
  refine lc_mapL (ys := (List.range w).map (bF w h y)) h1 hD (by rw [rng_len, rng_len]) (by rw [rng_len]; exact sz1024 z1) (fun i x yv H2 hx hy s2 N hN => ?_) fun H2 s2 h2 => q D H2 (same_trans s1 s2) h2
  obtain ⟨hi, rfl⟩ := map_at hx
  obtain ⟨_, rfl⟩ := map_at hy
  refine ⟨rfl, ?_⟩
  repeat first|refine ⟨_,rfl,?_⟩|refine ⟨_,_,_,_,_,rfl,‹_›,T.cl,by first|exact T.nw|exact T.nh|exact T.ny|exact T.nv,by first|exact rw_w _ _ _|exact rw_h _ _ _|exact rw_y _ _ _|exact rw_v _ _ _,?_⟩|refine ⟨_,_,rfl,rfl,by first|exact .inl ⟨by omega,by omega⟩|exact .inr ⟨by omega,by omega⟩|exact ⟨by omega,by omega⟩,?_⟩|refine ⟨_,_,rfl,rfl,?_⟩|refine ⟨_,_,rfl,?_⟩
  exact hN _ (fun _ _ e => e)
theorem scC : FnScope ["row", "h", "vw", "u"] ["row"] (defScope f_c_values) := ⟨rfl, rfl, rfl, by decide +kernel, rfl, by decide +kernel, by decide +kernel⟩
theorem ok_c (S : Src K mg "c_values" f_c_values ["row"]) (T : RwC K CW) (Du : DU P w K mg base CW) : Def P w K mg base CX0 2 "c_values" ["row"] (spL CW cF) := by
  refine S.def fun f fd F => F.ok scC (fun vs H Q E h => ?_) fun cdv A outer s H vs Q E hr h => ?_
  · obtain ⟨pr, w, h, y, rfl, _⟩ := h
    rfl
  obtain ⟨pr, w, h, y, rfl, ⟨dx, hR⟩, hz, q⟩ := h
  obtain ⟨z1, z2, z3⟩ := id hz
  refine ⟨_, pss_cons (ps_set (i := 1) scC.nd rfl (Or.inr rfl) (pe_fld (pv 0) rfl))
    (pss_cons (ps_set (i := 2) scC.nd rfl (Or.inr rfl) (pe_op op_mul (pe_fld (pv 0) rfl) (pe_fld (pv 0) rfl)))
    (pss_one (ps_ret (pe_lc (own := [("u", 3)]) rfl scC.nd (pi_list (pe_callD Du hr rfl pass0 (pa_cons (pv 0) pa_nil))) (blkOk_by (by kernel_rfl)) (fun _ _ _ _ _ => pg_name (i := 3) scC.nd rfl (Or.inl rfl)) (fun _ _ _ _ _ => pts_nil)
      (fun _ _ _ _ _ => pe_op op_add (pe_op op_mul (pv 3) (pv 1)) (pv 2)))))), ?_⟩
  repeat first|refine ⟨_,rfl,?_⟩|refine ⟨_,_,_,_,_,rfl,‹_›,T.cl,by first|exact T.nw|exact T.nh|exact T.ny|exact T.nv,by first|exact rw_w _ _ _|exact rw_h _ _ _|exact rw_y _ _ _|exact rw_v _ _ _,?_⟩|refine ⟨_,_,rfl,rfl,by first|exact .inl ⟨by omega,by omega⟩|exact .inr ⟨by omega,by omega⟩|exact ⟨by omega,by omega⟩,?_⟩|refine ⟨_,_,rfl,rfl,?_⟩|refine ⟨_,_,rfl,?_⟩
  refine ⟨pr, w, h, y, rfl, ⟨_, hR⟩, hz, fun p1 H1 s1 h1 => ⟨p1, rfl, ⟨_, SqL.of h1⟩, fun D hD => ?_⟩⟩
  refine lc_mapL (ys := (List.range w).map (cF w h y)) h1 hD (by rw [rng_len, rng_len]) (by rw [rng_len]; exact sz1024 z1) (fun i x yv H2 hx hy s2 N hN => ?_) fun H2 s2 h2 => q D H2 (same_trans s1 s2) h2
  obtain ⟨hi, rfl⟩ := map_at hx
  obtain ⟨_, rfl⟩ := map_at hy
  refine ⟨rfl, ?_⟩
  repeat first|refine ⟨_,rfl,?_⟩|refine ⟨_,_,_,_,_,rfl,‹_›,T.cl,by first|exact T.nw|exact T.nh|exact T.ny|exact T.nv,by first|exact rw_w _ _ _|exact rw_h _ _ _|exact rw_y _ _ _|exact rw_v _ _ _,?_⟩|refine ⟨_,_,rfl,rfl,by first|exact .inl ⟨by omega,by omega⟩|exact .inr ⟨by omega,by omega⟩|exact ⟨by omega,by omega⟩,?_⟩|refine ⟨_,_,rfl,rfl,?_⟩|refine ⟨_,_,rfl,?_⟩
  exact hN _ (fun _ _ e => e)
theorem scKv : FnScope ["row", "h", "vw", "area", "u"] ["row"] (defScope f_k_values) := ⟨rfl, rfl, rfl, by decide +kernel, rfl, by decide +kernel, by decide +kernel⟩
theorem ok_k (S : Src K mg "k_values" f_k_values ["row"]) (T : RwC K CW) (Du : DU P w K mg base CW) (ma : mg "abs" = none) : Def P w K mg base CX0 2 "k_values" ["row"] (spL CW kF) := by
  refine S.def fun f fd F => F.ok scKv (fun vs H Q E h => ?_) fun cdv A outer s H vs Q E hr h => ?_
  · obtain ⟨pr, w, h, y, rfl, _⟩ := h
    rfl
  obtain ⟨pr, w, h, y, rfl, ⟨dx, hR⟩, hz, q⟩ := h
  obtain ⟨z1, z2, z3⟩ := id hz
  refine ⟨_, pss_cons (ps_set (i := 1) scKv.nd rfl (Or.inr rfl) (pe_fld (pv 0) rfl))
    (pss_cons (ps_set (i := 2) scKv.nd rfl (Or.inr rfl) (pe_op op_mul (pe_fld (pv 0) rfl) (pe_fld (pv 0) rfl)))
    (pss_cons (ps_set (i := 3) scKv.nd rfl (Or.inr rfl) (pe_op op_mul (pe_fld (pv 0) rfl) (pe_fld (pv 0) rfl)))
    (pss_one (ps_ret (pe_lc (own := [("u", 4)]) rfl scKv.nd (pi_list (pe_callD Du hr rfl pass0 (pa_cons (pv 0) pa_nil))) (blkOk_by (by kernel_rfl)) (fun _ _ _ _ _ => pg_name (i := 4) scKv.nd rfl (Or.inl rfl)) (fun _ _ _ _ _ => pts_nil)
      (fun _ _ _ _ _ => pe_op op_add (pe_op op_mul pe_int (pe_op op_sub (pv 2) (pe_op op_mul (pe_callB call_abs rfl ma PyProof.Rows.boot_abs (pa_cons (pv 4) pa_nil)) (pv 1)))) (pv 3))))))), ?_⟩
  repeat first|refine ⟨_,rfl,?_⟩|refine ⟨_,_,_,_,_,rfl,‹_›,T.cl,by first|exact T.nw|exact T.nh|exact T.ny|exact T.nv,by first|exact rw_w _ _ _|exact rw_h _ _ _|exact rw_y _ _ _|exact rw_v _ _ _,?_⟩|refine ⟨_,_,rfl,rfl,by first|exact .inl ⟨by omega,by omega⟩|exact .inr ⟨by omega,by omega⟩|exact ⟨by omega,by omega⟩,?_⟩|refine ⟨_,_,rfl,rfl,?_⟩|refine ⟨_,_,rfl,?_⟩
  refine ⟨pr, w, h, y, rfl, ⟨_, hR⟩, hz, fun p1 H1 s1 h1 => ⟨p1, rfl, ⟨_, SqL.of h1⟩, fun D hD => ?_⟩⟩
  refine lc_mapL (ys := (List.range w).map (kF w h y)) h1 hD (by rw [rng_len, rng_len]) (by rw [rng_len]; exact sz1024 z1) (fun i x yv H2 hx hy s2 N hN => ?_) fun H2 s2 h2 => q D H2 (same_trans s1 s2) h2
  obtain ⟨hi, rfl⟩ := map_at hx
  obtain ⟨_, rfl⟩ := map_at hy
  refine ⟨rfl, ?_⟩
  repeat first|refine ⟨_,rfl,?_⟩|refine ⟨_,_,_,_,_,rfl,‹_›,T.cl,by first|exact T.nw|exact T.nh|exact T.ny|exact T.nv,by first|exact rw_w _ _ _|exact rw_h _ _ _|exact rw_y _ _ _|exact rw_v _ _ _,?_⟩|refine ⟨_,_,rfl,rfl,by first|exact .inl ⟨by omega,by omega⟩|exact .inr ⟨by omega,by omega⟩|exact ⟨by omega,by omega⟩,?_⟩|refine ⟨_,_,rfl,rfl,?_⟩|refine ⟨_,_,rfl,?_⟩
  exact hN _ (fun _ _ e => e)
/-! ### partings -/
def paF (p : Sa57.Parting) (w h y x : Nat) : V := .bl (Sa57.first p (cl w h y x))
theorem scPp : FnScope ["row", "u"] ["row"] (defScope f_per_pale) := ⟨rfl, rfl, rfl, by decide +kernel, rfl, by decide +kernel, by decide +kernel⟩
theorem ok_ppale (S : Src K mg "per_pale" f_per_pale ["row"]) (T : RwC K CW) (Du : DU P w K mg base CW) : Def P w K mg base CX0 3 "per_pale" ["row"] (spL CW (paF .pale)) := by
  refine S.def fun f fd F => F.ok scPp (fun vs H Q E h => ?_) fun cdv A outer s H vs Q E hr h => ?_
  · obtain ⟨pr, w, h, y, rfl, _⟩ := h
    rfl
  obtain ⟨pr, w, h, y, rfl, hR, hz, q⟩ := h
  obtain ⟨z1, z2, z3⟩ := id hz
  refine ⟨_, pss_one (ps_ret (pe_lc (own := [("u", 1)]) rfl scPp.nd (pi_list (pe_callD Du (hr.mono (by decide)) rfl pass0 (pa_cons (pv 0) pa_nil))) (blkOk_by (by kernel_rfl)) (fun _ _ _ _ _ => pg_name (i := 1) scPp.nd rfl (Or.inl rfl)) (fun _ _ _ _ _ => pts_nil)
      (fun _ _ _ _ _ => pe_cmpR op_lt (pv 1) pe_int (nomark _)))), ?_⟩
  refine ⟨_, rfl, pr, w, h, y, rfl, hR, hz, fun p1 H1 s1 h1 => ⟨p1, rfl, ⟨_, SqL.of h1⟩, fun D hD => ?_⟩⟩
  refine lc_mapL (ys := (List.range w).map (paF .pale w h y)) h1 hD (by rw [rng_len, rng_len]) (by rw [rng_len]; exact sz1024 z1) (fun i x yv H2 hx hy s2 N hN => ?_) fun H2 s2 h2 => q D H2 (same_trans s1 s2) h2
  obtain ⟨hi, rfl⟩ := map_at hx
  obtain ⟨_, rfl⟩ := map_at hy
  refine ⟨rfl, ?_⟩
  repeat first|refine ⟨_,rfl,?_⟩|refine ⟨_,_,_,_,_,rfl,‹_›,T.cl,by first|exact T.nw|exact T.nh|exact T.ny|exact T.nv,by first|exact rw_w _ _ _|exact rw_h _ _ _|exact rw_y _ _ _|exact rw_v _ _ _,?_⟩|refine ⟨_,_,rfl,rfl,by first|exact .inl ⟨by omega,by omega⟩|exact .inr ⟨by omega,by omega⟩|exact ⟨by omega,by omega⟩,?_⟩|refine ⟨_,_,rfl,rfl,?_⟩|refine ⟨_,_,rfl,?_⟩
  exact hN _ (fun _ _ e => e)
theorem scPf : FnScope ["row"] ["row"] (defScope f_per_fess) := ⟨rfl, rfl, rfl, by decide +kernel, rfl, by decide +kernel, by decide +kernel⟩
theorem rep_rng (v : V) (w : Nat) : (List.replicate w [v]).flatten = (List.range w).map fun _ => v := by
  rw [rep_flat]
  refine List.ext_getElem (by simp) fun n h1 h2 => by simp
theorem ok_pfess (S : Src K mg "per_fess" f_per_fess ["row"]) (T : RwC K CW) : Def P w K mg base CX0 3 "per_fess" ["row"] (spL CW (paF .fess)) := by
  refine S.def fun f fd F => F.ok scPf (fun vs H Q E h => ?_) fun cdv A outer s H vs Q E hr h => ?_
  · obtain ⟨pr, w, h, y, rfl, _⟩ := h
    rfl
  obtain ⟨pr, w, h, y, rfl, ⟨dx, hR⟩, hz, q⟩ := h
  obtain ⟨z1, z2, z3⟩ := id hz
  refine ⟨_, pss_one (ps_ret (pe_op op_rep (pe_lst (pa_cons (pe_cmpR op_lt (pe_fld (pv 0) rfl) pe_int (nomark _)) pa_nil)) (pe_fld (pv 0) rfl))), ?_⟩
  repeat first|refine ⟨_,rfl,?_⟩|refine ⟨_,_,_,_,_,rfl,‹_›,T.cl,by first|exact T.nw|exact T.nh|exact T.ny|exact T.nv,by first|exact rw_w _ _ _|exact rw_h _ _ _|exact rw_y _ _ _|exact rw_v _ _ _,?_⟩|refine ⟨_,_,rfl,rfl,by first|exact .inl ⟨by omega,by omega⟩|exact .inr ⟨by omega,by omega⟩|exact ⟨by omega,by omega⟩,?_⟩|refine ⟨_,_,rfl,rfl,?_⟩|refine ⟨_,_,rfl,?_⟩
  refine ⟨by show 1 ≤ sizeLine; exact le1000 (by decide), fun p1 n1 => ?_⟩
  have hR1 := Same.new n1 (.lst [V.bl (decide (2 * (y : Int) + 1 - (h : Int) < 0))]) _ _ hR
  repeat first|refine ⟨_,rfl,?_⟩|refine ⟨_,_,_,_,_,rfl,‹_›,T.cl,by first|exact T.nw|exact T.nh|exact T.ny|exact T.nv,by first|exact rw_w _ _ _|exact rw_h _ _ _|exact rw_y _ _ _|exact rw_v _ _ _,?_⟩|refine ⟨_,_,rfl,rfl,by first|exact .inl ⟨by omega,by omega⟩|exact .inr ⟨by omega,by omega⟩|exact ⟨by omega,by omega⟩,?_⟩|refine ⟨_,_,rfl,rfl,?_⟩|refine ⟨_,_,rfl,?_⟩
  refine ⟨p1, _, _, rfl, rfl, upd_same, by omega, by omega, ?_, fun p2 n2 => ?_⟩
  · rw [Int.toNat_natCast]
    show 1 * w ≤ sizeLine
    rw [Nat.one_mul]
    exact sz1024 z1
  · refine q p2 _ (same_trans (Same.new n1 _) (Same.new n2 _)) ?_
    rw [upd_same, Int.toNat_natCast, rep_rng]
    rfl
theorem scPb : FnScope ["row", "b"] ["row"] (defScope f_per_bend) := ⟨rfl, rfl, rfl, by decide +kernel, rfl, by decide +kernel, by decide +kernel⟩
theorem ok_pbend (S : Src K mg "per_bend" f_per_bend ["row"]) (T : RwC K CW) (Db : Def P w K mg base CX0 2 "b_values" ["row"] (spL CW bF)) : Def P w K mg base CX0 3 "per_bend" ["row"] (spL CW (paF .bend)) := by
  refine S.def fun f fd F => F.ok scPb (fun vs H Q E h => ?_) fun cdv A outer s H vs Q E hr h => ?_
  · obtain ⟨pr, w, h, y, rfl, _⟩ := h
    rfl
  obtain ⟨pr, w, h, y, rfl, hR, hz, q⟩ := h
  obtain ⟨z1, z2, z3⟩ := id hz
  refine ⟨_, pss_one (ps_ret (pe_lc (own := [("b", 1)]) rfl scPb.nd (pi_list (pe_callD Db hr rfl pass0 (pa_cons (pv 0) pa_nil))) (blkOk_by (by kernel_rfl)) (fun _ _ _ _ _ => pg_name (i := 1) scPb.nd rfl (Or.inl rfl)) (fun _ _ _ _ _ => pts_nil)
      (fun _ _ _ _ _ => pe_cmpR op_gt (pv 1) pe_int (nomark _)))), ?_⟩
  refine ⟨_, rfl, pr, w, h, y, rfl, hR, hz, fun p1 H1 s1 h1 => ⟨p1, rfl, ⟨_, SqL.of h1⟩, fun D hD => ?_⟩⟩
  refine lc_mapL (ys := (List.range w).map (paF .bend w h y)) h1 hD (by rw [rng_len, rng_len]) (by rw [rng_len]; exact sz1024 z1) (fun i x yv H2 hx hy s2 N hN => ?_) fun H2 s2 h2 => q D H2 (same_trans s1 s2) h2
  obtain ⟨hi, rfl⟩ := map_at hx
  obtain ⟨_, rfl⟩ := map_at hy
  refine ⟨rfl, ?_⟩
  repeat first|refine ⟨_,rfl,?_⟩|refine ⟨_,_,_,_,_,rfl,‹_›,T.cl,by first|exact T.nw|exact T.nh|exact T.ny|exact T.nv,by first|exact rw_w _ _ _|exact rw_h _ _ _|exact rw_y _ _ _|exact rw_v _ _ _,?_⟩|refine ⟨_,_,rfl,rfl,by first|exact .inl ⟨by omega,by omega⟩|exact .inr ⟨by omega,by omega⟩|exact ⟨by omega,by omega⟩,?_⟩|refine ⟨_,_,rfl,rfl,?_⟩|refine ⟨_,_,rfl,?_⟩
  exact hN _ (fun _ _ e => e)
theorem scPs : FnScope ["row", "c"] ["row"] (defScope f_per_bend_sinister) := ⟨rfl, rfl, rfl, by decide +kernel, rfl, by decide +kernel, by decide +kernel⟩
theorem ok_psin (S : Src K mg "per_bend_sinister" f_per_bend_sinister ["row"]) (T : RwC K CW) (Db : Def P w K mg base CX0 2 "c_values" ["row"] (spL CW cF)) : Def P w K mg base CX0 3 "per_bend_sinister" ["row"] (spL CW (paF .sinister)) := by
  refine S.def fun f fd F => F.ok scPs (fun vs H Q E h => ?_) fun cdv A outer s H vs Q E hr h => ?_
  · obtain ⟨pr, w, h, y, rfl, _⟩ := h
    rfl
  obtain ⟨pr, w, h, y, rfl, hR, hz, q⟩ := h
  obtain ⟨z1, z2, z3⟩ := id hz
  refine ⟨_, pss_one (ps_ret (pe_lc (own := [("c", 1)]) rfl scPs.nd (pi_list (pe_callD Db hr rfl pass0 (pa_cons (pv 0) pa_nil))) (blkOk_by (by kernel_rfl)) (fun _ _ _ _ _ => pg_name (i := 1) scPs.nd rfl (Or.inl rfl)) (fun _ _ _ _ _ => pts_nil)
      (fun _ _ _ _ _ => pe_cmpR op_lt (pv 1) pe_int (nomark _)))), ?_⟩
  refine ⟨_, rfl, pr, w, h, y, rfl, hR, hz, fun p1 H1 s1 h1 => ⟨p1, rfl, ⟨_, SqL.of h1⟩, fun D hD => ?_⟩⟩
  refine lc_mapL (ys := (List.range w).map (paF .sinister w h y)) h1 hD (by rw [rng_len, rng_len]) (by rw [rng_len]; exact sz1024 z1) (fun i x yv H2 hx hy s2 N hN => ?_) fun H2 s2 h2 => q D H2 (same_trans s1 s2) h2
  obtain ⟨hi, rfl⟩ := map_at hx
  obtain ⟨_, rfl⟩ := map_at hy
  refine ⟨rfl, ?_⟩
  repeat first|refine ⟨_,rfl,?_⟩|refine ⟨_,_,_,_,_,rfl,‹_›,T.cl,by first|exact T.nw|exact T.nh|exact T.ny|exact T.nv,by first|exact rw_w _ _ _|exact rw_h _ _ _|exact rw_y _ _ _|exact rw_v _ _ _,?_⟩|refine ⟨_,_,rfl,rfl,by first|exact .inl ⟨by omega,by omega⟩|exact .inr ⟨by omega,by omega⟩|exact ⟨by omega,by omega⟩,?_⟩|refine ⟨_,_,rfl,rfl,?_⟩|refine ⟨_,_,rfl,?_⟩
  exact hN _ (fun _ _ e => e)
theorem scPc : FnScope ["row", "k"] ["row"] (defScope f_per_chevron) := ⟨rfl, rfl, rfl, by decide +kernel, rfl, by decide +kernel, by decide +kernel⟩
theorem kF_eq (w h y x : Nat) : kF w h y x = .int (cl w h y x).k := by
  unfold kF
  rw [absI_size]
  rfl
theorem ok_pchev (S : Src K mg "per_chevron" f_per_chevron ["row"]) (T : RwC K CW) (Db : Def P w K mg base CX0 2 "k_values" ["row"] (spL CW kF)) : Def P w K mg base CX0 3 "per_chevron" ["row"] (spL CW (paF .chevron)) := by
  refine S.def fun f fd F => F.ok scPc (fun vs H Q E h => ?_) fun cdv A outer s H vs Q E hr h => ?_
  · obtain ⟨pr, w, h, y, rfl, _⟩ := h
    rfl
  obtain ⟨pr, w, h, y, rfl, hR, hz, q⟩ := h
  obtain ⟨z1, z2, z3⟩ := id hz
  refine ⟨_, pss_one (ps_ret (pe_lc (own := [("k", 1)]) rfl scPc.nd (pi_list (pe_callD Db hr rfl pass0 (pa_cons (pv 0) pa_nil))) (blkOk_by (by kernel_rfl)) (fun _ _ _ _ _ => pg_name (i := 1) scPc.nd rfl (Or.inl rfl)) (fun _ _ _ _ _ => pts_nil)
      (fun _ _ _ _ _ => pe_cmpR op_lt (pv 1) pe_int (nomark _)))), ?_⟩
  refine ⟨_, rfl, pr, w, h, y, rfl, hR, hz, fun p1 H1 s1 h1 => ⟨p1, rfl, ⟨_, SqL.of h1⟩, fun D hD => ?_⟩⟩
  refine lc_mapL (ys := (List.range w).map (paF .chevron w h y)) h1 hD (by rw [rng_len, rng_len]) (by rw [rng_len]; exact sz1024 z1) (fun i x yv H2 hx hy s2 N hN => ?_) fun H2 s2 h2 => q D H2 (same_trans s1 s2) h2
  obtain ⟨hi, rfl⟩ := map_at hx
  obtain ⟨_, rfl⟩ := map_at hy
  rw [kF_eq]
  refine ⟨rfl, ?_⟩
  repeat first|refine ⟨_,rfl,?_⟩|refine ⟨_,_,_,_,_,rfl,‹_›,T.cl,by first|exact T.nw|exact T.nh|exact T.ny|exact T.nv,by first|exact rw_w _ _ _|exact rw_h _ _ _|exact rw_y _ _ _|exact rw_v _ _ _,?_⟩|refine ⟨_,_,rfl,rfl,by first|exact .inl ⟨by omega,by omega⟩|exact .inr ⟨by omega,by omega⟩|exact ⟨by omega,by omega⟩,?_⟩|refine ⟨_,_,rfl,rfl,?_⟩|refine ⟨_,_,rfl,?_⟩
  exact hN _ (fun _ _ e => e)
theorem scPl : FnScope ["row", "h", "vw", "u"] ["row"] (defScope f_per_saltire) := ⟨rfl, rfl, rfl, by decide +kernel, rfl, by decide +kernel, by decide +kernel⟩
theorem ok_psalt (S : Src K mg "per_saltire" f_per_saltire ["row"]) (T : RwC K CW) (Du : DU P w K mg base CW) (ma : mg "abs" = none) : Def P w K mg base CX0 3 "per_saltire" ["row"] (spL CW (paF .saltire)) := by
  refine S.def fun f fd F => F.ok scPl (fun vs H Q E h => ?_) fun cdv A outer s H vs Q E hr h => ?_
  · obtain ⟨pr, w, h, y, rfl, _⟩ := h
    rfl
  obtain ⟨pr, w, h, y, rfl, ⟨dx, hR⟩, hz, q⟩ := h
  obtain ⟨z1, z2, z3⟩ := id hz
  refine ⟨_, pss_cons (ps_set (i := 1) scPl.nd rfl (Or.inr rfl) (pe_fld (pv 0) rfl))
    (pss_cons (ps_set (i := 2) scPl.nd rfl (Or.inr rfl) (pe_op op_mul (pe_callB call_abs rfl ma PyProof.Rows.boot_abs (pa_cons (pe_fld (pv 0) rfl) pa_nil)) (pe_fld (pv 0) rfl)))
    (pss_one (ps_ret (pe_lc (own := [("u", 3)]) rfl scPl.nd (pi_list (pe_callD Du (hr.mono (by decide)) rfl pass0 (pa_cons (pv 0) pa_nil))) (blkOk_by (by kernel_rfl)) (fun _ _ _ _ _ => pg_name (i := 3) scPl.nd rfl (Or.inl rfl)) (fun _ _ _ _ _ => pts_nil)
      (fun _ _ _ _ _ => pe_cmpR op_lt (pe_op op_mul (pe_callB call_abs rfl ma PyProof.Rows.boot_abs (pa_cons (pv 3) pa_nil)) (pv 1)) (pv 2) (nomark _)))))), ?_⟩
  repeat first|refine ⟨_,rfl,?_⟩|refine ⟨_,_,_,_,_,rfl,‹_›,T.cl,by first|exact T.nw|exact T.nh|exact T.ny|exact T.nv,by first|exact rw_w _ _ _|exact rw_h _ _ _|exact rw_y _ _ _|exact rw_v _ _ _,?_⟩|refine ⟨_,_,rfl,rfl,by first|exact .inl ⟨by omega,by omega⟩|exact .inr ⟨by omega,by omega⟩|exact ⟨by omega,by omega⟩,?_⟩|refine ⟨_,_,rfl,rfl,?_⟩|refine ⟨_,_,rfl,?_⟩
  refine ⟨pr, w, h, y, rfl, ⟨_, hR⟩, hz, fun p1 H1 s1 h1 => ⟨p1, rfl, ⟨_, SqL.of h1⟩, fun D hD => ?_⟩⟩
  refine lc_mapL (ys := (List.range w).map (paF .saltire w h y)) h1 hD (by rw [rng_len, rng_len]) (by rw [rng_len]; exact sz1024 z1) (fun i x yv H2 hx hy s2 N hN => ?_) fun H2 s2 h2 => q D H2 (same_trans s1 s2) h2
  obtain ⟨hi, rfl⟩ := map_at hx
  obtain ⟨_, rfl⟩ := map_at hy
  refine ⟨rfl, ?_⟩
  repeat first|refine ⟨_,rfl,?_⟩|refine ⟨_,_,_,_,_,rfl,‹_›,T.cl,by first|exact T.nw|exact T.nh|exact T.ny|exact T.nv,by first|exact rw_w _ _ _|exact rw_h _ _ _|exact rw_y _ _ _|exact rw_v _ _ _,?_⟩|refine ⟨_,_,rfl,rfl,by first|exact .inl ⟨by omega,by omega⟩|exact .inr ⟨by omega,by omega⟩|exact ⟨by omega,by omega⟩,?_⟩|refine ⟨_,_,rfl,rfl,?_⟩|refine ⟨_,_,rfl,?_⟩
  have := hN H2 (fun _ _ e => e)
  have e : paF .saltire w h y i = V.bl (decide (absI (2 * (i : Int) + 1 - (w : Int)) * (h : Int) < absI (2 * (y : Int) + 1 - (h : Int)) * (w : Int))) := by
    rw [absI_size, absI_size]
    rfl
  rw [e] at this
  exact this
/-! ### variations -/
theorem scSl : FnScope ["n", "values", "row", "area", "value"] ["n", "values", "row"] (defScope f_slanting) := ⟨rfl, rfl, rfl, by decide +kernel, rfl, by decide +kernel, by decide +kernel⟩
def slF (n w h : Nat) (g : Nat → Int) (x : Nat) : Int := (n : Int) * (g x + 2 * ((w : Int) * (h : Int))) / (4 * ((w : Int) * (h : Int)))
def spSl (CW : Addr) : Sp := fun vs H Q _ => ∃ (n : Nat) (pl pr : Addr) (w h y : Nat) (g : Nat → Int), vs = [.int (n : Nat), .ref pl, .ref pr] ∧ n ≤ 12 ∧ H pl = some (.lst ((List.range w).map fun x => V.int (g x))) ∧ RowAt CW H pr w h y ∧ Sz w h y ∧ ∀ p H', Same H H' → H' p = some (.lst ((List.range w).map fun x => V.int (slF n w h g x))) → Q (.ref p) H'
abbrev DSl (P : Program) (w : World) (K : PySem.W.Frag) (mg : Str → Option Value) (base : Heap) (CW : Addr) : Prop := Def P w K mg base CX0 1 "slanting" ["n", "values", "row"] (spSl CW)
theorem ok_sl (S : Src K mg "slanting" f_slanting ["n", "values", "row"]) (T : RwC K CW) : DSl P w K mg base CW := by
  refine S.def fun f fd F => F.ok scSl (fun vs H Q E h => ?_) fun cdv A outer s H vs Q E hr h => ?_
  · obtain ⟨n, pl, pr, w, h, y, g, rfl, _⟩ := h
    rfl
  obtain ⟨n, pl, pr, w, h, y, g, rfl, hn, hl, ⟨dx, hR⟩, hz, q⟩ := h
  obtain ⟨z1, z2, z3⟩ := id hz
  refine ⟨_, pss_cons (ps_set (i := 3) scSl.nd rfl (Or.inr rfl) (pe_op op_mul (pe_fld (pv 2) rfl) (pe_fld (pv 2) rfl)))
    (pss_one (ps_ret (pe_lc (own := [("value", 4)]) rfl scSl.nd (pi_list (pv 1)) (blkOk_by (by kernel_rfl)) (fun _ _ _ _ _ => pg_name (i := 4) scSl.nd rfl (Or.inl rfl)) (fun _ _ _ _ _ => pts_nil)
      (fun _ _ _ _ _ => pe_op op_fdiv (pe_op op_mul (pv 0) (pe_op op_add (pv 4) (pe_op op_mul pe_int (pv 3)))) (pe_op op_mul pe_int (pv 3)))))), ?_⟩
  repeat first|refine ⟨_,rfl,?_⟩|refine ⟨_,_,_,_,_,rfl,‹_›,T.cl,by first|exact T.nw|exact T.nh|exact T.ny|exact T.nv,by first|exact rw_w _ _ _|exact rw_h _ _ _|exact rw_y _ _ _|exact rw_v _ _ _,?_⟩|refine ⟨_,_,rfl,rfl,by first|exact .inl ⟨by omega,by omega⟩|exact .inr ⟨by omega,by omega⟩|exact ⟨by omega,by omega⟩,?_⟩|refine ⟨_,_,rfl,rfl,?_⟩|refine ⟨_,_,rfl,?_⟩
  refine ⟨⟨_, SqL.of hl⟩, fun D hD => ?_⟩
  refine lc_mapL (ys := (List.range w).map fun x => V.int (slF n w h g x)) hl hD (by rw [rng_len, rng_len]) (by rw [rng_len]; exact sz1024 z1) (fun i x yv H2 hx hy s2 N hN => ?_) fun H2 s2 h2 => q D H2 s2 h2
  obtain ⟨hi, rfl⟩ := map_at hx
  obtain ⟨_, rfl⟩ := map_at hy
  have a1 : 0 < (w : Int) * (h : Int) := Int.mul_pos (by omega) (by omega)
  have a2 : (w : Int) * (h : Int) ≤ 1024 * 1024 := Int.mul_le_mul (by omega) (by omega) (by omega) (by decide)
  refine ⟨rfl, ?_⟩
  repeat first|refine ⟨_,rfl,?_⟩|refine ⟨_,_,_,_,_,rfl,‹_›,T.cl,by first|exact T.nw|exact T.nh|exact T.ny|exact T.nv,by first|exact rw_w _ _ _|exact rw_h _ _ _|exact rw_y _ _ _|exact rw_v _ _ _,?_⟩|refine ⟨_,_,rfl,rfl,by first|exact .inl ⟨by omega,by omega⟩|exact .inr ⟨by omega,by omega⟩|exact ⟨by omega,by omega⟩,?_⟩|refine ⟨_,_,rfl,rfl,?_⟩|refine ⟨_,_,rfl,?_⟩
  exact hN _ (fun _ _ e => e)
def vaF (v : Sa57.Varying) (n w h y x : Nat) : V := .int (Sa57.stripes v n (cl w h y x))
def spV (CW : Addr) (v : Sa57.Varying) : Sp := fun vs H Q _ => ∃ (n : Nat) (pr : Addr) (w h y : Nat), vs = [.int (n : Nat), .ref pr] ∧ n ≤ 12 ∧ RowAt CW H pr w h y ∧ Sz w h y ∧ ∀ p H', Same H H' → H' p = some (.lst ((List.range w).map (vaF v n w h y))) → Q (.ref p) H'
theorem scBa : FnScope ["n", "row"] ["n", "row"] (defScope f_barry) := ⟨rfl, rfl, rfl, by decide +kernel, rfl, by decide +kernel, by decide +kernel⟩
theorem ok_barry (S : Src K mg "barry" f_barry ["n", "row"]) (T : RwC K CW) : Def P w K mg base CX0 4 "barry" ["n", "row"] (spV CW .barry) := by
  refine S.def fun f fd F => F.ok scBa (fun vs H Q E h => ?_) fun cdv A outer s H vs Q E hr h => ?_
  · obtain ⟨n, pr, w, h, y, rfl, _⟩ := h
    rfl
  obtain ⟨n, pr, w, h, y, rfl, hn, ⟨dx, hR⟩, hz, q⟩ := h
  obtain ⟨z1, z2, z3⟩ := id hz
  refine ⟨_, pss_one (ps_ret (pe_op op_rep (pe_lst (pa_cons (pe_op op_fdiv (pe_op op_mul (pv 0) (pe_fld (pv 1) rfl)) (pe_fld (pv 1) rfl)) pa_nil)) (pe_fld (pv 1) rfl))), ?_⟩
  repeat first|refine ⟨_,rfl,?_⟩|refine ⟨_,_,_,_,_,rfl,‹_›,T.cl,by first|exact T.nw|exact T.nh|exact T.ny|exact T.nv,by first|exact rw_w _ _ _|exact rw_h _ _ _|exact rw_y _ _ _|exact rw_v _ _ _,?_⟩|refine ⟨_,_,rfl,rfl,by first|exact .inl ⟨by omega,by omega⟩|exact .inr ⟨by omega,by omega⟩|exact ⟨by omega,by omega⟩,?_⟩|refine ⟨_,_,rfl,rfl,?_⟩|refine ⟨_,_,rfl,?_⟩
  refine ⟨by show 1 ≤ sizeLine; exact le1000 (by decide), fun p1 n1 => ?_⟩
  have hR1 := Same.new n1 (.lst [V.int ((n : Int) * (y : Int) / (h : Int))]) _ _ hR
  repeat first|refine ⟨_,rfl,?_⟩|refine ⟨_,_,_,_,_,rfl,‹_›,T.cl,by first|exact T.nw|exact T.nh|exact T.ny|exact T.nv,by first|exact rw_w _ _ _|exact rw_h _ _ _|exact rw_y _ _ _|exact rw_v _ _ _,?_⟩|refine ⟨_,_,rfl,rfl,by first|exact .inl ⟨by omega,by omega⟩|exact .inr ⟨by omega,by omega⟩|exact ⟨by omega,by omega⟩,?_⟩|refine ⟨_,_,rfl,rfl,?_⟩|refine ⟨_,_,rfl,?_⟩
  refine ⟨p1, _, _, rfl, rfl, upd_same, by omega, by omega, ?_, fun p2 n2 => ?_⟩
  · rw [Int.toNat_natCast]
    show 1 * w ≤ sizeLine
    rw [Nat.one_mul]
    exact sz1024 z1
  · refine q p2 _ (same_trans (Same.new n1 _) (Same.new n2 _)) ?_
    rw [upd_same, Int.toNat_natCast, rep_rng]
    rfl
theorem scPy : FnScope ["n", "row", "x"] ["n", "row"] (defScope f_paly) := ⟨rfl, rfl, rfl, by decide +kernel, rfl, by decide +kernel, by decide +kernel⟩
theorem ok_paly (S : Src K mg "paly" f_paly ["n", "row"]) (T : RwC K CW) (mr : mg "range" = none) : Def P w K mg base CX0 4 "paly" ["n", "row"] (spV CW .paly) := by
  refine S.def fun f fd F => F.ok scPy (fun vs H Q E h => ?_) fun cdv A outer s H vs Q E hr h => ?_
  · obtain ⟨n, pr, w, h, y, rfl, _⟩ := h
    rfl
  obtain ⟨n, pr, w, h, y, rfl, hn, ⟨dx, hR⟩, hz, q⟩ := h
  obtain ⟨z1, z2, z3⟩ := id hz
  refine ⟨_, pss_one (ps_ret (pe_lc (own := [("x", 2)]) rfl scPy.nd (pi_range1 rfl mr (pa_cons (pe_fld (pv 1) rfl) pa_nil)) (blkOk_by (by kernel_rfl)) (fun _ _ _ _ _ => pg_name (i := 2) scPy.nd rfl (Or.inl rfl)) (fun _ _ _ _ _ => pts_nil)
      (fun _ _ _ _ _ => pe_op op_fdiv (pe_op op_mul (pv 0) (pv 2)) (pe_fldK (K := K) rfl (pv 1) rfl)))), ?_⟩
  repeat first|refine ⟨_,rfl,?_⟩|refine ⟨_,_,_,_,_,rfl,‹_›,T.cl,by first|exact T.nw|exact T.nh|exact T.ny|exact T.nv,by first|exact rw_w _ _ _|exact rw_h _ _ _|exact rw_y _ _ _|exact rw_v _ _ _,?_⟩|refine ⟨_,_,rfl,rfl,by first|exact .inl ⟨by omega,by omega⟩|exact .inr ⟨by omega,by omega⟩|exact ⟨by omega,by omega⟩,?_⟩|refine ⟨_,_,rfl,rfl,?_⟩|refine ⟨_,_,rfl,?_⟩
  refine ⟨by omega, by omega, fun D hD => ?_⟩
  rw [Int.toNat_natCast]
  refine lc_mapR (ys := (List.range w).map (vaF .paly n w h y)) hD (rng_len _ _) (sz1024 z1) (fun i yv H2 hi hy s2 N hN => ?_) fun H2 s2 h2 => q D H2 s2 h2
  obtain ⟨_, rfl⟩ := map_at hy
  have hR2 := s2 _ _ hR
  rw [Int.zero_add]
  refine ⟨rfl, ?_⟩
  repeat first|refine ⟨_,rfl,?_⟩|refine ⟨_,_,_,_,_,rfl,‹_›,T.cl,by first|exact T.nw|exact T.nh|exact T.ny|exact T.nv,by first|exact rw_w _ _ _|exact rw_h _ _ _|exact rw_y _ _ _|exact rw_v _ _ _,?_⟩|refine ⟨_,_,rfl,rfl,by first|exact .inl ⟨by omega,by omega⟩|exact .inr ⟨by omega,by omega⟩|exact ⟨by omega,by omega⟩,?_⟩|refine ⟨_,_,rfl,rfl,?_⟩|refine ⟨_,_,rfl,?_⟩
  exact hN _ (fun _ _ e => e)
theorem scBy : FnScope ["n", "row"] ["n", "row"] (defScope f_bendy) := ⟨rfl, rfl, rfl, by decide +kernel, rfl, by decide +kernel, by decide +kernel⟩
theorem sl_b (n w h y x : Nat) : V.int (slF n w h (fun x => (2 * (x : Int) + 1 - (w : Int)) * (h : Int) - (2 * (y : Int) + 1 - (h : Int)) * (w : Int)) x) = vaF .bendy n w h y x := by
  unfold vaF slF Sa57.stripes
  dsimp only
  congr 1
  show _ = (n : Int) * (((2 * (x : Int) + 1 - (w : Int)) * (h : Int) - (2 * (y : Int) + 1 - (h : Int)) * (w : Int)) + 2 * (w : Int) * (h : Int)) / (4 * (w : Int) * (h : Int))
  rw [Int.mul_assoc 2, Int.mul_assoc 4]
theorem ok_bendy (S : Src K mg "bendy" f_bendy ["n", "row"]) (T : RwC K CW) (Db : Def P w K mg base CX0 2 "b_values" ["row"] (spL CW bF)) (Ds : DSl P w K mg base CW) : Def P w K mg base CX0 3 "bendy" ["n", "row"] (spV CW .bendy) := by
  refine S.def fun f fd F => F.ok scBy (fun vs H Q E h => ?_) fun cdv A outer s H vs Q E hr h => ?_
  · obtain ⟨n, pr, w, h, y, rfl, _⟩ := h
    rfl
  obtain ⟨n, pr, w, h, y, rfl, hn, hR, hz, q⟩ := h
  refine ⟨_, pss_one (ps_ret (pe_callD Ds (hr.mono (by decide)) rfl pass0 (pa_cons (pv 0) (pa_cons (pe_callD Db hr rfl pass0 (pa_cons (pv 1) pa_nil)) (pa_cons (pv 1) pa_nil))))), ?_⟩
  refine ⟨_, rfl, _, rfl, pr, w, h, y, rfl, hR, hz, fun p1 H1 s1 h1 => ?_⟩
  refine ⟨_, rfl, n, p1, pr, w, h, y, _, rfl, hn, h1, hR.same s1, hz, fun p2 H2 s2 h2 => q p2 H2 (same_trans s1 s2) ?_⟩
  rw [h2]
  congr 2
  exact List.map_congr_left fun x _ => sl_b n w h y x
theorem scCh : FnScope ["n", "row", "one", "other"] ["n", "row"] (defScope f_chequy) := ⟨rfl, rfl, rfl, by decide +kernel, rfl, by decide +kernel, by decide +kernel⟩
theorem ok_chequy (S : Src K mg "chequy" f_chequy ["n", "row"]) (T : RwC K CW) (Dp : Def P w K mg base CX0 4 "paly" ["n", "row"] (spV CW .paly)) (Db : Def P w K mg base CX0 4 "barry" ["n", "row"] (spV CW .barry)) (mz : mg "zip" = none) : Def P w K mg base CX0 5 "chequy" ["n", "row"] (spV CW .chequy) := by
  refine S.def fun f fd F => F.ok scCh (fun vs H Q E h => ?_) fun cdv A outer s H vs Q E hr h => ?_
  · obtain ⟨n, pr, w, h, y, rfl, _⟩ := h
    rfl
  obtain ⟨n, pr, w, h, y, rfl, hn, hR, hz, q⟩ := h
  have z1 := hz.wb
  refine ⟨_, pss_one (ps_ret (pe_lc (own := [("one", 2), ("other", 3)]) rfl scCh.nd (pi_zip rfl mz (pa_cons (pe_callD Dp hr rfl pass0 (pa_cons (pv 0) (pa_cons (pv 1) pa_nil))) (pa_cons (pe_callD Db hr rfl pass0 (pa_cons (pv 0) (pa_cons (pv 1) pa_nil))) pa_nil))) (blkOk_by (by kernel_rfl))
      (fun _ _ _ _ _ => pg_tupK (K := K) (n := 2) rfl rfl (pgs_cons (pg_name (i := 2) scCh.nd rfl (Or.inl rfl) (Or.inr rfl)) (pgs_cons (pg_name (i := 3) scCh.nd rfl (Or.inl rfl) (Or.inr rfl)) pgs_nil))) (fun _ _ _ _ _ => pts_nil) (fun _ _ _ _ _ => pe_op op_add (pv 2) (pv 3)))), ?_⟩
  refine ⟨_, rfl, _, rfl, n, pr, w, h, y, rfl, hn, hR, hz, fun p1 H1 s1 h1 => ?_⟩
  refine ⟨_, rfl, _, rfl, n, pr, w, h, y, rfl, hn, hR.same s1, hz, fun p2 H2 s2 h2 => ?_⟩
  refine ⟨p1, p2, _, _, rfl, SqL.of (s2 _ _ h1), SqL.of h2, fun D hD => ?_⟩
  refine lc_mapZ (n := w) (ys := (List.range w).map (vaF .chequy n w h y)) (s2 _ _ h1) h2 hD (rng_len _ _) (rng_len _ _) (rng_len _ _) (sz1024 z1) (fun i x z yv Tp H3 hx hz' hy s3 hT N hN => ?_) fun H3 s3 h3 => q D H3 (same_trans s1 (same_trans s2 s3)) h3
  obtain ⟨hi, rfl⟩ := map_at hx
  obtain ⟨_, rfl⟩ := map_at hz'
  obtain ⟨_, rfl⟩ := map_at hy
  refine ⟨Tp, _, rfl, SqT.of hT, rfl, _, _, rfl, _, _, rfl, rfl, rfl, ?_⟩
  repeat first|refine ⟨_,rfl,?_⟩|refine ⟨_,_,_,_,_,rfl,‹_›,T.cl,by first|exact T.nw|exact T.nh|exact T.ny|exact T.nv,by first|exact rw_w _ _ _|exact rw_h _ _ _|exact rw_y _ _ _|exact rw_v _ _ _,?_⟩|refine ⟨_,_,rfl,rfl,by first|exact .inl ⟨by omega,by omega⟩|exact .inr ⟨by omega,by omega⟩|exact ⟨by omega,by omega⟩,?_⟩|refine ⟨_,_,rfl,rfl,?_⟩|refine ⟨_,_,rfl,?_⟩
  exact hN _ (fun _ _ e => e)
theorem scLo : FnScope ["n", "row", "one", "other"] ["n", "row"] (defScope f_lozengy) := ⟨rfl, rfl, rfl, by decide +kernel, rfl, by decide +kernel, by decide +kernel⟩
theorem sl_c (n w h y x : Nat) : Sa57.stripes .lozengy n (cl w h y x) = Sa57.stripes .bendy n (cl w h y x) + slF n w h (fun x => (2 * (x : Int) + 1 - (w : Int)) * (h : Int) + (2 * (y : Int) + 1 - (h : Int)) * (w : Int)) x := by
  unfold slF Sa57.stripes
  dsimp only
  congr 1
  show (n : Int) * (((2 * (x : Int) + 1 - (w : Int)) * (h : Int) + (2 * (y : Int) + 1 - (h : Int)) * (w : Int)) + 2 * (w : Int) * (h : Int)) / (4 * (w : Int) * (h : Int)) = _
  rw [Int.mul_assoc 2, Int.mul_assoc 4]
theorem ok_lozengy (S : Src K mg "lozengy" f_lozengy ["n", "row"]) (T : RwC K CW) (Db : Def P w K mg base CX0 3 "bendy" ["n", "row"] (spV CW .bendy)) (Dc : Def P w K mg base CX0 2 "c_values" ["row"] (spL CW cF)) (Ds : DSl P w K mg base CW) (mz : mg "zip" = none) : Def P w K mg base CX0 5 "lozengy" ["n", "row"] (spV CW .lozengy) := by
  refine S.def fun f fd F => F.ok scLo (fun vs H Q E h => ?_) fun cdv A outer s H vs Q E hr h => ?_
  · obtain ⟨n, pr, w, h, y, rfl, _⟩ := h
    rfl
  obtain ⟨n, pr, w, h, y, rfl, hn, hR, hz, q⟩ := h
  have z1 := hz.wb
  have hr3 : Room 3 _ := hr.mono (by decide)
  have hr2 : Room 2 _ := hr.mono (by decide)
  have hr1 : Room 1 _ := hr.mono (by decide)
  refine ⟨_, pss_one (ps_ret (pe_lc (own := [("one", 2), ("other", 3)]) rfl scLo.nd (pi_zip rfl mz (pa_cons (pe_callD Db hr3 rfl pass0 (pa_cons (pv 0) (pa_cons (pv 1) pa_nil))) (pa_cons (pe_callD Ds hr1 rfl pass0 (pa_cons (pv 0) (pa_cons (pe_callD Dc hr2 rfl pass0 (pa_cons (pv 1) pa_nil)) (pa_cons (pv 1) pa_nil)))) pa_nil))) (blkOk_by (by kernel_rfl))
      (fun _ _ _ _ _ => pg_tupK (K := K) (n := 2) rfl rfl (pgs_cons (pg_name (i := 2) scLo.nd rfl (Or.inl rfl) (Or.inr rfl)) (pgs_cons (pg_name (i := 3) scLo.nd rfl (Or.inl rfl) (Or.inr rfl)) pgs_nil))) (fun _ _ _ _ _ => pts_nil) (fun _ _ _ _ _ => pe_op op_add (pv 2) (pv 3)))), ?_⟩
  refine ⟨_, rfl, _, rfl, n, pr, w, h, y, rfl, hn, hR, hz, fun p1 H1 s1 h1 => ?_⟩
  refine ⟨_, rfl, _, rfl, pr, w, h, y, rfl, hR.same s1, hz, fun p3 H3 s3 h3 => ?_⟩
  refine ⟨_, rfl, n, p3, pr, w, h, y, _, rfl, hn, h3, (hR.same s1).same s3, hz, fun p2 H2 s2 h2 => ?_⟩
  have s4 := same_trans s3 s2
  refine ⟨p1, p2, _, _, rfl, SqL.of (s4 _ _ h1), SqL.of h2, fun D hD => ?_⟩
  refine lc_mapZ (n := w) (ys := (List.range w).map (vaF .lozengy n w h y)) (s4 _ _ h1) h2 hD (rng_len _ _) (rng_len _ _) (rng_len _ _) (sz1024 z1) (fun i x z yv Tp H5 hx hz' hy s5 hT N hN => ?_) fun H5 s5 h5 => q D H5 (same_trans s1 (same_trans s4 s5)) h5
  obtain ⟨hi, rfl⟩ := map_at hx
  obtain ⟨_, rfl⟩ := map_at hz'
  obtain ⟨_, rfl⟩ := map_at hy
  have hN' := hN H5 (fun _ _ e => e)
  unfold vaF at hN'
  rw [sl_c] at hN'
  refine ⟨Tp, _, rfl, SqT.of hT, rfl, _, _, rfl, _, _, rfl, rfl, rfl, ?_⟩
  repeat first|refine ⟨_,rfl,?_⟩|refine ⟨_,_,_,_,_,rfl,‹_›,T.cl,by first|exact T.nw|exact T.nh|exact T.ny|exact T.nv,by first|exact rw_w _ _ _|exact rw_h _ _ _|exact rw_y _ _ _|exact rw_v _ _ _,?_⟩|refine ⟨_,_,rfl,rfl,by first|exact .inl ⟨by omega,by omega⟩|exact .inr ⟨by omega,by omega⟩|exact ⟨by omega,by omega⟩,?_⟩|refine ⟨_,_,rfl,rfl,?_⟩|refine ⟨_,_,rfl,?_⟩
  exact hN'
end
end A57

namespace L2
open PySem
theorem pe_ixL {X : Cx} {K : PySem.W.Frag} {a b : Expr} {ta tb : TE} {pos : Pos} (hK : X.K = K) (ha : PE X a ta) (hb : PE X b tb) (hs : PlainIx b) : PE X (.Subscript a b pos) (tOp (rIxL K) ta tb) := by
  subst hK
  exact pe_ix ix_list ha hb hs
end L2
namespace A57
open PySem L2
open Sa57 (Bytes ascii Read)
theorem fi_number (k : String) (n : Int) (h : Addr) : (fiF k n h).lookup ("number" : Str) = some (.int n) := (lk_ne _ _ (sne (by decide))).trans (lk_self _ _ _)
theorem it_number (k : String) (n t : Int) : (itF k n t).lookup ("number" : Str) = some (.int n) := (lk_ne _ _ (sne (by decide))).trans (lk_self _ _ _)
section
variable {P : Program} {w : World} {K : PySem.W.Frag} {mg : Str → Option Value} {base : Heap} {CW : Addr} {c : Cs}
def pFn : Sa57.Parting → String
  | .pale => "per_pale" | .fess => "per_fess" | .bend => "per_bend" | .sinister => "per_bend_sinister" | .chevron => "per_chevron" | .saltire => "per_saltire" | .quarterly => "quarterly"
structure ParG (P : Program) (w : World) (K : PySem.W.Frag) (mg : Str → Option Value) : Prop where
  ex : ∃ D, RTabG P w K mg "PARTED" D ∧ ∀ p, p ≠ .quarterly → ∃ f, (D.find? fun q => q.1 = pName p).map (·.2) = some f ∧ mg (pFn p) = some (.ref f)
theorem parG_of {f1 f2 f3 f4 f5 f6 : Addr} (T : RTabG P w K mg "PARTED" [("pale", f1), ("fess", f2), ("bend", f3), ("bend sinister", f4), ("chevron", f5), ("saltire", f6)])
    (h1 : mg "per_pale" = some (.ref f1)) (h2 : mg "per_fess" = some (.ref f2)) (h3 : mg "per_bend" = some (.ref f3)) (h4 : mg "per_bend_sinister" = some (.ref f4)) (h5 : mg "per_chevron" = some (.ref f5)) (h6 : mg "per_saltire" = some (.ref f6)) : ParG P w K mg :=
  ⟨_, T, fun p hp => by cases p <;> first | exact ⟨_, rfl, h1⟩ | exact ⟨_, rfl, h2⟩ | exact ⟨_, rfl, h3⟩ | exact ⟨_, rfl, h4⟩ | exact ⟨_, rfl, h5⟩ | exact ⟨_, rfl, h6⟩ | exact absurd rfl hp⟩
structure VarG (P : Program) (w : World) (K : PySem.W.Frag) (mg : Str → Option Value) : Prop where
  ex : ∃ D, RTabG P w K mg "VARIED" D ∧ (∀ v, ∃ f, (D.find? fun q => q.1 = vName v).map (·.2) = some f ∧ mg (vName v) = some (.ref f)) ∧ ∀ p, (D.find? fun q => q.1 = pName p).map (·.2) = none
theorem varG_of {f1 f2 f3 f4 f5 : Addr} (T : RTabG P w K mg "VARIED" [("barry", f1), ("paly", f2), ("bendy", f3), ("chequy", f4), ("lozengy", f5)])
    (h1 : mg "barry" = some (.ref f1)) (h2 : mg "paly" = some (.ref f2)) (h3 : mg "bendy" = some (.ref f3)) (h4 : mg "chequy" = some (.ref f4)) (h5 : mg "lozengy" = some (.ref f5)) : VarG P w K mg :=
  ⟨_, T, fun v => by cases v <;> first | exact ⟨_, rfl, h1⟩ | exact ⟨_, rfl, h2⟩ | exact ⟨_, rfl, h3⟩ | exact ⟨_, rfl, h4⟩ | exact ⟨_, rfl, h5⟩, fun p => by cases p <;> rfl⟩
structure DFlds (P : Program) (w : World) (K : PySem.W.Frag) (mg : Str → Option Value) (base : Heap) (CW : Addr) : Prop where
  p : ∀ p, p ≠ .quarterly → Def P w K mg base CX0 5 (pFn p) ["row"] (spL CW (paF p))
  v : ∀ v, Def P w K mg base CX0 5 (vName v) ["n", "row"] (spV CW v)
def spIF (c : Cs) (CW : Addr) : Sp := fun vs H Q _ => ∃ (pf pr : Addr) (f : Sa57.Field) (w h y : Nat), vs = [.ref pf, .ref pr] ∧ FieldAt c H pf f ∧ isTwo f = true ∧ WfF f ∧ RowAt CW H pr w h y ∧ Sz w h y ∧ ∀ p H', Same H H' → H' p = some (.lst ((List.range w).map fun x => V.bl (chosen f w h y x))) → Q (.ref p) H'
theorem scIF : FnScope ["field", "row", "pieces", "piece"] ["field", "row"] (defScope f_in_first) := ⟨rfl, rfl, rfl, by decide +kernel, rfl, by decide +kernel, by decide +kernel⟩
abbrev DIF (P : Program) (w : World) (K : PySem.W.Frag) (mg : Str → Option Value) (base : Heap) (c : Cs) (CW : Addr) : Prop := Def P w K mg base CX0 6 "in_first" ["field", "row"] (spIF c CW)
theorem ok_IF (S : Src K mg "in_first" f_in_first ["field", "row"]) (C : PC3 K c) (fn : NoAttr K c.field "number") (GP : ParG P w K mg) (GV : VarG P w K mg) (D : DFlds P w K mg base CW) : DIF P w K mg base c CW := by
  refine S.def fun f fd F => F.ok scIF (fun vs H Q E h => ?_) fun cdv A outer s H vs Q E hr h => ?_
  · obtain ⟨pf, pr, f', w, h, y, rfl, _⟩ := h
    rfl
  obtain ⟨pf, pr, f', w, h, y, rfl, hF, h2, hwf, hR, hz, q⟩ := h
  have z1 := hz.wb
  obtain ⟨D1, T1, hP⟩ := GP.ex
  obtain ⟨a1, m1, t1⟩ := T1.ex
  obtain ⟨D2, T2, hV, hVn⟩ := GV.ex
  obtain ⟨a2, m2, t2⟩ := T2.ex
  refine ⟨_, pss_cons (ps_if (pt_cmpR (op_in_rtab t2) (pe_fld (pv 0) rfl) (pe_gref rfl m2) (by with_unfolding_all rfl))
      (pss_cons (ps_set (i := 2) scIF.nd rfl (Or.inl rfl) (pe_callX (pe_rtab t2 (pe_gref rfl m2) (pe_fld (pv 0) rfl) (fun _ _ => rfl)) hr pass0 (pa_cons (pe_fld (pv 0) rfl) (pa_cons (pv 1) pa_nil))))
      (pss_one (ps_ret (pe_lc (own := [("piece", 3)]) rfl scIF.nd (pi_list (pv 2)) (blkOk_by (by kernel_rfl)) (fun _ _ _ _ _ => pg_name (i := 3) scIF.nd rfl (Or.inl rfl)) (fun _ _ _ _ _ => pts_nil)
        (fun _ _ _ _ _ => pe_cmpR op_eq (pe_op op_mod (pv 3) pe_int) pe_int (nomark _)))))) pss_nil)
    (pss_one (ps_ret (pe_callX (pe_rtab t1 (pe_gref rfl m1) (pe_fld (pv 0) rfl) (fun _ _ => rfl)) hr pass0 (pa_cons (pv 1) pa_nil)))), ?_⟩
  cases f' with
  | plain t => cases h2
  | varied v n t u =>
    obtain ⟨dx, ph, g1, g2⟩ := hF
    obtain ⟨fv, ev', mv⟩ := hV v
    obtain ⟨fv', fdv, mv', kp, hb, FV⟩ := (D.v v).ex
    obtain rfl : fv' = fv := by rw [mv] at mv'; cases mv'; rfl
    refine ⟨_, rfl, pf, c.field, dx, _, _, rfl, g1, C.fc, C.fk, fi_kind _ _ _, _, rfl, rfl, _, rfl, ?_⟩
    rw [rAt_names, ev']
    refine iteT ⟨_, rfl, pf, c.field, dx, _, _, rfl, g1, C.fc, C.fk, fi_kind _ _ _, _, fv', rfl, rfl, by rw [rAt_names]; exact ev', fv', rfl, kp, ?_⟩
    refine ⟨_, rfl, pf, c.field, dx, _, _, rfl, g1, C.fc, fn, fi_number _ _ _, _, rfl, fdv, _, _, hb, FV, n, pr, w, h, y, rfl, hwf, hR, hz, fun p1 H1 s1 h1 => ?_⟩
    refine ⟨_, rfl, p1, rfl, ⟨_, SqL.of h1⟩, fun D hD => ?_⟩
    refine lc_mapL (ys := (List.range w).map fun x => V.bl (chosen (.varied v n t u) w h y x)) h1 hD (by rw [rng_len, rng_len]) (by rw [rng_len]; exact sz1024 z1) (fun i x yv H2 hx hy s2 N hN => ?_) fun H2 s2 h2 => q D H2 (same_trans s1 s2) h2
    obtain ⟨hi, rfl⟩ := map_at hx
    obtain ⟨_, rfl⟩ := map_at hy
    refine ⟨rfl, _, rfl, _, _, rfl, rfl, (by decide : (0 : Int) < 2), rfl, ?_⟩
    rw [int_dec]
    exact hN _ (fun _ _ e => e)
  | parted p a b =>
    have hp : p ≠ .quarterly := by simpa [isTwo] using h2
    obtain ⟨dx, ph, va, vb, g1, g2, g3, g4⟩ := hF
    obtain ⟨fp, ep, mp⟩ := hP p hp
    obtain ⟨fp', fdp, mp', kp, hb, FP⟩ := (D.p p hp).ex
    obtain rfl : fp' = fp := by rw [mp] at mp'; cases mp'; rfl
    refine ⟨_, rfl, pf, c.field, dx, _, _, rfl, g1, C.fc, C.fk, fi_kind _ _ _, _, rfl, rfl, _, rfl, ?_⟩
    rw [rAt_names, hVn p]
    refine iteF ⟨_, rfl, pf, c.field, dx, _, _, rfl, g1, C.fc, C.fk, fi_kind _ _ _, _, fp', rfl, rfl, by rw [rAt_names]; exact ep, fp', rfl, kp, ?_⟩
    exact ⟨_, rfl, fdp, _, _, hb, FP, pr, w, h, y, rfl, hR, hz, q⟩
/-! ### cells of halves -/
theorem half_same (ok : c.Ok) {H H' : Hp} (s : Same H H') {v : V} {a : Sa57.Half} (h : HalfAt c H v a) : HalfAt c H' v a := HalfAt.keep ok (Keep.same s) a v h
def kA (n : Nat) : Nat := 4 * n + 10
def spAC (c : Cs) (CW : Addr) (n : Nat) : Sp := fun vs H Q _ => ∃ (pa pr : Addr) (a : Sa57.Arms) (w h y : Nat), vs = [.ref pa, .ref pr] ∧ ArmsAt c H pa a ∧ WfA a ∧ (Sa57.told a).2.2 ≤ n ∧ RowAt CW H pr w h y ∧ Sz w h y ∧ ∀ p H', Same H H' → H' p = some (.lst (cV (arR a w h y))) → Q (.ref p) H'
abbrev DAC (P : Program) (w : World) (K : PySem.W.Frag) (mg : Str → Option Value) (base : Heap) (c : Cs) (CW : Addr) (n : Nat) : Prop := Def P w K mg base CX0 (kA n) "arms_cells" ["arms", "row"] (spAC c CW n)
def spHC (c : Cs) (CW : Addr) (n : Nat) : Sp := fun vs H Q _ => ∃ (v : V) (pr : Addr) (hf : Sa57.Half) (w h y : Nat), vs = [v, .ref pr] ∧ HalfAt c H v hf ∧ WfH hf ∧ (Sa57.toldHalf hf).2.2 ≤ n ∧ RowAt CW H pr w h y ∧ Sz w h y ∧ ∀ p H', Same H H' → H' p = some (.lst (cV (hfR hf w h y))) → Q (.ref p) H'
theorem scHC : FnScope ["half", "row"] ["half", "row"] (defScope f_half_cells) := ⟨rfl, rfl, rfl, by decide +kernel, rfl, by decide +kernel, by decide +kernel⟩
theorem arms_ins {H : Hp} {p : Addr} {a : Sa57.Arms} (h : ArmsAt c H p a) : ∃ dx fs, H p = some (.ins c.arms dx fs) := by
  obtain ⟨f0, l0⟩ := a
  obtain ⟨dx', pf', pb', ps', z, _⟩ := h
  exact ⟨dx', _, z⟩
theorem ok_HC (S : Src K mg "half_cells" f_half_cells ["half", "row"]) (C : PC3 K c) (mA : mg "Arms" = some (.ref c.arms)) (mi : mg "isinstance" = none) {n : Nat} (Da : DAC P w K mg base c CW n) (Dt : DTinc P w K mg base CW) : Def P w K mg base CX0 (kA n + 1) "half_cells" ["half", "row"] (spHC c CW n) := by
  refine S.def fun f fd F => F.ok scHC (fun vs H Q E h => ?_) fun cdv A outer s H vs Q E hr h => ?_
  · obtain ⟨v, pr, hf, w, h, y, rfl, _⟩ := h
    rfl
  obtain ⟨v, pr, hf, w, h, y, rfl, hH, hwf, hd, hR, hz, q⟩ := h
  have hr2 : Room 2 _ := hr.mono (by unfold kA; omega)
  refine ⟨_, pss_cons (ps_if (pt_val (pe_callB (r := rInst K c.arms) (cr_isinst (cls := c.arms)) rfl mi PyProof.Rows.boot_isinstance (pa_cons (pv 0) (pa_cons (pe_gref rfl mA) pa_nil)))) (pss_one (ps_ret (pe_callD Da hr rfl pass0 (pa_cons (pv 0) (pa_cons (pv 1) pa_nil))))) pss_nil)
    (pss_one (ps_ret (pe_callD Dt hr2 rfl pass0 (pa_cons (pv 0) (pa_cons (pv 1) pa_nil))))), ?_⟩
  cases hf with
  | plain t =>
    obtain rfl : v = .int (t : Nat) := hH
    refine ⟨_, rfl, _, _, false, rfl, TyOf.int _, C.k0, false, rfl, iteF ?_⟩
    exact ⟨_, rfl, _, rfl, t, pr, w, h, y, rfl, hR, hz.wb, q⟩
  | arms a =>
    obtain ⟨pa, rfl, hA⟩ := hH
    obtain ⟨dx, fs, z⟩ := arms_ins hA
    refine ⟨_, rfl, _, _, true, rfl, TyOf.ins z C.ac C.ha C.hn C.htk C.hm, C.k1, true, rfl, iteT ?_⟩
    exact ⟨_, rfl, _, rfl, pa, pr, a, w, h, y, rfl, hA, hwf, hd, hR, hz, q⟩
theorem FieldAt.two {H : Hp} {p : Addr} {f : Sa57.Field} (h : FieldAt c H p f) (h2 : isTwo f = true) : ∃ dx ph n va vb, H p = some (.ins c.field dx (fiF (fKind f) n ph)) ∧ H ph = some (.lst [va, vb]) ∧ HalfAt c H va (half1 f) ∧ HalfAt c H vb (half2 f) := by
  cases f with
  | plain t => cases h2
  | parted q a b =>
    obtain ⟨dx, ph, va, vb, h1, h2, h3, h4⟩ := h
    exact ⟨dx, ph, _, va, vb, h1, h2, h3, h4⟩
  | varied v n t u =>
    obtain ⟨dx, ph, h1, h2⟩ := h
    exact ⟨dx, ph, _, _, _, h1, h2, rfl, rfl⟩
theorem two_deep (f : Sa57.Field) : (Sa57.toldHalf (half1 f)).2.2 ≤ (Sa57.toldField f).2.2 ∧ (Sa57.toldHalf (half2 f)).2.2 ≤ (Sa57.toldField f).2.2 := by
  cases f with
  | plain t => simp [half1, half2, Sa57.toldHalf, Sa57.toldField]
  | parted q a b => simp only [half1, half2, Sa57.toldField]; omega
  | varied v n t u => simp [half1, half2, Sa57.toldHalf, Sa57.toldField]
theorem two_wf {f : Sa57.Field} (h : WfF f) : WfH (half1 f) ∧ WfH (half2 f) := by
  cases f with
  | plain t => exact ⟨trivial, trivial⟩
  | parted q a b => exact h
  | varied v n t u => exact ⟨trivial, trivial⟩
/-- a def of a field and a row that gives its cells -/
def spFC (c : Cs) (CW : Addr) (n : Nat) (ok : Sa57.Field → Prop) : Sp := fun vs H Q _ => ∃ (pf pr : Addr) (f : Sa57.Field) (w h y : Nat), vs = [.ref pf, .ref pr] ∧ FieldAt c H pf f ∧ ok f ∧ WfF f ∧ (Sa57.toldField f).2.2 ≤ n ∧ RowAt CW H pr w h y ∧ Sz w h y ∧ ∀ p H', Same H H' → H' p = some (.lst (cV (fiR f w h y))) → Q (.ref p) H'
theorem scTH : FnScope ["field", "row", "first", "second", "chosen", "x"] ["field", "row"] (defScope f_two_halves_cells) := ⟨rfl, rfl, rfl, by decide +kernel, rfl, by decide +kernel, by decide +kernel⟩
theorem cV_at {l : List Nat} {i t : Nat} (h : l[i]? = some t) : (cV l)[i]? = some (V.int (t : Int)) := by unfold cV; rw [List.getElem?_map, h]; rfl
theorem ok_TH (S : Src K mg "two_halves_cells" f_two_halves_cells ["field", "row"]) (T : RwC K CW) (C : PC3 K c) (ok : c.Ok) (mr : mg "range" = none) {n : Nat} (Dh : Def P w K mg base CX0 (kA n + 1) "half_cells" ["half", "row"] (spHC c CW n)) (Di : DIF P w K mg base c CW) :
    Def P w K mg base CX0 (kA n + 2) "two_halves_cells" ["field", "row"] (spFC c CW n fun f => isTwo f = true) := by
  refine S.def fun f fd F => F.ok scTH (fun vs H Q E h => ?_) fun cdv A outer s H vs Q E hr h => ?_
  · obtain ⟨pf, pr, f', w, h, y, rfl, _⟩ := h
    rfl
  obtain ⟨pf, pr, f', w, h, y, rfl, hF, h2, hwf, hd, hR, hz, q⟩ := h
  have z1 := hz.wb
  have hr6 : Room 6 _ := hr.mono (by unfold kA; omega)
  refine ⟨_, pss_cons (ps_set (i := 2) scTH.nd rfl (Or.inr rfl) (pe_callD Dh hr rfl pass0 (pa_cons (pe_ix ix_list (pe_fld (pv 0) rfl) pe_int (fun _ _ => rfl)) (pa_cons (pv 1) pa_nil))))
    (pss_cons (ps_set (i := 3) scTH.nd rfl (Or.inr rfl) (pe_callD Dh hr rfl pass0 (pa_cons (pe_ix ix_list (pe_fld (pv 0) rfl) pe_int (fun _ _ => rfl)) (pa_cons (pv 1) pa_nil))))
    (pss_cons (ps_set (i := 4) scTH.nd rfl (Or.inr rfl) (pe_callD Di hr6 rfl pass0 (pa_cons (pv 0) (pa_cons (pv 1) pa_nil))))
    (pss_one (ps_ret (pe_lc (own := [("x", 5)]) rfl scTH.nd (pi_range1 rfl mr (pa_cons (pe_fld (pv 1) rfl) pa_nil)) (blkOk_by (by kernel_rfl)) (fun _ _ _ _ _ => pg_name (i := 5) scTH.nd rfl (Or.inl rfl)) (fun _ _ _ _ _ => pts_nil)
      (fun _ _ _ _ _ => pe_ifExp (pt_val (pe_ixL (K := K) rfl (pv 4) (pv 5) (fun _ _ => rfl))) (pe_ixL (K := K) rfl (pv 2) (pv 5) (fun _ _ => rfl)) (pe_ixL (K := K) rfl (pv 3) (pv 5) (fun _ _ => rfl)))))))), ?_⟩
  obtain ⟨dx, ph, nn, va, vb, g1, g2, g3, g4⟩ := hF.two h2
  obtain ⟨d1, d2⟩ := two_deep f'
  obtain ⟨w1, w2⟩ := two_wf hwf
  refine ⟨_, rfl, pf, c.field, dx, _, _, rfl, g1, C.fc, C.fh, fi_halves _ _ _, ph, _, _, va, rfl, rfl, SqL.of g2, atI_nat (j := 0) rfl, _, rfl, va, pr, _, w, h, y, rfl, g3, w1, by omega, hR, hz, fun p1 H1 s1 h1 => ?_⟩
  have g1' := s1 _ _ g1
  refine ⟨_, rfl, pf, c.field, dx, _, _, rfl, g1', C.fc, C.fh, fi_halves _ _ _, ph, _, _, vb, rfl, rfl, SqL.of (s1 _ _ g2), atI_nat (j := 1) rfl, _, rfl, vb, pr, _, w, h, y, rfl, half_same ok s1 g4, w2, by omega, hR.same s1, hz, fun p2 H2 s2 h2' => ?_⟩
  have s12 := same_trans s1 s2
  refine ⟨_, rfl, _, rfl, pf, pr, f', w, h, y, rfl, field_same ok s12 hF, h2, hwf, hR.same s12, hz, fun p3 H3 s3 h3 => ?_⟩
  obtain ⟨dxr, hR3⟩ := hR.same (same_trans s12 s3)
  have e1 := s3 _ _ (s2 _ _ h1)
  have e2 := s3 _ _ h2'
  repeat first|refine ⟨_,rfl,?_⟩|refine ⟨_,_,_,_,_,rfl,‹_›,T.cl,by first|exact T.nw|exact T.nh|exact T.ny|exact T.nv,by first|exact rw_w _ _ _|exact rw_h _ _ _|exact rw_y _ _ _|exact rw_v _ _ _,?_⟩|refine ⟨_,_,rfl,rfl,by first|exact .inl ⟨by omega,by omega⟩|exact .inr ⟨by omega,by omega⟩|exact ⟨by omega,by omega⟩,?_⟩|refine ⟨_,_,rfl,rfl,?_⟩|refine ⟨_,_,rfl,?_⟩
  refine ⟨by omega, by omega, fun D hD => ?_⟩
  rw [Int.toNat_natCast]
  refine lc_mapR (ys := cV (fiR f' w h y)) hD (by rw [cV_len]; simp [fiR]) (sz1024 z1) (fun i yv H4 hi hy s4 N hN => ?_) fun H4 s4 h4 => q D H4 (same_trans s12 (same_trans s3 s4)) h4
  rw [Int.zero_add]
  have hc : ((List.range w).map fun x => V.bl (chosen f' w h y x))[i]? = some (V.bl (chosen f' w h y i)) := by simp [hi]
  have ha := cV_at (hfR_get (hf := half1 f') (h := h) (y := y) hi)
  have hb := cV_at (hfR_get (hf := half2 f') (h := h) (y := y) hi)
  have e0 : (fiR f' w h y)[i]? = some (Sa57.drawField f' (cl w h y i)) := by simp [fiR, hi]
  rw [cV_at e0] at hy
  obtain rfl := (Option.some.inj hy).symm
  have ed := two_eq (f := f') (w := w) (h := h) (y := y) (x := i) h2 hi
  rw [hfR_get hi, hfR_get hi] at ed
  refine ⟨rfl, _, rfl, _, rfl, p3, _, _, _, rfl, rfl, SqL.of (s4 _ _ h3), atI_nat hc, _, rfl, ?_⟩
  cases hch : chosen f' w h y i with
  | true =>
    rw [hch, if_pos rfl] at ed
    refine iteT ⟨_, rfl, _, rfl, p1, _, _, _, rfl, rfl, SqL.of (s4 _ _ e1), atI_nat ha, ?_⟩
    rw [← Option.some.inj ed]
    exact hN _ (fun _ _ e => e)
  | false =>
    rw [hch, if_neg (by decide)] at ed
    refine iteF ⟨_, rfl, _, rfl, p2, _, _, _, rfl, rfl, SqL.of (s4 _ _ e2), atI_nat hb, ?_⟩
    rw [← Option.some.inj ed]
    exact hN _ (fun _ _ e => e)
/-! ### quarters -/
def spQR (CW : Addr) : Sp := fun vs H Q _ => ∃ (pr : Addr) (w h y lo hi : Nat), vs = [.ref pr, .int (lo : Nat), .int (hi : Nat)] ∧ RowAt CW H pr w h y ∧ lo ≤ hi ∧ ∀ p H', Same H H' → RowAt CW H' p (hi - lo) (qh h y) (qy h y) → Q (.ref p) H'
abbrev DRowI (P : Program) (w : World) (K : PySem.W.Frag) (mg : Str → Option Value) (base : Heap) (CW : Addr) : Prop := DefI P w K mg base CX0 1 "Row" CW ["self", "w", "h", "y"] (spRowI CW)
abbrev DQR (P : Program) (w : World) (K : PySem.W.Frag) (mg : Str → Option Value) (base : Heap) (CW : Addr) : Prop := Def P w K mg base CX0 3 "quarter_row" ["row", "left", "right"] (spQR CW)
theorem scQR : FnScope ["row", "left", "right", "middle"] ["row", "left", "right"] (defScope f_quarter_row) := ⟨rfl, rfl, rfl, by decide +kernel, rfl, by decide +kernel, by decide +kernel⟩
theorem ok_QR (S : Src K mg "quarter_row" f_quarter_row ["row", "left", "right"]) (T : RwC K CW) (Dr : DRowI P w K mg base CW) : DQR P w K mg base CW := by
  refine S.def fun f fd F => F.ok scQR (fun vs H Q E h => ?_) fun cdv A outer s H vs Q E hr h => ?_
  · obtain ⟨pr, w, h, y, lo, hi, rfl, _⟩ := h
    rfl
  obtain ⟨pr, w, h, y, lo, hi, rfl, ⟨dx, hR⟩, hlh, q⟩ := h
  have hr2 : Room (1 + 1) _ := hr.mono (by decide)
  refine ⟨_, pss_cons (ps_set (i := 3) scQR.nd rfl (Or.inl rfl) (pe_op op_fdiv (pe_fld (pv 0) rfl) pe_int))
    (pss_cons (ps_if (pt_cmpR op_lt (pe_fld (pv 0) rfl) (pv 3) (nomark _)) (pss_one (ps_ret (pe_makeD Dr hr2 rfl pass0 (pa_cons (pe_op op_sub (pv 2) (pv 1)) (pa_cons (pv 3) (pa_cons (pe_fld (pv 0) rfl) pa_nil)))))) pss_nil)
    (pss_one (ps_ret (pe_makeD Dr hr2 rfl pass0 (pa_cons (pe_op op_sub (pv 2) (pv 1)) (pa_cons (pe_op op_sub (pe_fld (pv 0) rfl) (pv 3)) (pa_cons (pe_op op_sub (pe_fld (pv 0) rfl) (pv 3)) pa_nil))))))), ?_⟩
  repeat first|refine ⟨_,rfl,?_⟩|refine ⟨_,_,_,_,_,rfl,‹_›,T.cl,by first|exact T.nw|exact T.nh|exact T.ny|exact T.nv,by first|exact rw_w _ _ _|exact rw_h _ _ _|exact rw_y _ _ _|exact rw_v _ _ _,?_⟩|refine ⟨_,_,rfl,rfl,by first|exact .inl ⟨by omega,by omega⟩|exact .inr ⟨by omega,by omega⟩|exact ⟨by omega,by omega⟩,?_⟩|refine ⟨_,_,rfl,rfl,?_⟩|refine ⟨_,_,rfl,?_⟩
  refine ite2 (fun z => ?_) fun z => ?_
  · have z' : ((y : Nat) : Int) < ((h : Nat) : Int) / 2 := of_decide_eq_true z
    repeat first|refine ⟨_,rfl,?_⟩|refine ⟨_,_,_,_,_,rfl,‹_›,T.cl,by first|exact T.nw|exact T.nh|exact T.ny|exact T.nv,by first|exact rw_w _ _ _|exact rw_h _ _ _|exact rw_y _ _ _|exact rw_v _ _ _,?_⟩|refine ⟨_,_,rfl,rfl,by first|exact .inl ⟨by omega,by omega⟩|exact .inr ⟨by omega,by omega⟩|exact ⟨by omega,by omega⟩,?_⟩|refine ⟨_,_,rfl,rfl,?_⟩|refine ⟨_,_,rfl,?_⟩
    intro px dxx m1 m2 m3
    refine ⟨px, dxx, hi - lo, h / 2, y, ?_, upd_same, fun H2 e2 k2 => ⟨rfl, ?_⟩⟩
    · show [V.ref px, V.int ((hi : Int) - (lo : Int)), V.int ((h : Int) / 2), V.int (y : Int)] = _
      rw [show ((hi : Int) - (lo : Int)) = ((hi - lo : Nat) : Int) by omega, show ((h : Int) / 2) = ((h / 2 : Nat) : Int) by omega]
    · refine q px H2 (Same.made m1 m2 k2) ⟨dxx, ?_⟩
      unfold qh qy
      rw [if_pos (by omega), if_pos (by omega)]
      exact e2
  · have z' : ¬ ((y : Nat) : Int) < ((h : Nat) : Int) / 2 := of_decide_eq_false (Bool.eq_false_iff.mpr z)
    repeat first|refine ⟨_,rfl,?_⟩|refine ⟨_,_,_,_,_,rfl,‹_›,T.cl,by first|exact T.nw|exact T.nh|exact T.ny|exact T.nv,by first|exact rw_w _ _ _|exact rw_h _ _ _|exact rw_y _ _ _|exact rw_v _ _ _,?_⟩|refine ⟨_,_,rfl,rfl,by first|exact .inl ⟨by omega,by omega⟩|exact .inr ⟨by omega,by omega⟩|exact ⟨by omega,by omega⟩,?_⟩|refine ⟨_,_,rfl,rfl,?_⟩|refine ⟨_,_,rfl,?_⟩
    intro px dxx m1 m2 m3
    refine ⟨px, dxx, hi - lo, h - h / 2, y - h / 2, ?_, upd_same, fun H2 e2 k2 => ⟨rfl, ?_⟩⟩
    · show [V.ref px, V.int ((hi : Int) - (lo : Int)), V.int ((h : Int) - (h : Int) / 2), V.int ((y : Int) - (h : Int) / 2)] = _
      rw [show ((hi : Int) - (lo : Int)) = ((hi - lo : Nat) : Int) by omega, show ((h : Int) - (h : Int) / 2) = ((h - h / 2 : Nat) : Int) by omega, show ((y : Int) - (h : Int) / 2) = ((y - h / 2 : Nat) : Int) by omega]
    · refine q px H2 (Same.made m1 m2 k2) ⟨dxx, ?_⟩
      unfold qh qy
      rw [if_neg (by omega), if_neg (by omega)]
      exact e2
def spQC (c : Cs) (CW : Addr) (n : Nat) : Sp := fun vs H Q _ => ∃ (v : V) (pr : Addr) (hf : Sa57.Half) (w h y lo hi : Nat), vs = [v, .ref pr, .int (lo : Nat), .int (hi : Nat)] ∧ HalfAt c H v hf ∧ WfH hf ∧ (Sa57.toldHalf hf).2.2 ≤ n ∧ RowAt CW H pr w h y ∧ Sz w h y ∧ lo ≤ hi ∧ hi ≤ w ∧ ∀ p H', Same H H' → H' p = some (.lst (cV (quR hf w h y lo hi))) → Q (.ref p) H'
theorem scQC : FnScope ["half", "row", "left", "right"] ["half", "row", "left", "right"] (defScope f_quarter_cells) := ⟨rfl, rfl, rfl, by decide +kernel, rfl, by decide +kernel, by decide +kernel⟩
theorem ok_QC (S : Src K mg "quarter_cells" f_quarter_cells ["half", "row", "left", "right"]) (C : PC3 K c) (ok : c.Ok) (mA : mg "Arms" = some (.ref c.arms)) (mi : mg "isinstance" = none) {n : Nat} (Da : DAC P w K mg base c CW n) (Dt : DTinc P w K mg base CW) (Dq : DQR P w K mg base CW) :
    Def P w K mg base CX0 (kA n + 1) "quarter_cells" ["half", "row", "left", "right"] (spQC c CW n) := by
  refine S.def fun f fd F => F.ok scQC (fun vs H Q E h => ?_) fun cdv A outer s H vs Q E hr h => ?_
  · obtain ⟨v, pr, hf, w, h, y, lo, hi, rfl, _⟩ := h
    rfl
  obtain ⟨v, pr, hf, w, h, y, lo, hi, rfl, hH, hwf, hd, hR, hz, hlh, hhw, q⟩ := h
  obtain ⟨z1, z2, z3⟩ := id hz
  have hr2 : Room 2 _ := hr.mono (by unfold kA; omega)
  have hr3 : Room 3 _ := hr.mono (by unfold kA; omega)
  refine ⟨_, pss_cons (ps_if (pt_val (pe_callB (r := rInst K c.arms) (cr_isinst (cls := c.arms)) rfl mi PyProof.Rows.boot_isinstance (pa_cons (pv 0) (pa_cons (pe_gref rfl mA) pa_nil)))) (pss_one (ps_ret (pe_callD Da hr rfl pass0 (pa_cons (pv 0) (pa_cons (pe_callD Dq hr3 rfl pass0 (pa_cons (pv 1) (pa_cons (pv 2) (pa_cons (pv 3) pa_nil)))) pa_nil))))) pss_nil)
    (pss_one (ps_ret (pe_slice sl_list (pe_callD Dt hr2 rfl pass0 (pa_cons (pv 0) (pa_cons (pv 1) pa_nil))) (po_some (pv 2)) (po_some (pv 3))))), ?_⟩
  cases hf with
  | plain t =>
    obtain rfl : v = .int (t : Nat) := hH
    refine ⟨_, rfl, _, _, false, rfl, TyOf.int _, C.k0, false, rfl, iteF ?_⟩
    refine ⟨_, rfl, _, rfl, t, pr, w, h, y, rfl, hR, z1, fun p1 H1 s1 h1 => ?_⟩
    refine ⟨_, rfl, _, rfl, _, rfl, _, rfl, p1, _, rfl, SqL.of h1, fun p2 n2 => q p2 _ (same_trans s1 (Same.new n2 _)) ?_⟩
    have hl : (cV (shR t w h y)).length = w := by rw [cV_len]; simp [shR]
    rw [upd_same, cut_mid _ (by omega) (by omega) (by rw [hl]; omega), Int.toNat_natCast, Int.toNat_natCast]
    unfold cV quR
    rw [List.map_take, List.map_drop]
  | arms a =>
    obtain ⟨pa, rfl, hA⟩ := hH
    obtain ⟨dx, fs, z⟩ := arms_ins hA
    refine ⟨_, rfl, _, _, true, rfl, TyOf.ins z C.ac C.ha C.hn C.htk C.hm, C.k1, true, rfl, iteT ?_⟩
    refine ⟨_, rfl, _, rfl, _, rfl, _, rfl, pr, w, h, y, lo, hi, rfl, hR, hlh, fun p1 H1 s1 h1 => ?_⟩
    refine ⟨pa, p1, a, hi - lo, qh h y, qy h y, rfl, arms_same ok s1 hA, hwf, hd, h1, ⟨by omega, by unfold qh; split <;> omega, by unfold qh qy; split <;> omega⟩, fun p2 H2 s2 h2 => q p2 H2 (same_trans s1 s2) h2⟩
theorem scQY : FnScope ["field", "row", "middle", "place", "left", "right"] ["field", "row"] (defScope f_quarterly_cells) := ⟨rfl, rfl, rfl, by decide +kernel, rfl, by decide +kernel, by decide +kernel⟩
def isQua : Sa57.Field → Prop := fun f => ∃ a b, f = .parted .quarterly a b
theorem ok_QY (S : Src K mg "quarterly_cells" f_quarterly_cells ["field", "row"]) (T : RwC K CW) (C : PC3 K c) (ok : c.Ok) {n : Nat} (Dq : Def P w K mg base CX0 (kA n + 1) "quarter_cells" ["half", "row", "left", "right"] (spQC c CW n)) :
    Def P w K mg base CX0 (kA n + 2) "quarterly_cells" ["field", "row"] (spFC c CW n isQua) := by
  refine S.def fun f fd F => F.ok scQY (fun vs H Q E h => ?_) fun cdv A outer s H vs Q E hr h => ?_
  · obtain ⟨pf, pr, f', w, h, y, rfl, _⟩ := h
    rfl
  obtain ⟨pf, pr, f', w, h, y, rfl, hF, ⟨a, b, rfl⟩, hwf, hd, hR, hz, q⟩ := h
  obtain ⟨z1, z2, z3⟩ := id hz
  obtain ⟨dxr, hR0⟩ := id hR
  obtain ⟨dx, ph, va, vb, g1, g2, g3, g4⟩ := id hF
  have da : (Sa57.toldHalf a).2.2 ≤ n ∧ (Sa57.toldHalf b).2.2 ≤ n := by
    simp only [Sa57.toldField] at hd
    omega
  refine ⟨_, pss_cons (ps_set (i := 2) scQY.nd rfl (Or.inl rfl) (pe_op op_fdiv (pe_fld (pv 1) rfl) pe_int))
    (pss_cons (ps_set (i := 3) scQY.nd rfl (Or.inl rfl) (pe_ifExp (pt_cmpR op_lt (pe_fld (pv 1) rfl) (pe_op op_fdiv (pe_fld (pv 1) rfl) pe_int) (nomark _)) pe_int pe_int))
    (pss_cons (ps_set (i := 4) scQY.nd rfl (Or.inl rfl) (pe_callD Dq hr rfl pass0 (pa_cons (pe_ix ix_list (pe_fld (pv 0) rfl) (pv 3) (fun _ _ => rfl)) (pa_cons (pv 1) (pa_cons pe_int (pa_cons (pv 2) pa_nil))))))
    (pss_cons (ps_set (i := 5) scQY.nd rfl (Or.inl rfl) (pe_callD Dq hr rfl pass0 (pa_cons (pe_ix ix_list (pe_fld (pv 0) rfl) (pe_op op_sub pe_int (pv 3)) (fun _ _ => rfl)) (pa_cons (pv 1) (pa_cons (pv 2) (pa_cons (pe_fld (pv 1) rfl) pa_nil))))))
    (pss_one (ps_ret (pe_op op_cat (pv 4) (pv 5))))))), ?_⟩
  have e2 : ((w : Nat) : Int) / 2 = ((w / 2 : Nat) : Int) := by omega
  have hq := qua_eq a b (w := w) hz.yb
  repeat first|refine ⟨_,rfl,?_⟩|refine ⟨_,_,_,_,_,rfl,‹_›,T.cl,by first|exact T.nw|exact T.nh|exact T.ny|exact T.nv,by first|exact rw_w _ _ _|exact rw_h _ _ _|exact rw_y _ _ _|exact rw_v _ _ _,?_⟩|refine ⟨_,_,rfl,rfl,by first|exact .inl ⟨by omega,by omega⟩|exact .inr ⟨by omega,by omega⟩|exact ⟨by omega,by omega⟩,?_⟩|refine ⟨_,_,rfl,rfl,?_⟩|refine ⟨_,_,rfl,?_⟩
  refine ite2 (fun z => ?_) fun z => ?_
  · have z' : ((y : Nat) : Int) < ((h : Nat) : Int) / 2 := of_decide_eq_true z
    rw [if_pos (by omega), if_pos (by omega)] at hq
    refine ⟨_, rfl, pf, c.field, dx, _, _, rfl, g1, C.fc, C.fh, fi_halves _ _ _, _, rfl, ph, _, _, va, rfl, rfl, SqL.of g2, atI_nat (j := 0) rfl, _, rfl, _, rfl, va, pr, a, w, h, y, 0, w / 2, (by show [va, V.ref pr, V.int 0, V.int ((w : Int) / 2)] = _; rw [e2]; rfl), g3, hwf.1, da.1, hR, hz, by omega, by omega, fun p1 H1 s1 h1 => ?_⟩
    have hR1 := s1 _ _ hR0
    refine ⟨_, rfl, pf, c.field, dx, _, _, rfl, s1 _ _ g1, C.fc, C.fh, fi_halves _ _ _, _, rfl, _, _, rfl, rfl, ph, _, _, vb, rfl, rfl, SqL.of (s1 _ _ g2), atI_nat (j := 1) rfl, _, rfl, _, rfl, ?_⟩
    repeat first|refine ⟨_,rfl,?_⟩|refine ⟨_,_,_,_,_,rfl,‹_›,T.cl,by first|exact T.nw|exact T.nh|exact T.ny|exact T.nv,by first|exact rw_w _ _ _|exact rw_h _ _ _|exact rw_y _ _ _|exact rw_v _ _ _,?_⟩|refine ⟨_,_,rfl,rfl,by first|exact .inl ⟨by omega,by omega⟩|exact .inr ⟨by omega,by omega⟩|exact ⟨by omega,by omega⟩,?_⟩|refine ⟨_,_,rfl,rfl,?_⟩|refine ⟨_,_,rfl,?_⟩
    refine ⟨vb, pr, b, w, h, y, w / 2, w, (by show [vb, V.ref pr, V.int ((w : Int) / 2), V.int (w : Int)] = _; rw [e2]), half_same ok s1 g4, hwf.2, da.2, hR.same s1, hz, by omega, by omega, fun p2 H2 s2 h2 => ?_⟩
    refine ⟨_, rfl, _, rfl, p1, p2, _, _, rfl, rfl, s2 _ _ h1, h2, ?_, fun p3 n3 => q p3 _ (same_trans s1 (same_trans s2 (Same.new n3 _))) ?_⟩
    · rw [cV_len, cV_len, quR_len (by omega), quR_len (by omega)]
      exact sz1024 (by omega)
    · rw [upd_same, ← hq]
      unfold cV
      rw [List.map_append]
  · have z' : ¬ ((y : Nat) : Int) < ((h : Nat) : Int) / 2 := of_decide_eq_false (Bool.eq_false_iff.mpr z)
    rw [if_neg (by omega), if_neg (by omega)] at hq
    refine ⟨_, rfl, pf, c.field, dx, _, _, rfl, g1, C.fc, C.fh, fi_halves _ _ _, _, rfl, ph, _, _, vb, rfl, rfl, SqL.of g2, atI_nat (j := 1) rfl, _, rfl, _, rfl, vb, pr, b, w, h, y, 0, w / 2, (by show [vb, V.ref pr, V.int 0, V.int ((w : Int) / 2)] = _; rw [e2]; rfl), g4, hwf.2, da.2, hR, hz, by omega, by omega, fun p1 H1 s1 h1 => ?_⟩
    have hR1 := s1 _ _ hR0
    refine ⟨_, rfl, pf, c.field, dx, _, _, rfl, s1 _ _ g1, C.fc, C.fh, fi_halves _ _ _, _, rfl, _, _, rfl, rfl, ph, _, _, va, rfl, rfl, SqL.of (s1 _ _ g2), atI_nat (j := 0) rfl, _, rfl, _, rfl, ?_⟩
    repeat first|refine ⟨_,rfl,?_⟩|refine ⟨_,_,_,_,_,rfl,‹_›,T.cl,by first|exact T.nw|exact T.nh|exact T.ny|exact T.nv,by first|exact rw_w _ _ _|exact rw_h _ _ _|exact rw_y _ _ _|exact rw_v _ _ _,?_⟩|refine ⟨_,_,rfl,rfl,by first|exact .inl ⟨by omega,by omega⟩|exact .inr ⟨by omega,by omega⟩|exact ⟨by omega,by omega⟩,?_⟩|refine ⟨_,_,rfl,rfl,?_⟩|refine ⟨_,_,rfl,?_⟩
    refine ⟨va, pr, a, w, h, y, w / 2, w, (by show [va, V.ref pr, V.int ((w : Int) / 2), V.int (w : Int)] = _; rw [e2]), half_same ok s1 g3, hwf.1, da.1, hR.same s1, hz, by omega, by omega, fun p2 H2 s2 h2 => ?_⟩
    refine ⟨_, rfl, _, rfl, p1, p2, _, _, rfl, rfl, s2 _ _ h1, h2, ?_, fun p3 n3 => q p3 _ (same_trans s1 (same_trans s2 (Same.new n3 _))) ?_⟩
    · rw [cV_len, cV_len, quR_len (by omega), quR_len (by omega)]
      exact sz1024 (by omega)
    · rw [upd_same, ← hq]
      unfold cV
      rw [List.map_append]
/-! ### field_cells -/
theorem scFC : FnScope ["field", "row"] ["field", "row"] (defScope f_field_cells) := ⟨rfl, rfl, rfl, by decide +kernel, rfl, by decide +kernel, by decide +kernel⟩
theorem pn_ne2 : ∀ q : Sa57.Parting, q ≠ .quarterly → pName q ≠ "plain" ∧ pName q ≠ "quarterly" := by intro q h; cases q <;> first | exact ⟨by decide, by decide⟩ | exact absurd rfl h
theorem vn_ne2 : ∀ v : Sa57.Varying, vName v ≠ "plain" ∧ vName v ≠ "quarterly" := by intro v; cases v <;> exact ⟨by decide, by decide⟩
theorem kind_ne {f : Sa57.Field} (h : isTwo f = true) : fKind f ≠ "plain" ∧ fKind f ≠ "quarterly" := by
  cases f with
  | plain t => cases h
  | parted p a b => exact pn_ne2 p (by simpa [isTwo] using h)
  | varied v n t u => exact vn_ne2 v
theorem ok_FC (S : Src K mg "field_cells" f_field_cells ["field", "row"]) (C : PC3 K c) (gP : StrG mg "PLAIN" "plain") {n : Nat} (Dt : DTinc P w K mg base CW) (D2 : Def P w K mg base CX0 (kA n + 2) "two_halves_cells" ["field", "row"] (spFC c CW n fun f => isTwo f = true)) (Dq : Def P w K mg base CX0 (kA n + 2) "quarterly_cells" ["field", "row"] (spFC c CW n isQua)) :
    Def P w K mg base CX0 (kA n + 3) "field_cells" ["field", "row"] (spFC c CW n fun _ => True) := by
  refine S.def fun f fd F => F.ok scFC (fun vs H Q E h => ?_) fun cdv A outer s H vs Q E hr h => ?_
  · obtain ⟨pf, pr, f', w, h, y, rfl, _⟩ := h
    rfl
  obtain ⟨pf, pr, f', w, h, y, rfl, hF, _, hwf, hd, hR, hz, q⟩ := h
  obtain ⟨tP, mP⟩ := gP
  have hr2 : Room 2 _ := hr.mono (by unfold kA; omega)
  refine ⟨_, pss_cons (ps_if (pt_cmpR op_eq (pe_fld (pv 0) rfl) (pe_gstr rfl mP) (nomark _)) (pss_one (ps_ret (pe_callD Dt hr2 rfl pass0 (pa_cons (pe_ix ix_list (pe_fld (pv 0) rfl) pe_int (fun _ _ => rfl)) (pa_cons (pv 1) pa_nil))))) pss_nil)
    (pss_cons (ps_if (pt_cmpR op_eq (pe_fld (pv 0) rfl) pe_str (nomark _)) (pss_one (ps_ret (pe_callD Dq hr rfl pass0 (pa_cons (pv 0) (pa_cons (pv 1) pa_nil))))) pss_nil)
    (pss_one (ps_ret (pe_callD D2 hr rfl pass0 (pa_cons (pv 0) (pa_cons (pv 1) pa_nil)))))), ?_⟩
  by_cases h2 : isTwo f' = true
  · obtain ⟨dx, ph, nn, va, vb, g1, g2, g3, g4⟩ := hF.two h2
    obtain ⟨n1, n2⟩ := kind_ne h2
    refine ⟨_, rfl, pf, c.field, dx, _, _, rfl, g1, C.fc, C.fk, fi_kind _ _ _, rfl, _, rfl, ?_⟩
    show if decide (nV (fKind f') = nV "plain") = true then _ else _
    rw [dV_false n1]
    refine iteF ⟨_, rfl, pf, c.field, dx, _, _, rfl, g1, C.fc, C.fk, fi_kind _ _ _, rfl, _, rfl, ?_⟩
    show if decide (nV (fKind f') = nV "quarterly") = true then _ else _
    rw [dV_false n2]
    refine iteF ?_
    exact ⟨_, rfl, _, rfl, pf, pr, f', w, h, y, rfl, hF, h2, hwf, hd, hR, hz, q⟩
  · cases f' with
    | varied v n t u => exact absurd rfl h2
    | plain t =>
      obtain ⟨dx, ph, g1, g2⟩ := id hF
      refine ⟨_, rfl, pf, c.field, dx, _, _, rfl, g1, C.fc, C.fk, fi_kind _ _ _, rfl, _, rfl, ?_⟩
      show if decide (nV "plain" = nV "plain") = true then _ else _
      rw [dV_true]
      refine iteT ⟨_, rfl, pf, c.field, dx, _, _, rfl, g1, C.fc, C.fh, fi_halves _ _ _, ph, _, _, _, rfl, rfl, SqL.of g2, atI_nat (j := 0) rfl, _, rfl, t, pr, w, h, y, rfl, hR, hz.wb, fun p H' s' h' => q p H' s' ?_⟩
      rw [h']
      unfold fiR shR
      have e : (fun x => Sa57.drawField (.plain t) (cl w h y x)) = fun x => Sa57.shade t (cl w h y x) := by funext x; rw [Sa57.drawField]
      rw [e]
    | parted p a b =>
      have hp : p = .quarterly := by simpa [isTwo] using h2
      subst hp
      obtain ⟨dx, ph, va, vb, g1, g2, g3, g4⟩ := id hF
      refine ⟨_, rfl, pf, c.field, dx, _, _, rfl, g1, C.fc, C.fk, fi_kind _ _ _, rfl, _, rfl, ?_⟩
      show if decide (nV "quarterly" = nV "plain") = true then _ else _
      rw [dV_false (by decide)]
      refine iteF ⟨_, rfl, pf, c.field, dx, _, _, rfl, g1, C.fc, C.fk, fi_kind _ _ _, rfl, _, rfl, ?_⟩
      show if decide (nV "quarterly" = nV "quarterly") = true then _ else _
      rw [dV_true]
      refine iteT ?_
      exact ⟨_, rfl, _, rfl, pf, pr, _, w, h, y, rfl, hF, ⟨a, b, rfl⟩, hwf, hd, hR, hz, q⟩
end
end A57

namespace A57
open PySem L2
open Sa57 (Bytes ascii Read)
section
variable {P : Program} {w : World} {K : PySem.W.Frag} {mg : Str → Option Value} {base : Heap} {CW : Addr} {c : Cs}
def spIS (K : PySem.W.Frag) (c : Cs) (CW : Addr) : Sp := fun vs H Q _ => ∃ (pi pr : Addr) (i : Sa57.Item) (w h y : Nat), vs = [.ref pi, .ref pr] ∧ ItemAt c H pi i ∧ WfI i ∧ RowAt CW H pr w h y ∧ Sz w h y ∧ ∀ p H', Same H H' → StAt K H' p (itS i w h y) → Q (.ref p) H'
abbrev DIS (P : Program) (w : World) (K : PySem.W.Frag) (mg : Str → Option Value) (base : Heap) (c : Cs) (CW : Addr) : Prop := Def P w K mg base CX0 6 "item_stretches" ["item", "row"] (spIS K c CW)
theorem scIS : FnScope ["item", "row"] ["item", "row"] (defScope f_item_stretches) := ⟨rfl, rfl, rfl, by decide +kernel, rfl, by decide +kernel, by decide +kernel⟩
theorem ok_IS (S : Src K mg "item_stretches" f_item_stretches ["item", "row"]) (C : PC3 K c) (inr : NoAttr K c.item "number") (Di : DIsOrd P w K mg base) (Do : DOS P w K mg base CW) (Dc : DCS P w K mg base CW) : DIS P w K mg base c CW := by
  refine S.def fun f fd F => F.ok scIS (fun vs H Q E h => ?_) fun cdv A outer s H vs Q E hr h => ?_
  · obtain ⟨pi, pr, i, w, h, y, rfl, _⟩ := h
    rfl
  obtain ⟨pi, pr, i, w, h, y, rfl, ⟨dx, hI⟩, hwf, hR, hz, q⟩ := h
  have hr1 : Room 1 _ := hr.mono (by decide)
  have hr4 : Room 4 _ := hr.mono (by decide)
  refine ⟨_, pss_cons (ps_if (pt_val (pe_callD Di hr1 rfl pass0 (pa_cons (pe_fld (pv 0) rfl) pa_nil))) (pss_one (ps_ret (pe_callD Do hr rfl pass0 (pa_cons (pe_fld (pv 0) rfl) (pa_cons (pv 1) pa_nil))))) pss_nil)
    (pss_one (ps_ret (pe_callD Dc hr4 rfl pass0 (pa_cons (pe_fld (pv 0) rfl) (pa_cons (pe_fld (pv 0) rfl) (pa_cons (pv 1) pa_nil)))))), ?_⟩
  refine ⟨_, rfl, pi, c.item, dx, _, _, rfl, hI, C.ic, C.ik, it_kind _ _ _, i, rfl, _, rfl, ?_⟩
  cases i with
  | ordinary o t =>
    refine iteT ⟨_, rfl, pi, c.item, dx, _, _, rfl, hI, C.ic, C.ik, it_kind _ _ _, _, rfl, o, pr, w, h, y, rfl, hR, hz, q⟩
  | charges n k t =>
    refine iteF ⟨_, rfl, pi, c.item, dx, _, _, rfl, hI, C.ic, C.ik, it_kind _ _ _, _, rfl, pi, c.item, dx, _, _, rfl, hI, C.ic, inr, it_number _ _ _, _, rfl, k, n, pr, w, h, y, rfl, hwf.1, hwf.2, hR, hz, q⟩
/-! ### arms_cells -/
theorem scAC : FnScope ["arms", "row", "cells", "item", "paint"] ["arms", "row"] (defScope f_arms_cells) := ⟨rfl, rfl, rfl, by decide +kernel, rfl, by decide +kernel, by decide +kernel⟩
theorem pntAll_cV (paint cells : List Nat) : ∀ (l : List (Int × Int)), pntAll (cV paint) (cV cells) l = cV (pntAll paint cells l) := by
  intro l
  induction l generalizing cells with
  | nil => rfl
  | cons s l ih =>
    show pntAll (cV paint) (pnt (cV paint) (cV cells) s) l = cV (pntAll paint (pnt paint cells s) l)
    rw [← ih]
    congr 1
    unfold pnt cV
    split
    · simp [List.map_take, List.map_drop]
    · rfl
theorem upR_len (f : Sa57.Field) (l : List Sa57.Item) (w h y : Nat) : (upR f l w h y).length = w := by simp [upR]
theorem shR_len (t w h y : Nat) : (shR t w h y).length = w := by simp [shR]
theorem ok_AC (S : Src K mg "arms_cells" f_arms_cells ["arms", "row"]) (C : PC3 K c) (ok : c.Ok) {n : Nat} (Df : Def P w K mg base CX0 (kA n + 3) "field_cells" ["field", "row"] (spFC c CW n fun _ => True)) (Dt : DTinc P w K mg base CW) (Dp : DPntd P w K mg base) (Di : DIS P w K mg base c CW) : DAC P w K mg base c CW (n + 1) := by
  refine S.def fun f fd F => (F.ok (k := kA n + 3) scAC (fun vs H Q E h => ?_) fun cdv A outer s H vs Q E hr h => ?_).mono (by unfold kA; omega)
  · obtain ⟨pa, pr, a, w, h, y, rfl, _⟩ := h
    rfl
  obtain ⟨pa, pr, ⟨fl, its⟩, w, h, y, rfl, hA, hwf, hd, hR, hz, q⟩ := h
  obtain ⟨dx, pf, pb, ps, h1, h2, h3, h4⟩ := id hA
  have hd' : (Sa57.toldField fl).2.2 + 1 ≤ n + 1 := hd
  have hr1 : Room 1 _ := hr.mono (by unfold kA; omega)
  have hr2 : Room 2 _ := hr.mono (by unfold kA; omega)
  have hr6 : Room 6 _ := hr.mono (by unfold kA; omega)
  have z1 := hz.wb
  refine ⟨_, pss_cons (ps_set (i := 2) scAC.nd rfl (Or.inl rfl) (pe_callD Df hr rfl pass0 (pa_cons (pe_fld (pv 0) rfl) (pa_cons (pv 1) pa_nil))))
    (pss_cons (ps_for PassesOwn.never rfl (pi_list (pe_fld (pv 0) rfl)) (pg_name (i := 3) scAC.nd rfl (Or.inl rfl))
      (pss_cons (ps_set (i := 4) scAC.nd rfl (Or.inl rfl) (pe_callD Dt hr2 rfl pass0 (pa_cons (pe_fld (pv 3) rfl) (pa_cons (pv 1) pa_nil))))
      (pss_one (ps_set (i := 2) scAC.nd rfl (Or.inl rfl) (pe_callD Dp hr1 rfl pass0 (pa_cons (pv 2) (pa_cons (pv 4) (pa_cons (pe_callD Di hr6 rfl pass0 (pa_cons (pv 3) (pa_cons (pv 1) pa_nil))) pa_nil))))))))
    (pss_one (ps_ret (pv 2)))), ?_⟩
  refine ⟨_, rfl, pa, c.arms, dx, _, _, rfl, h1, C.ac, C.af, ar_field _ _, _, rfl, pf, pr, fl, w, h, y, rfl, h2, trivial, hwf.1, by omega, hR, hz, fun p1 H1 s1 e1 => ?_⟩
  refine ⟨_, rfl, pa, c.arms, dx, _, _, rfl, s1 _ _ h1, C.ac, C.ab, ar_borne _ _, pb, rfl, ⟨_, SqL.of (s1 _ _ h3)⟩, ?_⟩
  have hlen : ps.length = its.length := paired_len h4
  refine for_list (xs := ps.map V.ref) (fun i σ H2 => ∃ pc v3 v4, σ = [some (.ref pa), some (.ref pr), some (.ref pc), v3, v4] ∧ Same H H2 ∧ H2 pc = some (.lst (cV (upR fl (its.take i) w h y)))) ?_ ?_ ?_ ?_
  · exact ⟨p1, _, _, rfl, s1, e1⟩
  · rintro i σ H2 hi ⟨pc, v3, v4, rfl, s2, e2⟩
    exact SqL.of (s2 _ _ h3)
  · rintro i x σ H2 hx ⟨pc, v3, v4, rfl, s2, e2⟩
    have hi : i < ps.length := by
      have := (List.getElem?_eq_some_iff.mp hx).1
      rwa [List.length_map] at this
    rw [List.getElem?_map, List.getElem?_eq_getElem hi] at hx
    obtain rfl := (Option.some.inj hx).symm
    obtain ⟨it, he, hit⟩ := paired_get h4 (List.getElem?_eq_getElem hi)
    have hmem : it ∈ its := List.mem_of_getElem? he
    have ht : its.take (i + 1) = its.take i ++ [it] := take_snoc he
    obtain ⟨dxi, hI⟩ := hit
    have hI2 := s2 _ _ hI
    have hR2 := hR.same s2
    refine ⟨_, rfl, ps[i], c.item, dxi, _, _, rfl, hI2, C.ic, C.it, it_tinct _ _ _, _, rfl, Sa57.tinctureOf it, pr, w, h, y, rfl, hR2, z1, fun p3 H3 s3 e3 => ?_⟩
    refine ⟨_, rfl, _, rfl, _, rfl, _, rfl, ps[i], pr, it, w, h, y, rfl, ⟨dxi, s3 _ _ hI2⟩, hwf.2 it hmem, hR2.same s3, hz, fun p4 H4 s4 e4 => ?_⟩
    refine ⟨pc, p3, p4, _, _, _, rfl, s4 _ _ (s3 _ _ e2), s4 _ _ e3, e4, by rw [cV_len, cV_len, upR_len, shR_len], by rw [cV_len, shR_len]; exact z1, ?_, fun p5 H5 s5 e5 => ?_⟩
    · rw [cV_len, shR_len]
      exact itS_ok it _ _ (by omega)
    · refine ⟨p5, _, _, rfl, same_trans s2 (same_trans s3 (same_trans s4 s5)), ?_⟩
      rw [e5, pntAll_cV, upR_snoc fl (its.take i) it hz.yb, ht]
  · rintro σ H2 ⟨pc, v3, v4, rfl, s2, e2⟩
    rw [List.length_map, hlen, List.take_length, upR_all] at e2
    exact ⟨_, rfl, q pc H2 s2 e2⟩
/-- what drawing leans on -/
structure DrF (P : Program) (w : World) (K : PySem.W.Frag) (mg : Str → Option Value) (base : Heap) (c : Cs) (CW : Addr) : Prop where
  T : RwC K CW
  C : PC3 K c
  ok : c.Ok
  mA : mg "Arms" = some (.ref c.arms)
  mi : mg "isinstance" = none
  mr : mg "range" = none
  gP : StrG mg "PLAIN" "plain"
  sH : Src K mg "half_cells" f_half_cells ["half", "row"]
  sT : Src K mg "two_halves_cells" f_two_halves_cells ["field", "row"]
  sQ : Src K mg "quarter_cells" f_quarter_cells ["half", "row", "left", "right"]
  sY : Src K mg "quarterly_cells" f_quarterly_cells ["field", "row"]
  sF : Src K mg "field_cells" f_field_cells ["field", "row"]
  sA : Src K mg "arms_cells" f_arms_cells ["arms", "row"]
  dT : DTinc P w K mg base CW
  dQ : DQR P w K mg base CW
  dI : DIF P w K mg base c CW
  dP : DPntd P w K mg base
  dS : DIS P w K mg base c CW
theorem told_pos (a : Sa57.Arms) : 1 ≤ (Sa57.told a).2.2 := by
  obtain ⟨f, l⟩ := a
  show 1 ≤ (Sa57.toldField f).2.2 + 1
  omega
theorem ok_draw (D : DrF P w K mg base c CW) : ∀ n, DAC P w K mg base c CW n
  | 0 => by
    refine D.sA.def fun f fd F => (F.ok (k := 0) scAC (fun vs H Q E h => ?_) fun cdv A outer s H vs Q E hr h => ?_).mono (by unfold kA; omega)
    · obtain ⟨pa, pr, a, w, h, y, rfl, _⟩ := h
      rfl
    · obtain ⟨pa, pr, a, w, h, y, rfl, hA, hwf, hd, _⟩ := h
      exact absurd (Nat.le_trans (told_pos a) hd) (by decide)
  | n + 1 => by
    have Da := ok_draw D n
    have Dh := ok_HC D.sH D.C D.mA D.mi Da D.dT
    have D2 := ok_TH D.sT D.T D.C D.ok D.mr Dh D.dI
    have Dq := ok_QC D.sQ D.C D.ok D.mA D.mi Da D.dT D.dQ
    have Dy := ok_QY D.sY D.T D.C D.ok Dq
    have Df := ok_FC D.sF D.C D.gP D.dT D2 Dy
    exact ok_AC D.sA D.C D.ok Df D.dT D.dP D.dS
/-! ### on_shield -/
def shF (g : Nat → Nat) (w h y x : Nat) : Nat := if Sa57.outside (cl w h y x) = true then 0 else g x
def spSh (CW : Addr) : Sp := fun vs H Q _ => ∃ (pc pr : Addr) (g : Nat → Nat) (w h y : Nat), vs = [.ref pc, .ref pr] ∧ H pc = some (.lst ((List.range w).map fun x => V.int (g x : Nat))) ∧ RowAt CW H pr w h y ∧ Sz w h y ∧ ∀ p H', Same H H' → H' p = some (.lst ((List.range w).map fun x => V.int (shF g w h y x : Nat))) → Q (.ref p) H'
theorem scSh : FnScope ["cells", "row", "hh", "ww", "vv", "inside", "u", "cell", "kept"] ["cells", "row"] (defScope f_on_shield) := ⟨rfl, rfl, rfl, by decide +kernel, rfl, by decide +kernel, by decide +kernel⟩
abbrev DSh (P : Program) (w : World) (K : PySem.W.Frag) (mg : Str → Option Value) (base : Heap) (CW : Addr) : Prop := Def P w K mg base CX0 2 "on_shield" ["cells", "row"] (spSh CW)
theorem ok_sh (S : Src K mg "on_shield" f_on_shield ["cells", "row"]) (T : RwC K CW) (Du : DU P w K mg base CW) (gO : IntG mg "OUTSIDE" 0) (mz : mg "zip" = none) : DSh P w K mg base CW := by
  refine S.def fun f fd F => F.ok scSh (fun vs H Q E h => ?_) fun cdv A outer s H vs Q E hr h => ?_
  · obtain ⟨pc, pr, g, w, h, y, rfl, _⟩ := h
    rfl
  obtain ⟨pc, pr, g, w, h, y, rfl, hc, ⟨dx, hR⟩, hz, q⟩ := h
  obtain ⟨z1, z2, z3⟩ := id hz
  obtain ⟨tO, mO⟩ := gO
  refine ⟨_, pss_cons (ps_if (pt_cmpR op_le (pe_fld (pv 1) rfl) pe_int (nomark _)) (pss_one (ps_ret (pv 0))) pss_nil)
    (pss_cons (ps_set (i := 2) scSh.nd rfl (Or.inr rfl) (pe_op op_mul (pe_fld (pv 1) rfl) (pe_fld (pv 1) rfl)))
    (pss_cons (ps_set (i := 3) scSh.nd rfl (Or.inr rfl) (pe_op op_mul (pe_fld (pv 1) rfl) (pe_fld (pv 1) rfl)))
    (pss_cons (ps_set (i := 4) scSh.nd rfl (Or.inr rfl) (pe_op op_mul (pe_fld (pv 1) rfl) (pe_fld (pv 1) rfl)))
    (pss_cons (ps_setLc (i := 5) (own := [("u", 6)]) rfl scSh.nd rfl rfl (sw_true rfl rfl rfl (by decide +kernel)) (pi_list (pe_callD Du hr rfl pass0 (pa_cons (pv 1) pa_nil))) (blkOk_by (by kernel_rfl)) (fun _ _ _ _ _ => pg_name (i := 6) scSh.nd rfl (Or.inl rfl)) (fun _ _ _ _ _ => pts_nil)
      (fun _ _ _ _ _ => pe_cmpR op_le (pe_op op_add (pe_op op_mul (pe_op op_mul (pv 6) (pv 6)) (pv 2)) (pe_op op_mul (pv 4) (pv 3))) (pe_op op_mul (pv 3) (pv 2)) (nomark _)))
    (pss_one (ps_ret (pe_lc (own := [("cell", 7), ("kept", 8)]) rfl scSh.nd (pi_zip rfl mz (pa_cons (pv 0) (pa_cons (pv 5) pa_nil))) (blkOk_by (by kernel_rfl))
      (fun _ _ _ _ _ => pg_tupK (K := K) (n := 2) rfl rfl (pgs_cons (pg_name (i := 7) scSh.nd rfl (Or.inl rfl) (Or.inr rfl)) (pgs_cons (pg_name (i := 8) scSh.nd rfl (Or.inl rfl) (Or.inr rfl)) pgs_nil))) (fun _ _ _ _ _ => pts_nil)
      (fun _ _ _ _ _ => pe_ifExp (pt_val (pv 8)) (pv 7) (pe_gint rfl mO))))))))), ?_⟩
  repeat first|refine ⟨_,rfl,?_⟩|refine ⟨_,_,_,_,_,rfl,‹_›,T.cl,by first|exact T.nw|exact T.nh|exact T.ny|exact T.nv,by first|exact rw_w _ _ _|exact rw_h _ _ _|exact rw_y _ _ _|exact rw_v _ _ _,?_⟩|refine ⟨_,_,rfl,rfl,by first|exact .inl ⟨by omega,by omega⟩|exact .inr ⟨by omega,by omega⟩|exact ⟨by omega,by omega⟩,?_⟩|refine ⟨_,_,rfl,rfl,?_⟩|refine ⟨_,_,rfl,?_⟩
  refine ite2 (fun z => ?_) fun z => ?_
  · have z' : 2 * ((y : Nat) : Int) + 1 - ((h : Nat) : Int) ≤ 0 := of_decide_eq_true z
    refine ⟨_, rfl, q pc H (fun _ _ e => e) ?_⟩
    rw [hc]
    congr 2
    refine List.map_congr_left fun x _ => ?_
    unfold shF
    rw [if_neg]
    unfold Sa57.outside
    rw [Bool.and_eq_true, decide_eq_true_eq]
    intro z2
    have z3 : (0 : Int) < 2 * ((y : Nat) : Int) + 1 - ((h : Nat) : Int) := z2.1
    omega
  have z' : ¬ 2 * ((y : Nat) : Int) + 1 - ((h : Nat) : Int) ≤ 0 := of_decide_eq_false (Bool.eq_false_iff.mpr z)
  have hh1 : (h : Int) * (h : Int) ≤ 1024 * 1024 := Int.mul_le_mul (by omega) (by omega) (by omega) (by decide)
  have hh0 : 0 ≤ (h : Int) * (h : Int) := Int.mul_nonneg (by omega) (by omega)
  have ww1 : (w : Int) * (w : Int) ≤ 1024 * 1024 := Int.mul_le_mul (by omega) (by omega) (by omega) (by decide)
  have ww0 : 0 ≤ (w : Int) * (w : Int) := Int.mul_nonneg (by omega) (by omega)
  repeat first|refine ⟨_,rfl,?_⟩|refine ⟨_,_,_,_,_,rfl,‹_›,T.cl,by first|exact T.nw|exact T.nh|exact T.ny|exact T.nv,by first|exact rw_w _ _ _|exact rw_h _ _ _|exact rw_y _ _ _|exact rw_v _ _ _,?_⟩|refine ⟨_,_,rfl,rfl,by first|exact .inl ⟨by omega,by omega⟩|exact .inr ⟨by omega,by omega⟩|exact ⟨by omega,by omega⟩,?_⟩|refine ⟨_,_,rfl,rfl,?_⟩|refine ⟨_,_,rfl,?_⟩
  refine ⟨pr, w, h, y, rfl, ⟨_, hR⟩, hz, fun p1 H1 s1 h1 => ⟨p1, rfl, ⟨_, SqL.of h1⟩, fun D hD => ?_⟩⟩
  refine lc_mapL (ys := (List.range w).map fun x => V.bl (!Sa57.outside (cl w h y x))) h1 hD (by rw [rng_len, rng_len]) (by rw [rng_len]; exact sz1024 z1) (fun i x yv H2 hx hy s2 N hN => ?_) fun H2 s2 h2 => ?_
  · obtain ⟨hi, rfl⟩ := map_at hx
    obtain ⟨_, rfl⟩ := map_at hy
    have hN' := hN H2 (fun _ _ e => e)
    have e : (!Sa57.outside (cl w h y i)) = decide ((2 * (i : Int) + 1 - (w : Int)) * (2 * (i : Int) + 1 - (w : Int)) * ((h : Int) * (h : Int)) + (2 * (y : Int) + 1 - (h : Int)) * (2 * (y : Int) + 1 - (h : Int)) * ((w : Int) * (w : Int)) ≤ (w : Int) * (w : Int) * ((h : Int) * (h : Int))) := by
      have e1 : Sa57.outside (cl w h y i) = (decide (0 < 2 * (y : Int) + 1 - (h : Int)) && decide ((w : Int) * (w : Int) * ((h : Int) * (h : Int)) < (2 * (i : Int) + 1 - (w : Int)) * (2 * (i : Int) + 1 - (w : Int)) * ((h : Int) * (h : Int)) + (2 * (y : Int) + 1 - (h : Int)) * (2 * (y : Int) + 1 - (h : Int)) * ((w : Int) * (w : Int)))) := rfl
      rw [e1, decide_eq_true (show 0 < 2 * (y : Int) + 1 - (h : Int) by omega), Bool.true_and, Bool.eq_iff_iff]
      simp only [Bool.not_eq_true', decide_eq_false_iff_not, decide_eq_true_eq]
      omega
    rw [e] at hN'
    refine ⟨rfl, ?_⟩
    repeat first|refine ⟨_,rfl,?_⟩|refine ⟨_,_,_,_,_,rfl,‹_›,T.cl,by first|exact T.nw|exact T.nh|exact T.ny|exact T.nv,by first|exact rw_w _ _ _|exact rw_h _ _ _|exact rw_y _ _ _|exact rw_v _ _ _,?_⟩|refine ⟨_,_,rfl,rfl,by first|exact .inl ⟨by omega,by omega⟩|exact .inr ⟨by omega,by omega⟩|exact ⟨by omega,by omega⟩,?_⟩|refine ⟨_,_,rfl,rfl,?_⟩|refine ⟨_,_,rfl,?_⟩
    exact hN'
  · have s12 := same_trans s1 s2
    refine ⟨_, rfl, _, rfl, pc, D, _, _, rfl, SqL.of (s12 _ _ hc), SqL.of h2, fun D2 hD2 => ?_⟩
    refine lc_mapZ (n := w) (ys := (List.range w).map fun x => V.int (shF g w h y x : Nat)) (s12 _ _ hc) h2 hD2 (rng_len _ _) (rng_len _ _) (rng_len _ _) (sz1024 z1) (fun i x zv yv Tp H3 hx hzv hy s3 hT N hN => ?_) fun H3 s3 h3 => q D2 H3 (same_trans s12 s3) h3
    obtain ⟨hi, rfl⟩ := map_at hx
    obtain ⟨_, rfl⟩ := map_at hzv
    obtain ⟨_, rfl⟩ := map_at hy
    have hN' := hN H3 (fun _ _ e => e)
    refine ⟨Tp, _, rfl, SqT.of hT, rfl, _, _, rfl, _, _, rfl, rfl, rfl, _, rfl, _, rfl, ?_⟩
    unfold shF at hN'
    cases ho : Sa57.outside (cl w h y i) with
    | true =>
      rw [ho, if_pos rfl] at hN'
      exact iteF hN'
    | false =>
      rw [ho, if_neg (by decide)] at hN'
      exact iteT ⟨_, rfl, hN'⟩
/-! ### drawn_cells -/
def spDr (c : Cs) : Sp := fun vs H Q _ => ∃ (pa : Addr) (a : Sa57.Arms) (w h : Nat) (sh : Int), vs = [.ref pa, .int (w : Nat), .int (h : Nat), .int sh] ∧ ArmsAt c H pa a ∧ WfA a ∧ (Sa57.told a).2.2 ≤ 6 ∧ w ≤ 1024 ∧ h ≤ 1024 ∧ ∀ p H', Same H H' → H' p = some (.lst (cV (Sa57.picture a w h (sh != 0)))) → Q (.ref p) H'
theorem scDr : FnScope ["arms", "wide", "high", "shield", "drawn", "y", "row", "cells"] ["arms", "wide", "high", "shield"] (defScope f_drawn_cells) := ⟨rfl, rfl, rfl, by decide +kernel, rfl, by decide +kernel, by decide +kernel⟩
theorem picR_len (a : Sa57.Arms) (w h : Nat) (s : Bool) (y : Nat) : (picR a w h s y).length = w := by simp [picR]
theorem flat_pic (a : Sa57.Arms) (w h : Nat) (s : Bool) : ∀ l : List Nat, (l.flatMap fun y => picR a w h s y).length = w * l.length
  | [] => by simp
  | y :: l => by rw [List.flatMap_cons, List.length_append, picR_len, flat_pic a w h s l, List.length_cons, Nat.mul_succ]; omega
theorem ok_Dr (S : Src K mg "drawn_cells" f_drawn_cells ["arms", "wide", "high", "shield"]) (T : RwC K CW) (ok : c.Ok) (Dr : DRowI P w K mg base CW) (Da : DAC P w K mg base c CW 6) (Ds : DSh P w K mg base CW) (mr : mg "range" = none) : Def P w K mg base CX0 35 "drawn_cells" ["arms", "wide", "high", "shield"] (spDr c) := by
  refine S.def fun f fd F => F.ok scDr (fun vs H Q E h => ?_) fun cdv A outer s H vs Q E hr h => ?_
  · obtain ⟨pa, a, w, h, sh, rfl, _⟩ := h
    rfl
  obtain ⟨pa, a, w, h, sh, rfl, hA, hwf, hd, hw, hh, q⟩ := h
  have hr2 : Room (1 + 1) _ := hr.mono (by decide)
  have hrA : Room (kA 6) _ := hr.mono (by decide)
  refine ⟨_, pss_cons (ps_set (i := 4) scDr.nd rfl (Or.inl rfl) (pe_lst pa_nil))
    (pss_cons (ps_for PassesOwn.never rfl (pi_range1 rfl mr (pa_cons (pv 2) pa_nil)) (pg_name (i := 5) scDr.nd rfl (Or.inl rfl))
      (pss_cons (ps_set (i := 6) scDr.nd rfl (Or.inl rfl) (pe_makeD Dr hr2 rfl pass0 (pa_cons (pv 1) (pa_cons (pv 2) (pa_cons (pv 5) pa_nil)))))
      (pss_cons (ps_set (i := 7) scDr.nd rfl (Or.inl rfl) (pe_callD Da hrA rfl pass0 (pa_cons (pv 0) (pa_cons (pv 6) pa_nil))))
      (pss_cons (ps_if (pt_cmpR op_ne (pv 3) pe_int (nomark _)) (pss_one (ps_set (i := 7) scDr.nd rfl (Or.inl rfl) (pe_callD Ds hr2 rfl pass0 (pa_cons (pv 7) (pa_cons (pv 6) pa_nil))))) pss_nil)
      (PSs.to (t' := fun D σ H2 => ∃ (pd pc pr : Addr) (v5 : Option V) (acc l : List Nat), σ = [some (.ref pa), some (.int (w : Nat)), some (.int (h : Nat)), some (.int sh), some (.ref pd), v5, some (.ref pr), some (.ref pc)] ∧ H2 pd = some (.lst (cV acc)) ∧ H2 pc = some (.lst (cV l)) ∧ acc.length + l.length ≤ 1048576 ∧
          D.nx σ (upd H2 pd (.lst (cV (acc ++ l)))))
        (pss_one (ps_expr (pe_bm PySem.F.plainAttrs_list PySem.F.slot_list_extend PySem.F.type_list_extend mt_extend (pv 4) (pa_cons (pv 7) pa_nil)))) ?tail)))))
    (pss_one (ps_ret (pv 4)))), ?_⟩
  case tail =>
    rintro D σ H2 ⟨pd, pc, pr, v5, acc, l, rfl, e1, e2, hl, q2⟩
    refine ⟨_, rfl, .inl ⟨rfl, _, SqL.of e1⟩, _, rfl, pd, pc, _, _, rfl, rfl, e1, e2, by rw [cV_len, cV_len, sizeLine_eq]; omega, ?_⟩
    have e : cV (acc ++ l) = cV acc ++ cV l := List.map_append
    rw [e] at q2
    exact q2
  refine ⟨by show 0 ≤ sizeLine; exact Nat.zero_le _, fun pd npd => ?_⟩
  refine ⟨_, rfl, _, rfl, by omega, by omega, ?_⟩
  rw [Int.toNat_natCast]
  have s0 := Same.new npd (.lst [])
  have hwh : w * h ≤ 1024 * 1024 := Nat.mul_le_mul hw hh
  refine for_range (n := h) (fun i σ H2 => ∃ v5 v6 v7, σ = [some (.ref pa), some (.int (w : Nat)), some (.int (h : Nat)), some (.int sh), some (.ref pd), v5, v6, v7] ∧ Same H H2 ∧ H2 pd = some (.lst (cV ((List.range i).flatMap fun y => picR a w h (sh != 0) y)))) ?_ ?_ ?_
  · exact ⟨_, _, _, rfl, s0, upd_same⟩
  · rintro i σ H2 hi ⟨v5, v6, v7, rfl, s2, e2⟩
    rw [Int.zero_add]
    have hz : Sz w h i := ⟨hw, hh, hi⟩
    have hA2 := arms_same ok s2 hA
    refine ⟨_, rfl, _, rfl, _, rfl, ?_⟩
    intro px dxx m1 m2 m3
    refine ⟨px, dxx, w, h, i, rfl, upd_same, fun H3 e3 k3 => ⟨rfl, ?_⟩⟩
    have s3 : Same H2 H3 := Same.made m1 m2 k3
    refine ⟨_, rfl, _, rfl, pa, px, a, w, h, i, rfl, arms_same ok s3 hA2, hwf, hd, ⟨dxx, e3⟩, hz, fun p4 H4 s4 e4 => ?_⟩
    have s24 := same_trans s2 (same_trans s3 s4)
    have hpd4 : H4 pd = some (.lst (cV ((List.range i).flatMap fun y => picR a w h (sh != 0) y))) := s4 _ _ (s3 _ _ e2)
    have hstep : ((List.range (i + 1)).flatMap fun y => picR a w h (sh != 0) y) = ((List.range i).flatMap fun y => picR a w h (sh != 0) y) ++ picR a w h (sh != 0) i := by
      rw [List.range_succ, List.flatMap_append, List.flatMap_cons, List.flatMap_nil, List.append_nil]
    have hsz : ((List.range i).flatMap fun y => picR a w h (sh != 0) y).length + (picR a w h (sh != 0) i).length ≤ 1048576 := by
      have := flat_pic a w h (sh != 0) (List.range (i + 1))
      rw [hstep, List.length_append, List.length_range] at this
      have : w * (i + 1) ≤ w * h := Nat.mul_le_mul (Nat.le_refl _) hi
      omega
    have fin : ∀ (pc : Addr) (H5 : Hp), Same H4 H5 → H5 pc = some (.lst (cV (picR a w h (sh != 0) i))) → ∀ D : Ends, (D.nx = fun σ H2 => ∃ v5 v6 v7, σ = [some (.ref pa), some (.int (w : Nat)), some (.int (h : Nat)), some (.int sh), some (.ref pd), v5, v6, v7] ∧ Same H H2 ∧ H2 pd = some (.lst (cV ((List.range (i + 1)).flatMap fun y => picR a w h (sh != 0) y)))) →
        ∃ (pd' pc' pr' : Addr) (v5 : Option V) (acc l : List Nat), ([some (.ref pa), some (.int (w : Nat)), some (.int (h : Nat)), some (.int sh), some (.ref pd), some (.int (i : Nat)), some (.ref px), some (.ref pc)] : St) = [some (.ref pa), some (.int (w : Nat)), some (.int (h : Nat)), some (.int sh), some (.ref pd'), v5, some (.ref pr'), some (.ref pc')] ∧ H5 pd' = some (.lst (cV acc)) ∧ H5 pc' = some (.lst (cV l)) ∧ acc.length + l.length ≤ 1048576 ∧
          D.nx [some (.ref pa), some (.int (w : Nat)), some (.int (h : Nat)), some (.int sh), some (.ref pd), some (.int (i : Nat)), some (.ref px), some (.ref pc)] (upd H5 pd' (.lst (cV (acc ++ l)))) := by
      intro pc H5 s5 e5 D hD
      refine ⟨pd, pc, px, _, _, _, rfl, s5 _ _ hpd4, e5, hsz, ?_⟩
      rw [hD]
      exact ⟨_, _, _, rfl, same_new (same_trans s24 s5) npd _, by rw [upd_same, hstep]⟩
    refine ⟨_, rfl, rfl, _, rfl, ?_⟩
    rw [int_dec]
    by_cases hs : sh = 0
    · subst hs
      rw [decide_eq_true rfl]
      refine iteF (fin p4 H4 (fun _ _ e => e) ?_ _ rfl)
      have e5 : picR a w h ((0 : Int) != 0) i = arR a w h i := by
        unfold arR picR
        refine List.map_congr_left fun x _ => ?_
        rw [if_neg]
        intro z
        cases z.1
      rw [e4, e5]
    · rw [decide_eq_false hs]
      have hs' : (sh != 0) = true := by simpa using hs
      refine iteT ⟨_, rfl, _, rfl, p4, px, fun x => Sa57.draw a (cl w h i x), w, h, i, rfl, ?_, ⟨dxx, s4 _ _ e3⟩, hz, fun p5 H5 s5 e5 => fin p5 H5 s5 ?_ _ rfl⟩
      · rw [e4]
        unfold cV arR
        rw [List.map_map]
        rfl
      · rw [e5]
        unfold cV picR
        rw [List.map_map]
        congr 2
        refine List.map_congr_left fun x _ => ?_
        show V.int (shF _ w h i x : Nat) = V.int ((if (sh != 0) = true ∧ Sa57.outside (cl w h i x) = true then 0 else Sa57.draw a (cl w h i x) : Nat) : Int)
        unfold shF
        rw [hs']
        by_cases ho : Sa57.outside (cl w h i x) = true
        · rw [if_pos ho, if_pos ⟨rfl, ho⟩]
        · rw [if_neg ho, if_neg fun z => ho z.2]
  · rintro σ H2 ⟨v5, v6, v7, rfl, s2, e2⟩
    refine ⟨_, rfl, q pd H2 s2 ?_⟩
    rw [e2, picture_eq]
end
end A57

namespace A57
open PySem L2
open Sa57 (Bytes ascii Read)
def spDraw (K : PySem.W.Frag) : Sp := fun vs H Q _ => ∃ (wd hg sh : Int) (tx : Addr) (b : Bytes), vs = [.int wd, .int hg, .int sh, .ref tx] ∧ SqL K H tx (bV b) ∧ b.length ≤ 65536 ∧ ∀ p H', H' p = some (.lst ((dueD wd hg sh b).map V.int)) → Q (.ref p) H'
section
variable {P : Program} {w : World} {K : PySem.W.Frag} {mg : Str → Option Value} {base : Heap} {CX : Addr} {c : Cs}
theorem scDraw : FnScope ["wide", "high", "shield", "text", "arms", "e"] ["wide", "high", "shield", "text"] (defScope sDraw) := ⟨rfl, rfl, rfl, by decide +kernel, rfl, by decide +kernel, by decide +kernel⟩
theorem sides_eq (wd hg : Int) : Sa57.sides wd hg = decide ((1 ≤ wd ∧ wd ≤ 1024) ∧ (1 ≤ hg ∧ hg ≤ 1024)) := by
  unfold Sa57.sides Sa57.within
  rw [Bool.eq_iff_iff]
  simp only [Bool.and_eq_true, decide_eq_true_eq]
theorem ok_bldraw {N fX f : Addr} {fd : FuncData} (F : Fun K "bl_draw" "bl_draw" sDraw f fd) (ok : c.Ok) (Dw : DWords P w K mg base) (Dt : DReadW P w K mg base c CX) (Dd : Def P w K mg base CX0 35 "drawn_cells" ["arms", "wide", "high", "shield"] (spDr c))
    (xc : XCls K CX N fX) (nf : PySem.W.nsIn K N "place" = some none) (mX : mg "CannotStand" = some (.ref CX)) (gB : IntG mg "MOST_BYTES" 65536) (gL : IntG mg "LONGEST_SIDE" 1024) (ml : mg "len" = none) :
    FnOk P w K mg base CX0 36 f fd ["wide", "high", "shield", "text"] (spDraw K) := by
  refine F.ok scDraw (fun vs H Q E h => ?_) fun cdv A outer s H vs Q E hr h => ?_
  · obtain ⟨wd, hg, sh, tx, b, rfl, _⟩ := h
    rfl
  obtain ⟨wd, hg, sh, tx, b, rfl, hs, hb, q⟩ := h
  obtain ⟨tB, mB⟩ := gB
  obtain ⟨tL, mL⟩ := gL
  have hr3 : Room 3 _ := hr.mono (by decide)
  have hr29 : Room 29 _ := hr.mono (by decide)
  refine ⟨_, pss_cons (ps_if (PW.pt (pw_or (pt_not (pt_chain op_le op_le pe_int (pv 0) (pe_gint rfl mL))) (pw_or (pt_not (pt_chain op_le op_le pe_int (pv 1) (pe_gint rfl mL))) (pw_or1 (pt_cmpR op_gt (pe_callB call_len_seq rfl ml PySem.boot_len (pa_cons (pv 3) pa_nil)) (pe_gint rfl mB) (nomark _)))))) (pss_one (ps_ret (pe_lst (pa_cons (pe_un un_neg pe_int) pa_nil)))) pss_nil)
    (pss_cons (ps_try (i := 5) (fun d H' => ∃ k, outcome (seen (Sa57.words b)) = .inr k ∧ H' d = some (xp k)) rfl rfl xc rfl mX scDraw.nd rfl rfl
      (fun xe pl hx => pss_one (ps_set (i := 4) scDraw.nd rfl (Or.inl rfl) (pe_callD Dt hr29 rfl hx (pa_cons (pe_callD Dw hr3 rfl pass0 (pa_cons (pv 3) pa_nil)) pa_nil))))
      (fun ex oe d vs h1 h2 h3 => pss_one (ps_ret (pe_lst (pa_cons (pe_op op_sub (pe_un un_neg pe_int) (pe_xget xc nf place_none (pv 5) rfl)) pa_nil)))))
    (pss_one (ps_ret (pe_op op_cat (pe_lst (pa_cons pe_int pa_nil)) (pe_callD Dd hr rfl pass0 (pa_cons (pv 4) (pa_cons (pv 0) (pa_cons (pv 1) (pa_cons (pv 2) pa_nil)))))))) ), ?_⟩
  have hl : (bV b).length = b.length := List.length_map _
  have bad2 : ¬ ((1 ≤ wd ∧ wd ≤ 1024) ∧ (1 ≤ hg ∧ hg ≤ 1024)) → ∀ (H2 : Hp) p, Q (.ref p) (upd H2 p (.lst [V.int (-2)])) := fun hn H2 p => by
    refine q p _ ?_
    unfold dueD
    rw [sides_eq, decide_eq_false hn, if_pos rfl, upd_same]
    rfl
  refine ⟨_, rfl, _, _, rfl, rfl, _, rfl, ?_⟩
  refine ite2 (fun z1 => ?_) fun z1 => ?_
  rotate_left
  · have y1 : ¬ 1 ≤ wd := of_decide_eq_false (Bool.eq_false_iff.mpr z1)
    exact ⟨_, rfl, iteT (iteT ⟨_, rfl, by show 1 ≤ sizeLine; exact le1000 (by decide), fun p hp => bad2 (fun z => y1 z.1.1) _ p⟩)⟩
  have y1 : 1 ≤ wd := of_decide_eq_true z1
  refine ⟨_, _, rfl, rfl, _, rfl, ?_⟩
  by_cases y2 : wd ≤ 1024
  rotate_left
  · rw [decide_eq_false y2]
    exact iteT (iteT ⟨_, rfl, by show 1 ≤ sizeLine; exact le1000 (by decide), fun p hp => bad2 (fun z => y2 z.1.2) _ p⟩)
  rw [decide_eq_true y2]
  refine iteF ⟨_, rfl, _, _, rfl, rfl, _, rfl, ?_⟩
  refine ite2 (fun z3 => ?_) fun z3 => ?_
  rotate_left
  · have y3 : ¬ 1 ≤ hg := of_decide_eq_false (Bool.eq_false_iff.mpr z3)
    exact ⟨_, rfl, iteT (iteT ⟨_, rfl, by show 1 ≤ sizeLine; exact le1000 (by decide), fun p hp => bad2 (fun z => y3 z.2.1) _ p⟩)⟩
  have y3 : 1 ≤ hg := of_decide_eq_true z3
  refine ⟨_, _, rfl, rfl, _, rfl, ?_⟩
  by_cases y4 : hg ≤ 1024
  rotate_left
  · rw [decide_eq_false y4]
    exact iteT (iteT ⟨_, rfl, by show 1 ≤ sizeLine; exact le1000 (by decide), fun p hp => bad2 (fun z => y4 z.2.2) _ p⟩)
  rw [decide_eq_true y4]
  refine iteF ⟨_, rfl, tx, _, rfl, .inl hs, _, _, rfl, rfl, _, rfl, ?_⟩
  refine ite2 (fun y => ?_) fun _ => ?_
  · have y' : (65536 : Int) < ((bV b).length : Nat) := of_decide_eq_true y
    rw [hl] at y'
    exact absurd y' (by omega)
  have hsd : Sa57.sides wd hg = true := by rw [sides_eq]; exact decide_eq_true ⟨⟨y1, y2⟩, ⟨y3, y4⟩⟩
  refine ⟨⟨_, rfl, tx, b, rfl, hs, hb, fun p1 H1 s1 h1 n1 => ⟨p1, _, rfl, h1, seen_len _, fun a p H' ho hA _ => ?_, fun k d H' ho hd => ⟨rfl, d, rfl, k, ho, hd⟩⟩⟩, fun σ' H' ex oe d vs hlen h1 h2 h3 hG => ?_⟩
  · have h6 := deep_out ho
    have hwf := out_wf ho
    refine ⟨by show 1 ≤ sizeLine; exact le1000 (by decide), fun p2 n2 => ?_⟩
    have s2 := Same.new n2 (.lst [V.int 0])
    obtain ⟨wn, ew⟩ := Int.eq_ofNat_of_zero_le (show 0 ≤ wd by omega)
    obtain ⟨hn, eh⟩ := Int.eq_ofNat_of_zero_le (show 0 ≤ hg by omega)
    subst ew eh
    refine ⟨_, rfl, _, rfl, _, rfl, _, rfl, p, a, wn, hn, sh, rfl, arms_same ok s2 hA, hwf, h6, by omega, by omega, fun p3 H3 s3 h3 => ?_⟩
    have hpl := picture_len a wn hn (sh != 0)
    have hwh : wn * hn ≤ 1024 * 1024 := Nat.mul_le_mul (by omega) (by omega)
    refine ⟨p2, p3, _, _, rfl, rfl, s3 _ _ upd_same, h3, ?_, fun p4 n4 => q p4 _ ?_⟩
    · rw [cV_len, hpl, sizeLine_eq]
      show 1 + _ ≤ _
      omega
    · unfold dueD
      rw [hsd, if_neg (by decide), ho, upd_same]
      show _ = some (HO.lst ((0 :: zs (Sa57.picture a (wn : Int).toNat (hn : Int).toNat (sh != 0))).map V.int))
      rw [Int.toNat_natCast, Int.toNat_natCast]
      unfold zs cV
      rw [List.map_cons, List.map_map]
      rfl
  · obtain ⟨k, ho, hd⟩ := hG
    have e2 : (σ'.set 5 (some (V.ref ex)))[5]? = some (some (V.ref ex)) := List.getElem?_set_self (by rw [hlen]; show 5 < 6; decide)
    refine ⟨_, rfl, _, e2, ex, oe, d, _, _, vs, rfl, List.mem_append_right _ (List.mem_singleton.mpr rfl), h1, h2, h3, hd, lk_self _ _ _, _, _, rfl, rfl, by show 1 ≤ sizeLine; exact le1000 (by decide), fun p4 hp4 => ?_⟩
    refine q p4 _ ?_
    unfold dueD
    rw [hsd, if_neg (by decide), ho, upd_same]
    rfl
end
end A57

namespace A57
open PySem L2
open Sa57 (Bytes ascii Read)
section
variable {P : Program} {w : World} {K : PySem.W.Frag} {h : Heap} {mg : Str → Option Value} {x : Str} {a f1 f2 f3 f4 f5 f6 f7 f8 f9 : Addr}
theorem rtabG_mk (X : K.In h) (G : h.Ns mainGlobals mg) {D : List (String × Addr)} (e : PySem.W.nsIn K mainGlobals x = some (some (.ref a))) (t : PyProof.Rows.KTD.tabLook refLooks (fun b => K.lookup b) a (D.map fun p => (nS p.1, p.2)) = true) (n : ((D.map fun p => (nS p.1, p.2)).map (·.1)).Nodup)
    (q : PyProof.Rows.KTD.hashesOf (fun b => K.lookup b) a = (D.map fun p => (nS p.1, p.2)).map fun p => (PySem.strKind P w).hash p.1) : RTabG P w K mg x D := ⟨a, PySem.W.mg_of X G e, rtab_of t n q⟩
theorem ordG_mk (X : K.In h) (G : h.Ns mainGlobals mg) (o1 : PySem.W.nsIn K mainGlobals "fess" = some (some (.ref f1))) (o2 : PySem.W.nsIn K mainGlobals "pale" = some (some (.ref f2))) (o3 : PySem.W.nsIn K mainGlobals "bend" = some (some (.ref f3))) (o4 : PySem.W.nsIn K mainGlobals "bend_sinister" = some (some (.ref f4))) (o5 : PySem.W.nsIn K mainGlobals "chevron" = some (some (.ref f5))) (o6 : PySem.W.nsIn K mainGlobals "cross" = some (some (.ref f6))) (o7 : PySem.W.nsIn K mainGlobals "saltire" = some (some (.ref f7))) (o8 : PySem.W.nsIn K mainGlobals "chief" = some (some (.ref f8))) (o9 : PySem.W.nsIn K mainGlobals "bordure" = some (some (.ref f9))) (e : PySem.W.nsIn K mainGlobals "COVERS_ordinaries" = some (some (.ref a)))
    (t : PyProof.Rows.KTD.tabLook refLooks (fun b => K.lookup b) a (([("fess", f1), ("pale", f2), ("bend", f3), ("bend sinister", f4), ("chevron", f5), ("cross", f6), ("saltire", f7), ("chief", f8), ("bordure", f9)] : List (String × Addr)).map fun p => (nS p.1, p.2)) = true)
    (q : PyProof.Rows.KTD.hashesOf (fun b => K.lookup b) a = (([("fess", f1), ("pale", f2), ("bend", f3), ("bend sinister", f4), ("chevron", f5), ("cross", f6), ("saltire", f7), ("chief", f8), ("bordure", f9)] : List (String × Addr)).map fun p => (nS p.1, p.2)).map fun p => (PySem.strKind P w).hash p.1) : OrdG P w K mg :=
  ordG_of (rtabG_mk X G e t (by show ([nS "fess", nS "pale", nS "bend", nS "bend sinister", nS "chevron", nS "cross", nS "saltire", nS "chief", nS "bordure"] : List Str).Nodup; decide) q) (PySem.W.mg_of X G o1) (PySem.W.mg_of X G o2) (PySem.W.mg_of X G o3) (PySem.W.mg_of X G o4) (PySem.W.mg_of X G o5) (PySem.W.mg_of X G o6) (PySem.W.mg_of X G o7) (PySem.W.mg_of X G o8) (PySem.W.mg_of X G o9)
theorem chgG_mk (X : K.In h) (G : h.Ns mainGlobals mg) (o1 : PySem.W.nsIn K mainGlobals "roundel" = some (some (.ref f1))) (o2 : PySem.W.nsIn K mainGlobals "annulet" = some (some (.ref f2))) (o3 : PySem.W.nsIn K mainGlobals "lozenge" = some (some (.ref f3))) (o4 : PySem.W.nsIn K mainGlobals "billet" = some (some (.ref f4))) (o5 : PySem.W.nsIn K mainGlobals "delf" = some (some (.ref f5))) (o6 : PySem.W.nsIn K mainGlobals "crosslet" = some (some (.ref f6))) (e : PySem.W.nsIn K mainGlobals "COVERS_charges" = some (some (.ref a)))
    (t : PyProof.Rows.KTD.tabLook refLooks (fun b => K.lookup b) a (([("roundel", f1), ("annulet", f2), ("lozenge", f3), ("billet", f4), ("delf", f5), ("crosslet", f6)] : List (String × Addr)).map fun p => (nS p.1, p.2)) = true)
    (q : PyProof.Rows.KTD.hashesOf (fun b => K.lookup b) a = (([("roundel", f1), ("annulet", f2), ("lozenge", f3), ("billet", f4), ("delf", f5), ("crosslet", f6)] : List (String × Addr)).map fun p => (nS p.1, p.2)).map fun p => (PySem.strKind P w).hash p.1) : ChgG P w K mg :=
  chgG_of (rtabG_mk X G e t (by show ([nS "roundel", nS "annulet", nS "lozenge", nS "billet", nS "delf", nS "crosslet"] : List Str).Nodup; decide) q) (PySem.W.mg_of X G o1) (PySem.W.mg_of X G o2) (PySem.W.mg_of X G o3) (PySem.W.mg_of X G o4) (PySem.W.mg_of X G o5) (PySem.W.mg_of X G o6)
theorem parG_mk (X : K.In h) (G : h.Ns mainGlobals mg) (o1 : PySem.W.nsIn K mainGlobals "per_pale" = some (some (.ref f1))) (o2 : PySem.W.nsIn K mainGlobals "per_fess" = some (some (.ref f2))) (o3 : PySem.W.nsIn K mainGlobals "per_bend" = some (some (.ref f3))) (o4 : PySem.W.nsIn K mainGlobals "per_bend_sinister" = some (some (.ref f4))) (o5 : PySem.W.nsIn K mainGlobals "per_chevron" = some (some (.ref f5))) (o6 : PySem.W.nsIn K mainGlobals "per_saltire" = some (some (.ref f6))) (e : PySem.W.nsIn K mainGlobals "PARTED" = some (some (.ref a)))
    (t : PyProof.Rows.KTD.tabLook refLooks (fun b => K.lookup b) a (([("pale", f1), ("fess", f2), ("bend", f3), ("bend sinister", f4), ("chevron", f5), ("saltire", f6)] : List (String × Addr)).map fun p => (nS p.1, p.2)) = true)
    (q : PyProof.Rows.KTD.hashesOf (fun b => K.lookup b) a = (([("pale", f1), ("fess", f2), ("bend", f3), ("bend sinister", f4), ("chevron", f5), ("saltire", f6)] : List (String × Addr)).map fun p => (nS p.1, p.2)).map fun p => (PySem.strKind P w).hash p.1) : ParG P w K mg :=
  parG_of (rtabG_mk X G e t (by show ([nS "pale", nS "fess", nS "bend", nS "bend sinister", nS "chevron", nS "saltire"] : List Str).Nodup; decide) q) (PySem.W.mg_of X G o1) (PySem.W.mg_of X G o2) (PySem.W.mg_of X G o3) (PySem.W.mg_of X G o4) (PySem.W.mg_of X G o5) (PySem.W.mg_of X G o6)
theorem varG_mk (X : K.In h) (G : h.Ns mainGlobals mg) (o1 : PySem.W.nsIn K mainGlobals "barry" = some (some (.ref f1))) (o2 : PySem.W.nsIn K mainGlobals "paly" = some (some (.ref f2))) (o3 : PySem.W.nsIn K mainGlobals "bendy" = some (some (.ref f3))) (o4 : PySem.W.nsIn K mainGlobals "chequy" = some (some (.ref f4))) (o5 : PySem.W.nsIn K mainGlobals "lozengy" = some (some (.ref f5))) (e : PySem.W.nsIn K mainGlobals "VARIED" = some (some (.ref a)))
    (t : PyProof.Rows.KTD.tabLook refLooks (fun b => K.lookup b) a (([("barry", f1), ("paly", f2), ("bendy", f3), ("chequy", f4), ("lozengy", f5)] : List (String × Addr)).map fun p => (nS p.1, p.2)) = true)
    (q : PyProof.Rows.KTD.hashesOf (fun b => K.lookup b) a = (([("barry", f1), ("paly", f2), ("bendy", f3), ("chequy", f4), ("lozengy", f5)] : List (String × Addr)).map fun p => (nS p.1, p.2)).map fun p => (PySem.strKind P w).hash p.1) : VarG P w K mg :=
  varG_of (rtabG_mk X G e t (by show ([nS "barry", nS "paly", nS "bendy", nS "chequy", nS "lozengy"] : List Str).Nodup; decide) q) (PySem.W.mg_of X G o1) (PySem.W.mg_of X G o2) (PySem.W.mg_of X G o3) (PySem.W.mg_of X G o4) (PySem.W.mg_of X G o5)
theorem placesG_mk (X : K.In h) (G : h.Ns mainGlobals mg) (e : PySem.W.nsIn K mainGlobals "PLACES" = some (some (.ref a))) (t : placesOk K a = true) : PlacesG P w K mg := placesG_of (PySem.W.mg_of X G e) t
theorem pairG_mk (X : K.In h) (G : h.Ns mainGlobals mg) {s : Int × Int} (e : PySem.W.nsIn K mainGlobals x = some (some (.ref a))) (t : intTup K a [s.1, s.2] = true) : PairG K mg x s := ⟨a, PySem.W.mg_of X G e, TupK.ints t⟩
end
/-- what the top has written, of drawing -/
structure TopD (P : Program) (w : World) (K : PySem.W.Frag) (mg : Str → Option Value) (CW : Addr) : Prop where
  mW : mg "Row" = some (.ref CW)
  rc : RwC K CW
  row : SrcI K mg "Row" CW "Row.__init__" sRow ["self", "w", "h", "y"]
  d_within : Src K mg "within" f_within ["row", "step", "offset", "limit"]
  d_around : Src K mg "around" f_around ["outer", "inner"]
  d_painted : Src K mg "painted" f_painted ["cells", "paint", "stretches"]
  d_root_of : Src K mg "root_of" f_root_of ["number", "start"]
  d_beside : Src K mg "beside" f_beside ["row", "a", "times", "limit"]
  d_roundel : Src K mg "roundel" f_roundel ["row", "a", "q", "r"]
  d_annulet : Src K mg "annulet" f_annulet ["row", "a", "q", "r"]
  d_lozenge : Src K mg "lozenge" f_lozenge ["row", "a", "q", "r"]
  d_billet : Src K mg "billet" f_billet ["row", "a", "q", "r"]
  d_delf : Src K mg "delf" f_delf ["row", "a", "q", "r"]
  d_crosslet : Src K mg "crosslet" f_crosslet ["row", "a", "q", "r"]
  d_charge_stretches : Src K mg "charge_stretches" f_charge_stretches ["kind", "number", "row"]
  d_u_values : Src K mg "u_values" f_u_values ["row"]
  d_b_values : Src K mg "b_values" f_b_values ["row"]
  d_c_values : Src K mg "c_values" f_c_values ["row"]
  d_k_values : Src K mg "k_values" f_k_values ["row"]
  d_per_pale : Src K mg "per_pale" f_per_pale ["row"]
  d_per_fess : Src K mg "per_fess" f_per_fess ["row"]
  d_per_bend : Src K mg "per_bend" f_per_bend ["row"]
  d_per_bend_sinister : Src K mg "per_bend_sinister" f_per_bend_sinister ["row"]
  d_per_chevron : Src K mg "per_chevron" f_per_chevron ["row"]
  d_per_saltire : Src K mg "per_saltire" f_per_saltire ["row"]
  d_slanting : Src K mg "slanting" f_slanting ["n", "values", "row"]
  d_barry : Src K mg "barry" f_barry ["n", "row"]
  d_paly : Src K mg "paly" f_paly ["n", "row"]
  d_bendy : Src K mg "bendy" f_bendy ["n", "row"]
  d_chequy : Src K mg "chequy" f_chequy ["n", "row"]
  d_lozengy : Src K mg "lozengy" f_lozengy ["n", "row"]
  d_in_first : Src K mg "in_first" f_in_first ["field", "row"]
  d_eight_cells : Src K mg "eight_cells" f_eight_cells ["tincture", "y"]
  d_tincture_cells : Src K mg "tincture_cells" f_tincture_cells ["tincture", "row"]
  d_between : Src K mg "between" f_between ["row", "times", "offset", "limit"]
  d_along_bend : Src K mg "along_bend" f_along_bend ["row", "times"]
  d_along_bend_sinister : Src K mg "along_bend_sinister" f_along_bend_sinister ["row", "times"]
  d_all_if : Src K mg "all_if" f_all_if ["row", "covered"]
  d_fess : Src K mg "fess" f_fess ["row"]
  d_pale : Src K mg "pale" f_pale ["row"]
  d_bend : Src K mg "bend" f_bend ["row"]
  d_bend_sinister : Src K mg "bend_sinister" f_bend_sinister ["row"]
  d_chevron : Src K mg "chevron" f_chevron ["row"]
  d_cross : Src K mg "cross" f_cross ["row"]
  d_saltire : Src K mg "saltire" f_saltire ["row"]
  d_chief : Src K mg "chief" f_chief ["row"]
  d_bordure : Src K mg "bordure" f_bordure ["row"]
  d_is_ordinary : Src K mg "is_ordinary" f_is_ordinary ["kind"]
  d_ordinary_stretches : Src K mg "ordinary_stretches" f_ordinary_stretches ["kind", "row"]
  d_half_cells : Src K mg "half_cells" f_half_cells ["half", "row"]
  d_two_halves_cells : Src K mg "two_halves_cells" f_two_halves_cells ["field", "row"]
  d_quarter_row : Src K mg "quarter_row" f_quarter_row ["row", "left", "right"]
  d_quarter_cells : Src K mg "quarter_cells" f_quarter_cells ["half", "row", "left", "right"]
  d_quarterly_cells : Src K mg "quarterly_cells" f_quarterly_cells ["field", "row"]
  d_field_cells : Src K mg "field_cells" f_field_cells ["field", "row"]
  d_item_stretches : Src K mg "item_stretches" f_item_stretches ["item", "row"]
  d_arms_cells : Src K mg "arms_cells" f_arms_cells ["arms", "row"]
  d_on_shield : Src K mg "on_shield" f_on_shield ["cells", "row"]
  d_drawn_cells : Src K mg "drawn_cells" f_drawn_cells ["arms", "wide", "high", "shield"]
  gN : PairG K mg "NOWHERE" (0, 0)
  ar : IntG mg "ARGENT" 2
  az : IntG mg "AZURE" 4
  sa : IntG mg "SABLE" 5
  er : IntG mg "ERMINE" 8
  va : IntG mg "VAIR" 9
  gO : IntG mg "OUTSIDE" 0
  gL : IntG mg "LONGEST_SIDE" 1024
  oG : OrdG P w K mg
  cG : ChgG P w K mg
  pG : PlacesG P w K mg
  sG : ITabG K mg "SIZES" tSIZES
  aG : ParG P w K mg
  vG : VarG P w K mg
  n_max : mg "max" = none
  n_min : mg "min" = none
  n_abs : mg "abs" = none
  n_list : mg "list" = none
  n_range : mg "range" = none
  n_zip : mg "zip" = none
  n_isinstance : mg "isinstance" = none
theorem ok_drawn {P : Program} {w : World} {K : PySem.W.Frag} {mg : Str → Option Value} {base : Heap} {c : Cs} {CX N fX CW : Addr} {fdX : FuncData} (R : TopR P w K mg c CX N fX fdX) (T : TopD P w K mg CW) : Def P w K mg base CX0 35 "drawn_cells" ["arms", "wide", "high", "shield"] (spDr c) := by
  have Dr : DRowI P w K mg base CW := ok_rowI T.row T.rc
  have Dw : DWthn P w K mg base CW := ok_wthn T.d_within T.rc T.gN T.n_max T.n_min
  have Da : DArnd P w K mg base := ok_arnd T.d_around T.gN
  have Dp : DPntd P w K mg base := ok_pntd T.d_painted
  have Db : DBtw P w K mg base CW := ok_btw T.d_between T.rc Dw
  have D1 : DAlong P w K mg base CW := ok_along T.d_along_bend T.rc Db
  have D2 : DAlongS P w K mg base CW := ok_alongS T.d_along_bend_sinister T.rc Db
  have Df : DAllIf P w K mg base CW := ok_allIf T.d_all_if T.rc
  have Do : DOrds P w K mg base CW := ⟨fun o => match o with
    | .fess => ok_fess T.d_fess T.rc Df T.n_abs
    | .pale => ok_pale T.d_pale T.rc Db
    | .bend => ok_bend T.d_bend T.rc D1
    | .sinister => ok_bendS T.d_bend_sinister T.rc D2
    | .chevron => ok_chev T.d_chevron T.rc Db Da
    | .cross => ok_cross T.d_cross T.rc Df Db T.n_abs
    | .saltire => ok_salt T.d_saltire T.rc D1 D2
    | .chief => ok_chief T.d_chief T.rc Df
    | .bordure => ok_bord T.d_bordure T.rc Db Da⟩
  have Dio : DIsOrd P w K mg base := ok_isOrd T.d_is_ordinary T.oG
  have Dos : DOS P w K mg base CW := ok_OS T.d_ordinary_stretches T.oG Do
  have Drt : DRoot P w K mg base := ok_root T.d_root_of
  have Dbs : DBsd P w K mg base CW := ok_bsd T.d_beside T.rc Dw
  have Dc : DChgs P w K mg base CW := ⟨fun k => match k with
    | .roundel => ok_roun T.d_roundel T.rc Dbs Drt
    | .annulet => ok_annu T.d_annulet T.rc Dbs Drt Da
    | .lozenge => ok_loze T.d_lozenge T.rc Dbs T.n_abs
    | .billet => ok_bill T.d_billet T.rc Dbs T.n_abs
    | .delf => ok_delf T.d_delf T.rc Dbs T.n_abs
    | .crosslet => ok_cros T.d_crosslet T.rc Dbs T.n_abs⟩
  have Dcs : DCS P w K mg base CW := ok_CS T.d_charge_stretches T.rc T.cG T.pG T.sG Dc
  have Dis : DIS P w K mg base c CW := ok_IS T.d_item_stretches R.pc R.inr Dio Dos Dcs
  have De : DEight P w K mg base := ok_eight T.d_eight_cells ⟨T.ar, T.az, T.sa, T.er, T.va⟩
  have Dt : DTinc P w K mg base CW := ok_tinc T.d_tincture_cells T.rc De
  have Du : DU P w K mg base CW := ok_u T.d_u_values T.rc T.n_list T.n_range
  have Vb := ok_b T.d_b_values T.rc Du
  have Vc := ok_c T.d_c_values T.rc Du
  have Vk := ok_k T.d_k_values T.rc Du T.n_abs
  have Dsl : DSl P w K mg base CW := ok_sl T.d_slanting T.rc
  have Dba := ok_barry (P := P) (w := w) (base := base) T.d_barry T.rc
  have Dpy := ok_paly (P := P) (w := w) (base := base) T.d_paly T.rc T.n_range
  have Dby := ok_bendy T.d_bendy T.rc Vb Dsl
  have Dfl : DFlds P w K mg base CW := ⟨fun p hp => match p, hp with
    | .pale, _ => (ok_ppale T.d_per_pale T.rc Du).mono (by decide)
    | .fess, _ => (ok_pfess T.d_per_fess T.rc).mono (by decide)
    | .bend, _ => (ok_pbend T.d_per_bend T.rc Vb).mono (by decide)
    | .sinister, _ => (ok_psin T.d_per_bend_sinister T.rc Vc).mono (by decide)
    | .chevron, _ => (ok_pchev T.d_per_chevron T.rc Vk).mono (by decide)
    | .saltire, _ => (ok_psalt T.d_per_saltire T.rc Du T.n_abs).mono (by decide)
    | .quarterly, hp => absurd rfl hp, fun v => match v with
    | .barry => Dba.mono (by decide)
    | .paly => Dpy.mono (by decide)
    | .bendy => Dby.mono (by decide)
    | .chequy => ok_chequy T.d_chequy T.rc Dpy Dba T.n_zip
    | .lozengy => ok_lozengy T.d_lozengy T.rc Dby Vc Dsl T.n_zip⟩
  have Dif : DIF P w K mg base c CW := ok_IF T.d_in_first R.pc R.fn T.aG T.vG Dfl
  have Dqr : DQR P w K mg base CW := ok_QR T.d_quarter_row T.rc Dr
  have Dd : DrF P w K mg base c CW := ⟨T.rc, R.pc, R.ok, R.mA, T.n_isinstance, T.n_range, R.g1, T.d_half_cells, T.d_two_halves_cells, T.d_quarter_cells, T.d_quarterly_cells, T.d_field_cells, T.d_arms_cells, Dt, Dqr, Dif, Dp, Dis⟩
  have Dsh : DSh P w K mg base CW := ok_sh T.d_on_shield T.rc Du T.gO T.n_zip
  exact ok_Dr T.d_drawn_cells T.rc R.ok Dr (ok_draw Dd 6) Dsh T.n_range
end A57

namespace A57
open PySem L2
open Sa57 (Bytes ascii Read)
/-- what the top has written -/
structure Top (P : Program) (w : World) (K : PySem.W.Frag) (mg : Str → Option Value) (c : Cs) (CX N fX : Addr) (fdX : FuncData) : Prop where
  r : TopR P w K mg c CX N fX fdX
  d : ∃ CW, TopD P w K mg CW
theorem ok_top {P : Program} {w : World} {K : PySem.W.Frag} {mg : Str → Option Value} {base : Heap} {c : Cs} {CX N fX f : Addr} {fdX fd : FuncData} (T : Top P w K mg c CX N fX fdX) (F : Fun K "bl_draw" "bl_draw" sDraw f fd) : FnOk P w K mg base CX0 36 f fd ["wide", "high", "shield", "text"] (spDraw K) := by
  have R := T.r
  obtain ⟨CW, D⟩ := T.d
  obtain ⟨Dw, Dx⟩ := ok_read (base := base) R
  exact ok_bldraw F R.ok Dw Dx (ok_drawn R D) R.xc R.nf R.mX R.g6 D.gL R.n1
section
open PySem.W
theorem one57 : L2.IntsList PySem.Challenge.rw_armstold_s03_bl_draw 3 65536 0 255 (fun zs ns => PySa57.bl_draw (zs.getD 0 0) (zs.getD 1 0) (zs.getD 2 0) ns) := by
  intro args hpre
  have hsh : WShape.hasAll [] args [.int, .int, .int, .list .int] = true := os_shapes args hpre
  obtain ⟨d0, r0, rfl, h0, hsh⟩ := hasAllW_cons hsh
  obtain ⟨d1, r1, rfl, h1, hsh⟩ := hasAllW_cons hsh
  obtain ⟨d2, r2, rfl, h2, hsh⟩ := hasAllW_cons hsh
  obtain ⟨d, r, rfl, h3, h4⟩ := hasAllW_cons hsh
  obtain rfl := hasAllW_nil h4
  obtain ⟨z0, rfl⟩ := hasW_int h0
  obtain ⟨z1, rfl⟩ := hasW_int h1
  obtain ⟨z2, rfl⟩ := hasW_int h2
  obtain ⟨xs, rfl, h5⟩ := hasW_list h3
  obtain ⟨ns, rfl⟩ := items_int h5
  have e : [WData.list (ns.map WData.int)] = [ofPy (PyData.list (ns.map PyData.int))] := by
    rw [← ofPys_ints]
    rfl
  obtain ⟨hp0, hp⟩ := dec_cons (os_pre_isSome hpre)
  obtain ⟨hp1, hp⟩ := dec_cons hp
  obtain ⟨hp2, hp⟩ := dec_cons hp
  obtain ⟨e0, lo0, hi0⟩ := dec_int hp0
  obtain ⟨e1, lo1, hi1⟩ := dec_int hp1
  obtain ⟨e2, lo2, hi2⟩ := dec_int hp2
  rw [e] at hp
  obtain ⟨osDec, osLeast, osMost, osItems⟩ := os_dec_ints (least := 0) (most := 65536) (lo := 0) (hi := 255) hp
  rw [← e] at osDec
  refine ⟨[z0, z1, z2], ns, rfl, rfl, osMost, fun x hx => ?_, osItems, ?_⟩
  · rcases List.mem_cons.mp hx with rfl | hx
    · exact ⟨lo0, hi0⟩
    · rcases List.mem_cons.mp hx with rfl | hx
      · exact ⟨lo1, hi1⟩
      · rw [List.mem_singleton.mp hx]
        exact ⟨lo2, hi2⟩
  · exact os_post (dec_join e0 (dec_join e1 (dec_join e2 osDec))) (same_self _)
end
theorem walk57 {q : Program} {loose : List Str} {XP : (Str → Option Value) → Heap → Prop} {YP : World → Heap → Prop} {d : DefRec} {K : Params → PySem.W.Frag} (hdf : d.params.defaults = [])
    (hY : ∀ (w : World) (h : Heap), YP w h → (K w.params).In h)
    (F : ∀ (w : World) (mg : Str → Option Value) (fa : Addr) (h : Heap), (K w.params).In h → h.Ns mainGlobals mg → mg d.name = some (.ref fa) →
      ∃ fd : FuncData, (∀ (s : Shared) (us : List Value), us.length = 4 → BindsTo s fd ⟨us, []⟩ ((["wide", "high", "shield", "text"] : List Str).zip us)) ∧ ∀ base : Heap, (K w.params).In base → base.Ns mainGlobals mg → FnOk PySem.Challenge.rw_armstold_s03_bl_draw.prog w (K w.params) mg base CX0 36 fa fd ["wide", "high", "shield", "text"] (spDraw (K w.params))) :
    PySem.W.WalkOS q loose XP YP PySem.Challenge.rw_armstold_s03_bl_draw d [] (fun f vs => PySem.call f vs) :=
  L2.walk_specG (k := 36) (ps := ["wide", "high", "shield", "text"]) (CX := fun _ => CX0) (sp := fun w => spDraw (K w.params)) one57 line16 hdf ⟨rfl, by decide, by decide⟩ hY F
    (fun w H a zs ns hz hl hzb hb hS => match zs, hz with
      | [z0, z1, z2], _ => ⟨z0, z1, z2, a, ns.map Int.toNat, rfl, by rw [bV_toNat hb]; exact hS, by rw [List.length_map]; exact hl, fun p H' hp => ⟨p, rfl, by show H' p = some (.lst ((PySa57.bl_draw z0 z1 z2 ns).map V.int)); rw [dueD_eq z0 z1 z2 ns hl]; exact hp⟩⟩) fun _ _ _ _ _ z => z
end A57

namespace A57
open PySem L2
open Sa57 (Bytes ascii Read)
theorem all57 {w : World} {K : PySem.W.Frag} {h : Heap} {mg : Str → Option Value} {fa CA CF CI CR CX N fX f : Addr} (X : K.In h) (G : h.Ns mainGlobals mg) (hfa : mg "bl_draw" = some (.ref fa))
    {ocX kVX dcX pmX cdX ctX oc kV dc pm cd ct : Value} {odX anX od an : Option Addr} {slX sl : Array (Option Value)}
    (aA : PySem.W.nsIn K mainGlobals "Arms" = some (some (.ref CA))) (aF : PySem.W.nsIn K mainGlobals "Field" = some (some (.ref CF))) (aI : PySem.W.nsIn K mainGlobals "Item" = some (some (.ref CI)))
    (aR : PySem.W.nsIn K mainGlobals "Reader" = some (some (.ref CR))) (aX : PySem.W.nsIn K mainGlobals "CannotStand" = some (some (.ref CX)))
    (a : PySem.W.nsIn K mainGlobals "bl_draw" = some (some (.ref f))) (l : K.lookup f = some ⟨oc, od, .func (PySem.W.fnOf "bl_draw" "bl_draw" (defArgs sDraw) (defBody sDraw) (defScope sDraw) .none kV dc pm an cd ct), sl⟩) (c : PySem.W.codeIn K cd "bl_draw" = true) (k : PySem.W.keepIn K (.ref f) = true)
    (xc : XCls K CX N fX)
    (lX : K.lookup fX = some ⟨ocX, odX, .func (PySem.W.fnOf "__init__" "CannotStand.__init__" (defArgs sCannot) (defBody sCannot) (defScope sCannot) .none kVX dcX pmX anX cdX ctX), slX⟩) (cX : PySem.W.codeIn K cdX "CannotStand.__init__" = true) (kX : PySem.W.keepIn K (.ref fX) = true)
    (T : ∀ fdX, Fun K "__init__" "CannotStand.__init__" sCannot fX fdX → Binds K fdX ["self", "place"] [] → mg "Arms" = some (.ref CA) → mg "Field" = some (.ref CF) → mg "Item" = some (.ref CI) → mg "Reader" = some (.ref CR) → mg "CannotStand" = some (.ref CX) → XCls K CX N fX →
      Top PySem.Challenge.rw_armstold_s03_bl_draw.prog w K mg ⟨CA, CF, CI, CR⟩ CX N fX fdX) :
    ∃ fd : FuncData, (∀ (s : Shared) (us : List Value), us.length = 4 → BindsTo s fd ⟨us, []⟩ ((["wide", "high", "shield", "text"] : List Str).zip us)) ∧ ∀ base : Heap, K.In base → base.Ns mainGlobals mg → FnOk PySem.Challenge.rw_armstold_s03_bl_draw.prog w K mg base CX0 36 fa fd ["wide", "high", "shield", "text"] (spDraw K) := by
  have e := hfa.symm.trans (PySem.W.mg_of X G a)
  cases e
  have FX := fun_mk (st := sCannot) lX cX kX
  have F := fun_mk (st := sDraw) l c k
  have bX := FX.binds (ps := ["self", "place"]) fun _ _ _ _ _ _ us hl => match us, hl with | [_, _], _ => rfl
  have T' := T _ FX bX (PySem.W.mg_of X G aA) (PySem.W.mg_of X G aF) (PySem.W.mg_of X G aI) (PySem.W.mg_of X G aR) (PySem.W.mg_of X G aX) xc
  exact ⟨_, fun s us hl => match us, hl with | [_, _, _, _], _ => .of_eq rfl, fun base _ _ => ok_top T' F⟩
end A57
namespace PySem.W.Fast
def tw3415228014138849485 := 0
def tw16827305918752814474 := 0
def tw4344555898686581557 := 0
def tw5844001925476159977 := 0
def tw16637240735383940437 := 0
def tw16744220837138859221 := 0
def tw2227711392830982650 := 0
def tw10801399304048652987 := 0
def tw5745109569282782828 := 0
def tw1967612075521661951 := 0
def tw12952965045221641263 := 0
def tw16565380574480402061 := 0
def tw8539320071574367531 := 0
def tw18267750981941955014 := 0
def tw16822515452870671033 := 0
def tw10430101185917591329 := 0
def tw3490431045579062219 := 0
def tw8505038520245841098 := 0
def tw95937355613375716 := 0
def tw2790742445426916120 := 0
def tw12799783565420839026 := 0
def tw8822009280656727157 := 0
def tw9812515871619073687 := 0
def tw13916723903594612626 := 0
def tw2507263160121325880 := 0
def tw8477127878795155743 := 0
def tw7246871378900463755 := 0
def tw16404238219804989461 := 0
def tw18095726192814765987 := 0
def tw5685018804315710013 := 0
def tw2356280944837937658 := 0
def tw11005587444003049489 := 0
def tw8194000030460377226 := 0
def tw5556338244046844817 := 0
def tw349830720835504901 := 0
def tw3791349038415694128 := 0
def tw9721491388366058911 := 0
def tw5869419480503176947 := 0
def tw7452266844868145633 := 0
def tw16374956291905878590 := 0
def tw5206782975420892422 := 0
def tw1305067909264435817 := 0
def tw765465869225402446 := 0
def tw5567089755912980213 := 0
def tw10401057173004409124 := 0
def tw5212080778688436043 := 0
def tw8974924964962109148 := 0
def tw139055421943405688 := 0
def tw4976152601560402785 := 0
def tw13882427775316461587 := 0
def tw1107937180248955809 := 0
def tw273905901202699418 := 0
def tw12912052070158374455 := 0
def tw8464366809590584904 := 0
def tw1613993573206874942 := 0
def tw11233041265735833517 := 0
def tw1635869673590922795 := 0
def tw11500811354621569760 := 0
def tw521477051632338845 := 0
def tw17448776970256891052 := 0
def tw4217682612235615076 := 0
def tw5005108881441833986 := 0
def tw1362342372657890845 := 0
def tw5020465311941308314 := 0
def tw4057293525700675602 := 0
def tw17944372770858788269 := 0
def tw2166683142783752123 := 0
def tw5981306142695280067 := 0
def tw1889163242853943788 := 0
def tw4563874814362866955 := 0
def tw2440912651284437404 := 0
def tw5397439105904878043 := 0
def tw6366277696894408273 := 0
def tw4607630677677247359 := 0
def tw13431466318104317236 := 0
def tw6790667338809968842 := 0
def tw5259710550800949059 := 0
def tw11645726273574207662 := 0
def tw6945247884182288515 := 0
def tw16268744928893306140 := 0
def tw58608090317149884 := 0
def tw12776518269419859297 := 0
def tw17866806062123830483 := 0
def tw3211705131449263094 := 0
def tw10186787507535435717 := 0
def tw14987011633700211499 := 0
def tw1807413469610546939 := 0
def tw17085201318711146909 := 0
def tw4053970183466464008 := 0
def tw5893495790688985412 := 0
def tw12418765055994725989 := 0
def tw4874205121320425841 := 0
def tw5815852670885420288 := 0
def tw15896190892639688040 := 0
def tw6829049170355803408 := 0
def tw9486627829444647419 := 0
def tw12408419879812045527 := 0
def tw4845820845826493081 := 0
def tw7054037593652456245 := 0
def tw15346240992999842558 := 0
def tw15733735376153469105 := 0
def tw16764279719436134576 := 0
def tw4276345487521697724 := 0
def tw12383518313914886277 := 0
def tw17565268682216639520 := 0
def tw8497226896620285421 := 0
def tw13382000090339510053 := 0
def tw11656600581772595162 := 0
def tw8799453151464112509 := 0
def tw9500812699140152150 := 0
def tw6434250140169899927 := 0
def tw14426694269486135262 := 0
def tw1849208140118865668 := 0
def tw814319580922287897 := 0
def tw3729564729540662334 := 0
def tw5831012874648420320 := 0
def tw9175851601703817521 := 0
def tw6304040843111972593 := 0
def tw4301551095695316940 := 0
def tw1913094087913432053 := 0
def tw2188511204130511680 := 0
def tw6575300995880379240 := 0
def tw1557067589422528717 := 0
def tw8742013768830034270 := 0
def tw8221087893637859653 := 0
def tw13996689365125883770 := 0
def tw2272057478246730990 := 0
def tw505592075815456495 := 0
def tw875136894490859739 := 0
def tw4193360480512823158 := 0
def tw13415412316303586212 := 0
def tw13130424449102306875 := 0
def tw10892035746886719755 := 0
def tw10338708700316012604 := 0
def tw3208413603030672200 := 0
def tw1742879889878234935 := 0
def tw7616645428569257790 := 0
def tw8632531389060197006 := 0
def tw15404529658031480040 := 0
def tw16195763087635162010 := 0
def tw17871735190455647291 := 0
def tw6226857600894179195 := 0
def tw17228941470104834600 := 0
def tw10882964233995932133 := 0
def tw9734088233475398090 := 0
def tw17769998928347959866 := 0
def tw3773052772598058405 := 0
def tw13473428146060270239 := 0
def tw5293137206616021028 := 0
def tw15056084852954423238 := 0
def tw8872267815098811414 := 0
def tw11127741285888645679 := 0
def tw8938384712974160466 := 0
def tw2441386522825080149 := 0
def tw6958798530557417256 := 0
def tw12949746627449311758 := 0
def tw13324922730695965656 := 0
def tw18045899157104290214 := 0
def tw9268489984615774318 := 0
def tw7603487490893808230 := 0
def tw13373489018208478218 := 0
def tw6833109401113543656 := 0
def tw4889333978354790464 := 0
def tw17550940667525182047 := 0
def tw15400126836724310741 := 0
def tw11511949690783602017 := 0
def tw4731210451052435309 := 0
def tw2148650728044672720 := 0
def tw1055253830461711349 := 0
def tw14299046852414635375 := 0
def tw10078928376477984418 := 0
def tw2646705658338138859 := 0
def tw744396267035098014 := 0
def tw13354438028686493936 := 0
def tw17820613527122405244 := 0
def tw2774124200574890002 := 0
def tw166625440366659461 := 0
def tw4643669952605190433 := 0
def tw5849225649840276195 := 0
def tw13434583250971096727 := 0
def tw2252636421316312667 := 0
def tw5297074412576160422 := 0
def tw16155130308771534710 := 0
def tw10907507743762719980 := 0
def tw12265046546547600559 := 0
def tw4454104596697195012 := 0
def tw12998383318637752766 := 0
def tw3663591035326703536 := 0
def tw13443385236729401392 := 0
def tw12389376466454115157 := 0
def tw2589789306591654023 := 0
def tw11252833988003978200 := 0
def tw17858497204279312557 := 0
def tw636563476052052568 := 0
def tw12536855097526775161 := 0
def tw858747179332356290 := 0
def tw5048125831792335884 := 0
def tw3285478365288903680 := 0
def tw1812895144532360836 := 0
def tw17699451933446856823 := 0
def tw83899679141358433 := 0
def tw13184250958130637559 := 0
def tw3241013360887023710 := 0
def tw7709130525665044712 := 0
def tw3903099520873886258 := 0
def tw12189738238178698657 := 0
def tw3400174755909129656 := 0
def tw12012277118709214947 := 0
def tw15309320146606062878 := 0
def tw9071863766828323209 := 0
def tw4532218755090133916 := 0
def tw18339793117761822604 := 0
def tw14935980267798644557 := 0
def tw12272728449122803009 := 0
def tw17617491943713865749 := 0
def tw7675014294679037901 := 0
def tw12022397218170841605 := 0
def tw7608860253122571340 := 0
def tw4782530330544168116 := 0
def tw771284142426406169 := 0
def tw12491903795678142355 := 0
def tw2604366789356669450 := 0
def tw10825662506895867632 := 0
def tw10751080305324862088 := 0
def tw12312810920157723960 := 0
def tw12935643220035663373 := 0
def tw15696418780658935474 := 0
def tw16298501581509700851 := 0
def tw12057357328476964076 := 0
def tw1842826166392451873 := 0
def tw16846412246302804506 := 0
def tw8573218812672336369 := 0
def tw15383564035532395404 := 0
def tw923216628605723696 := 0
def tw12018041624273322552 := 0
def tw899944628931008564 := 0
def tw7442635998196654389 := 0
def tw10719913807991315527 := 0
def tw16533002468800953069 := 0
def tw1253428742415661159 := 0
def tw4132875437684751399 := 0
def tw12310824514664717119 := 0
def tw12342071160114957923 := 0
def tw8757994178801448840 := 0
def tw7484749332108180014 := 0
def tw5832268838323469744 := 0
def tw40452580988238623 := 0
def tw18165722646870926945 := 0
def tw13548854936100549445 := 0
def tw4390377982109907265 := 0
def tw5467985588322702807 := 0
def tw6979788328922586078 := 0
def tw5948748268431789050 := 0
def tw17027617013335558571 := 0
def tw6650676800610164309 := 0
def tw2430728852834782907 := 0
def tw13606487970342421585 := 0
def tw2465753985369156954 := 0
def tw11674768582419862051 := 0
def tw17316405880002126388 := 0
def tw15532723990746584321 := 0
def tw12176744058021109340 := 0
def tw8036486776256024961 := 0
def tw13421374037879080010 := 0
def tw14862963653523604173 := 0
def tw8042996313234900739 := 0
def tw12998686912555511238 := 0
def tw9882743978794039949 := 0
def tw10615425838296797819 := 0
def tw17007502291714591515 := 0
def tw1604472858326505703 := 0
def tw8292888647759193520 := 0
def tw9647732868376219324 := 0
def tw16349064876164733983 := 0
def tw14933186746648876417 := 0
def tw14412204903592891090 := 0
def tw1336418810917453324 := 0
def tw11228362692431422744 := 0
def tw1583341667619172727 := 0
def tw17801303141121011422 := 0
def tw2180811127181941389 := 0
def tw5266363871839496338 := 0
def tw2766447199268434777 := 0
def tw162829290698160565 := 0
def tw16863210389261999365 := 0
def tw4293461538345016422 := 0
def tw5975722116685390112 := 0
def tw5988227779776246605 := 0
def tw4822067077667578582 := 0
def tw15029738971570972989 := 0
def tw2731986262097015522 := 0
def tw12678710584856429364 := 0
def tw2093740700702726892 := 0
def tw12028373612380820505 := 0
def tw1756879351231707960 := 0
def tw16513042468176917783 := 0
def tw10265440265137192511 := 0
def tw7960309713024293234 := 0
def tw7462556048450239199 := 0
def tw7236388906533481240 := 0
def tw8060400863165038413 := 0
def tw14960891201683854395 := 0
def tw550169305416673832 := 0
def tw847914675598655708 := 0
def tw11772396697317838305 := 0
def tw17959296941293661308 := 0
def tw8014124037614039829 := 0
def tw6898855491415146399 := 0
def tw9102374254865862359 := 0
def tw10783961826982681593 := 0
def tw10543796615389167998 := 0
def tw17359782154298892395 := 0
def tw4404486992779478605 := 0
def tw4677219790008047541 := 0
def tw900699600499792042 := 0
def tw11819238538156624508 := 0
def tw8546936490265840812 := 0
def tw6173718923191583308 := 0
def tw16547220078192919478 := 0
def tw14414558608928838475 := 0
def tw8522544885520923187 := 0
def tw15512107890445629359 := 0
def tw9888037395337930678 := 0
def tw4869878759861087193 := 0
def tw6709158734577385905 := 0
def tw1240931700502576965 := 0
def tw13741480970437819769 := 0
def tw9362389146542163295 := 0
def tw11696556963877556916 := 0
def tw15740549682734331657 := 0
def tw10151572342981156041 := 0
def tw14786497305109415260 := 0
def tw10538931433053266367 := 0
def tw5697690118276307366 := 0
def tw2324057614089418552 := 0
def tw2960851203045456392 := 0
def tw8113966992623369811 := 0
def tw16844589010642607818 := 0
def tw5069484467124156460 := 0
def tw10154561204139648138 := 0
def tw13364484606200222517 := 0
def tw1019831898846858089 := 0
def tw6662204970862111349 := 0
def tw3969406555562805857 := 0
def tw16839791209428673927 := 0
def tw11014463350418198682 := 0
def tw2760758912551754249 := 0
def tw18090330810435759185 := 0
def tw9010895032940868554 := 0
def tw6052610335541398242 := 0
def tw6740793226276250570 := 0
def tw3649067661048051683 := 0
def tw4034712617481244622 := 0
def tw12359752452097075267 := 0
def tw154735891563674558 := 0
def tw8947191419623215139 := 0
def tw13160708468517004653 := 0
def tw17502435237118338881 := 0
def tw2737133267660789453 := 0
def tw3558224955234414971 := 0
def tw18090776886536749695 := 0
def tw14649881138013449176 := 0
def tw5248293386170451854 := 0
def tw5537336744675855233 := 0
def tw2837564719350966725 := 0
def tw11340706324408924817 := 0
def tw16611301709974386934 := 0
def tw6766267282202827064 := 0
def tw4084922788448187535 := 0
def tw17097155694062372435 := 0
def tw11043995142321306315 := 0
def tw12092975882129391791 := 0
def tw9685295394773494185 := 0
def tw6353895139511248070 := 0
def tw11467951239505068155 := 0
def tw3514529394105146829 := 0
def tw131524221216587428 := 0
def tw15350606465717680268 := 0
def tw9795976458477329608 := 0
def tw7078660727254810934 := 0
def tw4482918955309973670 := 0
def tw9506028538670507756 := 0
def tw16113134170505176171 := 0
def tw580838861761994881 := 0
def tw295390780521857946 := 0
def tw11700036501957696296 := 0
def tw6115124143365149903 := 0
def tw15314257961868608506 := 0
def tw16196235281038817487 := 0
def tw17772678191390776520 := 0
def tw9184531505517621899 := 0
def tw12735589751204871427 := 0
def tw11176801589046243594 := 0
def tw1235116289321366266 := 0
def tw10116557410942418514 := 0
def tw11750981341694886464 := 0
def tw4500658075657666958 := 0
def tw3819698146043854547 := 0
def tw17398763562416692301 := 0
def tw4945614584354242076 := 0
def tw5707420854784865314 := 0
def tw18175352813616913737 := 0
def tw938261170745665109 := 0
def tw16612184169813041119 := 0
def tw2143473869055293959 := 0
def tw9774449033302912828 := 0
def tw7076650747598825429 := 0
def tw4959593426901084486 := 0
def tw14630927251935638737 := 0
def tw11142945359134877807 := 0
def tw14023810428276474573 := 0
def tw18066393373365959062 := 0
def tw9311142102826983125 := 0
def tw8852821227609134132 := 0
def tw12670820550417870103 := 0
def tw8150630803756024251 := 0
def tw13960255585140690887 := 0
def tw2411649036838021254 := 0
def tw3185743635555754761 := 0
def tw17532335490562461947 := 0
def tw7226325430479189599 := 0
def tw11644500635056599204 := 0
def tw4456831959576172803 := 0
def tw14957035408678974547 := 0
def tw1889320348282669524 := 0
def tw11095170003900415167 := 0
def tw2718390885056986202 := 0
def tw11992819428914135753 := 0
def tw9771654262864650270 := 0
def tw16605836039882758960 := 0
def tw10055846876471448057 := 0
def tw9289060815124362942 := 0
def tw14333142335140781521 := 0
def tw13515144476069663370 := 0
def tw2949959389700307320 := 0
def tw5464688337111993607 := 0
def tw11296165995444090354 := 0
def tw9867305954625333351 := 0
def tw16529881931098467070 := 0
def tw12976468570693961701 := 0
def tw17306898351246145990 := 0
def tw2078280591654920843 := 0
def tw14427434800107421036 := 0
def tw11189704604004752512 := 0
def tw18068037487611017373 := 0
def tw4356066749500457114 := 0
def tw5504580894056055532 := 0
def tw17841927643068460588 := 0
def tw5654449145479419058 := 0
def tw6342358555631739058 := 0
def tw4774199028864368980 := 0
def tw11890213621163449090 := 0
def tw2421400296501118600 := 0
def tw15458229088347455273 := 0
def tw737561470643825656 := 0
def tw1073235305777555769 := 0
def tw5375085609049383904 := 0
def tw3580214876750332184 := 0
def tw13812260382291505962 := 0
def tw9928339110780746749 := 0
def tw7613026215438407653 := 0
def tw7417091666321018506 := 0
def tw843271709433648302 := 0
def tw15227667272231792294 := 0
def tw12222659373624381627 := 0
def tw10397828008465326411 := 0
def tw2674411446701159421 := 0
def tw14166226477980270271 := 0
def tw6804680188060412868 := 0
def tw1721782237667995220 := 0
def tw14631041164557064253 := 0
def tw3062762622717706186 := 0
def tw7846086541848698883 := 0
def tw11560030988564783697 := 0
def tw5054553021697654884 := 0
def tw6212789314378634502 := 0
def tw13016467389508177083 := 0
def tw18306745029939388690 := 0
def tw11284682350665924561 := 0
def tw9598614422721545470 := 0
def tw15713898193544652137 := 0
def tw4385906868275705267 := 0
def tw7262515560566503378 := 0
def tw7345300716525148652 := 0
def tw3756588822891797824 := 0
def tw3704875936125883390 := 0
def tw9111173368268617803 := 0
def tw842587831777261314 := 0
def tw250905434817775152 := 0
def tw5340376364535605362 := 0
def tw12422486805879218586 := 0
def tw2629593605822845677 := 0
def tw4069395273032219390 := 0
def tw10112339595531430957 := 0
def tw14994016558018266941 := 0
def tw17822244395521335852 := 0
def tw13842096233278148423 := 0
def tw15977817416148682840 := 0
def tw6145309262613373340 := 0
def tw6253674711124657365 := 0
def tw9634370551407583532 := 0
def tw2768430222436583210 := 0
def tw11369159262282841107 := 0
def tw9979315129661936148 := 0
def tw6000513046427214614 := 0
def tw8342189475406525152 := 0
def tw4122522971657812496 := 0
def tw1162263834499873683 := 0
def tw13207570342415911198 := 0
def tw8300301939943927557 := 0
def tw13387142280127908217 := 0
def tw2098114037529207042 := 0
def tw12342253114454058930 := 0
def tw3567230902418979753 := 0
def tw8488661991925379846 := 0
def tw3418501655723078249 := 0
def tw13289234127039235245 := 0
def tw13308614541028512660 := 0
def tw11695068059344683145 := 0
def tw17789000438375692475 := 0
def tw2369704084235996534 := 0
def tw10937397792914210896 := 0
def tw11926329185496815244 := 0
def tw13569559650601599643 := 0
def tw12052526065869851528 := 0
def tw15894287050436952667 := 0
def tw13779746717590843290 := 0
def tw15210291628116364781 := 0
def tw3080502590240769445 := 0
def tw2129429061190893023 := 0
def tw5652406169743616489 := 0
def tw10159442133705937494 := 0
def tw12428979822398213587 := 0
def tw99358559285472827 := 0
def tw13940818065012599348 := 0
def tw2897479267410336081 := 0
def tw6054199932992563602 := 0
def tw11964611269505629288 := 0
def tw13227356736186006776 := 0
def tw11181989627164728991 := 0
def tw17928270190815539864 := 0
def tw931023714486036101 := 0
def tw17791725138474394422 := 0
def tw9711752873876978539 := 0
def tw4695263938694196918 := 0
def tw66397322091113552 := 0
def tw9904097178506746191 := 0
def tw5132434516814560278 := 0
def tw9515325974133290486 := 0
def tw11421449119211755546 := 0
def tw17302638542221075688 := 0
def tw8455848079422302614 := 0
def tw2717298586384161058 := 0
def tw17704640504643692257 := 0
def tw7189043928955538267 := 0
def tw7328128765260135346 := 0
def tw12776359153264648841 := 0
def tw17044136680108583301 := 0
def tw11810839722776108115 := 0
def tw17347460588668493168 := 0
def tw8733287280473209767 := 0
def tw2930870080843318508 := 0
def tw17306027347020152276 := 0
def tw1373019364196712474 := 0
def tw17626249866597500077 := 0
def tw12461542746781933414 := 0
def tw8411395884493409668 := 0
def tw13724783808982082996 := 0
def tw10725174331252331760 := 0
def tw7236453580789483656 := 0
def tw18427412961426454493 := 0
def tw18161778900236371521 := 0
def tw7778208879640306541 := 0
def tw17594186854075058326 := 0
def tw11651414786142269094 := 0
def tw6072975811114278727 := 0
def tw2445613549052030008 := 0
def tw6275435826152397032 := 0
def tw9552270019745237503 := 0
def tw5305185920202972933 := 0
def tw17828501777930541198 := 0
def tw10778572622522005625 := 0
def tw8845116005932118664 := 0
def tw8819839455717870233 := 0
def tw9175700972477990548 := 0
def tw4596494773275526041 := 0
def tw5361261773528689080 := 0
def tw8279165284715794747 := 0
def tw5203142037460496732 := 0
def tw13196481239792671197 := 0
def tw185218757057904892 := 0
def tw13972290492305564741 := 0
def tw15745132781476992918 := 0
def tw5061228570323536206 := 0
def tw14965935683679519654 := 0
def tw14513551301260569858 := 0
def tw11603690259346375472 := 0
def tw8599404148295785927 := 0
def tw4668233075787692984 := 0
def tw2635162659058512384 := 0
def tw12802952289424321249 := 0
def tw17245117813058705304 := 0
def tw17796860019162215174 := 0
def tw12767507169368643836 := 0
def tw9620234639784580432 := 0
def tw11207751475978937699 := 0
def tw13997882112862477947 := 0
def tw6417902634748614571 := 0
def tw2952760270757787817 := 0
def tw6512154622342079705 := 0
def tw10790625662414491178 := 0
def tw9258873961381983965 := 0
end PySem.W.Fast
open PySem PySem.W PyProof.Rows
set_option maxRecDepth 100000 in
set_option maxHeartbeats 0 in
theorem PySem.Challenge.cw_armstold_s03_bl_draw_holds : PySem.Challenge.rw_armstold_s03_bl_draw.Holds := by
  w_on; k_headS; (case hw => exact ⟨[.int 0, .int 0, .int 0, .list []], by decide +kernel, by decide +kernel⟩)
  k_fillS
  refine A57.walk57 rfl (fun w h Y => PySem.W.kIn_of Y) ?F
  case F =>
    intro w mg fa h KX G hmg
    refine' A57.all57 KX G hmg ?aA ?aF ?aI ?aR ?aX ?a ?l ?c ?k (A57.xcls_mk ?xo ?xn ?xi ?xs ?xg ?xh ?xf ?xk) ?lX ?cX ?kX ?T
    (case aA => k_is); (case aF => k_is); (case aI => k_is); (case aR => k_is); (case aX => k_is)
    (case a => k_is); (case l => k_is); (case c => k_is); (case k => k_is)
    (case xo => k_is); (case xn => kernel_rfl); (case xi => k_is); (case xs => k_is); (case xg => k_is); (case xh => k_is); (case xf => k_is); (case xk => k_is)
    (case lX => k_is); (case cX => k_is); (case kX => k_is)
    intro fdX FX bX mA mF mI mR mX xc
    refine' {
      r := {
        ok := ⟨by decide, by decide, by decide, by decide, by decide⟩
        rc := ⟨⟨?r1, ?r2, ?r3, ?r4⟩, ?r5, ?r6⟩
        pc := ⟨⟨?p1, ?p2, ?p3, ?p4⟩, ?p5, ?p6, ⟨?q1, ?q2, ?q3, ?q4⟩, ?q5, ?q6, ⟨?u1, ?u2, ?u3, ?u4⟩, ?u5, ?u6, ?v1, ?v2, ?v3, ?v4, ?v5, ?v6⟩
        fn := ?fn
        inr := ?inr
        xc := xc
        nf := ?nf
        fX := FX
        bX := bX
        mX := mX
        mA := mA
        s1 := A57.srcI_mk (fun _ _ _ _ _ _ us hl => match us, hl with | [_, _, _], _ => rfl) mA ?m1 ?a1 ?i1 ?l1 ?c1 ?k1 ?kc1
        s2 := A57.srcI_mk (fun _ _ _ _ _ _ us hl => match us, hl with | [_, _, _, _], _ => rfl) mF ?m2 ?a2 ?i2 ?l2 ?c2 ?k2 ?kc2
        s3 := A57.srcI_mk (fun _ _ _ _ _ _ us hl => match us, hl with | [_, _, _, _], _ => rfl) mI ?m3 ?a3 ?i3 ?l3 ?c3 ?k3 ?kc3
        s4 := A57.src_mk KX G (fun _ _ _ _ _ _ us hl => match us, hl with | [_], _ => rfl) ?a4 ?l4 ?c4 ?k4
        s5 := A57.src_mk KX G (fun _ _ _ _ _ _ us hl => match us, hl with | [_], _ => rfl) ?a5 ?l5 ?c5 ?k5
        s6 := A57.src_mk KX G (fun _ _ _ _ _ _ us hl => match us, hl with | [_], _ => rfl) ?a6 ?l6 ?c6 ?k6
        s7 := A57.srcI_mk (fun _ _ _ _ _ _ us hl => match us, hl with | [_, _], _ => rfl) mR ?m7 ?a7 ?i7 ?l7 ?c7 ?k7 ?kc7
        s8 := A57.srcM_mk (fun _ _ _ _ _ _ us hl => match us, hl with | [_], _ => rfl) ?a8 ?i8 ?l8 ?c8 ?k8
        s9 := A57.srcM_mk (fun _ _ _ _ _ _ us hl => match us, hl with | [_, _], _ => rfl) ?a9 ?i9 ?l9 ?c9 ?k9
        s10 := A57.src_mk KX G (fun _ _ _ _ _ _ us hl => match us, hl with | [_], _ => rfl) ?a10 ?l10 ?c10 ?k10
        s11 := A57.src_mk KX G (fun _ _ _ _ _ _ us hl => match us, hl with | [_, _], _ => rfl) ?a11 ?l11 ?c11 ?k11
        s12 := A57.src_mk KX G (fun _ _ _ _ _ _ us hl => match us, hl with | [_, _], _ => rfl) ?a12 ?l12 ?c12 ?k12
        s13 := A57.src_mk KX G (fun _ _ _ _ _ _ us hl => match us, hl with | [_, _], _ => rfl) ?a13 ?l13 ?c13 ?k13
        s14 := A57.src_mk KX G (fun _ _ _ _ _ _ us hl => match us, hl with | [_], _ => rfl) ?a14 ?l14 ?c14 ?k14
        s15 := A57.src_mk KX G (fun _ _ _ _ _ _ us hl => match us, hl with | [_, _], _ => rfl) ?a15 ?l15 ?c15 ?k15
        s16 := A57.src_mk KX G (fun _ _ _ _ _ _ us hl => match us, hl with | [_], _ => rfl) ?a16 ?l16 ?c16 ?k16
        s17 := A57.src_mk KX G (fun _ _ _ _ _ _ us hl => match us, hl with | [_, _], _ => rfl) ?a17 ?l17 ?c17 ?k17
        s18 := A57.src_mk KX G (fun _ _ _ _ _ _ us hl => match us, hl with | [_], _ => rfl) ?a18 ?l18 ?c18 ?k18
        g1 := A57.strG_mk KX G ?g1
        g2 := A57.strG_mk KX G ?g2
        g3 := A57.strG_mk KX G ?g3
        g4 := A57.intG_mk KX G ?g4
        g5 := A57.intG_mk KX G ?g5
        g6 := A57.intG_mk KX G ?g6
        t1 := A57.intsG_mk KX G ?e1 ?t1
        t2 := A57.itabG_mk KX G ?e2 ?t2
        t3 := A57.tupG_mk KX G ?e3 ?t3
        t4 := A57.tupG_mk KX G ?e4 ?t4
        t5 := A57.tupG_mk KX G ?e5 ?t5
        t6 := A57.tupG_mk KX G ?e6 ?t6
        t7 := A57.tupG_mk KX G ?e7 ?t7
        t8 := A57.tupG_mk KX G ?e8 ?t8
        t9 := A57.stabG_mk KX G ?e9 ?t9 (by decide) ?h9
        t10 := A57.tupG_mk KX G ?e10 ?t10
        t11 := A57.tupG_mk KX G ?e11 ?t11
        n1 := PySem.W.mg_none_of KX G ?n1 }
      d := ⟨_, {
        mW := PySem.W.mg_of KX G ?zdaW
        rc := ⟨⟨?zdw1, ?zdw2, ?zdw3, ?zdw4⟩, ?zdw5, ?zdw6, ?zdw7, ?zdw8⟩
        row := A57.srcI_mk (fun _ _ _ _ _ _ us hl => match us, hl with | [_, _, _, _], _ => rfl) (PySem.W.mg_of KX G ?zdaW2) ?zdmW ?zdaWi ?zdiW ?zdlW ?zdcW ?zdkW ?zdkcW
        d_within := A57.src_mk KX G (fun _ _ _ _ _ _ us hl => match us, hl with | [_, _, _, _], _ => rfl) ?zda_within ?zdl_within ?zdc_within ?zdk_within
        d_around := A57.src_mk KX G (fun _ _ _ _ _ _ us hl => match us, hl with | [_, _], _ => rfl) ?zda_around ?zdl_around ?zdc_around ?zdk_around
        d_painted := A57.src_mk KX G (fun _ _ _ _ _ _ us hl => match us, hl with | [_, _, _], _ => rfl) ?zda_painted ?zdl_painted ?zdc_painted ?zdk_painted
        d_root_of := A57.src_mk KX G (fun _ _ _ _ _ _ us hl => match us, hl with | [_, _], _ => rfl) ?zda_root_of ?zdl_root_of ?zdc_root_of ?zdk_root_of
        d_beside := A57.src_mk KX G (fun _ _ _ _ _ _ us hl => match us, hl with | [_, _, _, _], _ => rfl) ?zda_beside ?zdl_beside ?zdc_beside ?zdk_beside
        d_roundel := A57.src_mk KX G (fun _ _ _ _ _ _ us hl => match us, hl with | [_, _, _, _], _ => rfl) ?zda_roundel ?zdl_roundel ?zdc_roundel ?zdk_roundel
        d_annulet := A57.src_mk KX G (fun _ _ _ _ _ _ us hl => match us, hl with | [_, _, _, _], _ => rfl) ?zda_annulet ?zdl_annulet ?zdc_annulet ?zdk_annulet
        d_lozenge := A57.src_mk KX G (fun _ _ _ _ _ _ us hl => match us, hl with | [_, _, _, _], _ => rfl) ?zda_lozenge ?zdl_lozenge ?zdc_lozenge ?zdk_lozenge
        d_billet := A57.src_mk KX G (fun _ _ _ _ _ _ us hl => match us, hl with | [_, _, _, _], _ => rfl) ?zda_billet ?zdl_billet ?zdc_billet ?zdk_billet
        d_delf := A57.src_mk KX G (fun _ _ _ _ _ _ us hl => match us, hl with | [_, _, _, _], _ => rfl) ?zda_delf ?zdl_delf ?zdc_delf ?zdk_delf
        d_crosslet := A57.src_mk KX G (fun _ _ _ _ _ _ us hl => match us, hl with | [_, _, _, _], _ => rfl) ?zda_crosslet ?zdl_crosslet ?zdc_crosslet ?zdk_crosslet
        d_charge_stretches := A57.src_mk KX G (fun _ _ _ _ _ _ us hl => match us, hl with | [_, _, _], _ => rfl) ?zda_charge_stretches ?zdl_charge_stretches ?zdc_charge_stretches ?zdk_charge_stretches
        d_u_values := A57.src_mk KX G (fun _ _ _ _ _ _ us hl => match us, hl with | [_], _ => rfl) ?zda_u_values ?zdl_u_values ?zdc_u_values ?zdk_u_values
        d_b_values := A57.src_mk KX G (fun _ _ _ _ _ _ us hl => match us, hl with | [_], _ => rfl) ?zda_b_values ?zdl_b_values ?zdc_b_values ?zdk_b_values
        d_c_values := A57.src_mk KX G (fun _ _ _ _ _ _ us hl => match us, hl with | [_], _ => rfl) ?zda_c_values ?zdl_c_values ?zdc_c_values ?zdk_c_values
        d_k_values := A57.src_mk KX G (fun _ _ _ _ _ _ us hl => match us, hl with | [_], _ => rfl) ?zda_k_values ?zdl_k_values ?zdc_k_values ?zdk_k_values
        d_per_pale := A57.src_mk KX G (fun _ _ _ _ _ _ us hl => match us, hl with | [_], _ => rfl) ?zda_per_pale ?zdl_per_pale ?zdc_per_pale ?zdk_per_pale
        d_per_fess := A57.src_mk KX G (fun _ _ _ _ _ _ us hl => match us, hl with | [_], _ => rfl) ?zda_per_fess ?zdl_per_fess ?zdc_per_fess ?zdk_per_fess
        d_per_bend := A57.src_mk KX G (fun _ _ _ _ _ _ us hl => match us, hl with | [_], _ => rfl) ?zda_per_bend ?zdl_per_bend ?zdc_per_bend ?zdk_per_bend
        d_per_bend_sinister := A57.src_mk KX G (fun _ _ _ _ _ _ us hl => match us, hl with | [_], _ => rfl) ?zda_per_bend_sinister ?zdl_per_bend_sinister ?zdc_per_bend_sinister ?zdk_per_bend_sinister
        d_per_chevron := A57.src_mk KX G (fun _ _ _ _ _ _ us hl => match us, hl with | [_], _ => rfl) ?zda_per_chevron ?zdl_per_chevron ?zdc_per_chevron ?zdk_per_chevron
        d_per_saltire := A57.src_mk KX G (fun _ _ _ _ _ _ us hl => match us, hl with | [_], _ => rfl) ?zda_per_saltire ?zdl_per_saltire ?zdc_per_saltire ?zdk_per_saltire
        d_slanting := A57.src_mk KX G (fun _ _ _ _ _ _ us hl => match us, hl with | [_, _, _], _ => rfl) ?zda_slanting ?zdl_slanting ?zdc_slanting ?zdk_slanting
        d_barry := A57.src_mk KX G (fun _ _ _ _ _ _ us hl => match us, hl with | [_, _], _ => rfl) ?zda_barry ?zdl_barry ?zdc_barry ?zdk_barry
        d_paly := A57.src_mk KX G (fun _ _ _ _ _ _ us hl => match us, hl with | [_, _], _ => rfl) ?zda_paly ?zdl_paly ?zdc_paly ?zdk_paly
        d_bendy := A57.src_mk KX G (fun _ _ _ _ _ _ us hl => match us, hl with | [_, _], _ => rfl) ?zda_bendy ?zdl_bendy ?zdc_bendy ?zdk_bendy
        d_chequy := A57.src_mk KX G (fun _ _ _ _ _ _ us hl => match us, hl with | [_, _], _ => rfl) ?zda_chequy ?zdl_chequy ?zdc_chequy ?zdk_chequy
        d_lozengy := A57.src_mk KX G (fun _ _ _ _ _ _ us hl => match us, hl with | [_, _], _ => rfl) ?zda_lozengy ?zdl_lozengy ?zdc_lozengy ?zdk_lozengy
        d_in_first := A57.src_mk KX G (fun _ _ _ _ _ _ us hl => match us, hl with | [_, _], _ => rfl) ?zda_in_first ?zdl_in_first ?zdc_in_first ?zdk_in_first
        d_eight_cells := A57.src_mk KX G (fun _ _ _ _ _ _ us hl => match us, hl with | [_, _], _ => rfl) ?zda_eight_cells ?zdl_eight_cells ?zdc_eight_cells ?zdk_eight_cells
        d_tincture_cells := A57.src_mk KX G (fun _ _ _ _ _ _ us hl => match us, hl with | [_, _], _ => rfl) ?zda_tincture_cells ?zdl_tincture_cells ?zdc_tincture_cells ?zdk_tincture_cells
        d_between := A57.src_mk KX G (fun _ _ _ _ _ _ us hl => match us, hl with | [_, _, _, _], _ => rfl) ?zda_between ?zdl_between ?zdc_between ?zdk_between
        d_along_bend := A57.src_mk KX G (fun _ _ _ _ _ _ us hl => match us, hl with | [_, _], _ => rfl) ?zda_along_bend ?zdl_along_bend ?zdc_along_bend ?zdk_along_bend
        d_along_bend_sinister := A57.src_mk KX G (fun _ _ _ _ _ _ us hl => match us, hl with | [_, _], _ => rfl) ?zda_along_bend_sinister ?zdl_along_bend_sinister ?zdc_along_bend_sinister ?zdk_along_bend_sinister
        d_all_if := A57.src_mk KX G (fun _ _ _ _ _ _ us hl => match us, hl with | [_, _], _ => rfl) ?zda_all_if ?zdl_all_if ?zdc_all_if ?zdk_all_if
        d_fess := A57.src_mk KX G (fun _ _ _ _ _ _ us hl => match us, hl with | [_], _ => rfl) ?zda_fess ?zdl_fess ?zdc_fess ?zdk_fess
        d_pale := A57.src_mk KX G (fun _ _ _ _ _ _ us hl => match us, hl with | [_], _ => rfl) ?zda_pale ?zdl_pale ?zdc_pale ?zdk_pale
        d_bend := A57.src_mk KX G (fun _ _ _ _ _ _ us hl => match us, hl with | [_], _ => rfl) ?zda_bend ?zdl_bend ?zdc_bend ?zdk_bend
        d_bend_sinister := A57.src_mk KX G (fun _ _ _ _ _ _ us hl => match us, hl with | [_], _ => rfl) ?zda_bend_sinister ?zdl_bend_sinister ?zdc_bend_sinister ?zdk_bend_sinister
        d_chevron := A57.src_mk KX G (fun _ _ _ _ _ _ us hl => match us, hl with | [_], _ => rfl) ?zda_chevron ?zdl_chevron ?zdc_chevron ?zdk_chevron
        d_cross := A57.src_mk KX G (fun _ _ _ _ _ _ us hl => match us, hl with | [_], _ => rfl) ?zda_cross ?zdl_cross ?zdc_cross ?zdk_cross
        d_saltire := A57.src_mk KX G (fun _ _ _ _ _ _ us hl => match us, hl with | [_], _ => rfl) ?zda_saltire ?zdl_saltire ?zdc_saltire ?zdk_saltire
        d_chief := A57.src_mk KX G (fun _ _ _ _ _ _ us hl => match us, hl with | [_], _ => rfl) ?zda_chief ?zdl_chief ?zdc_chief ?zdk_chief
        d_bordure := A57.src_mk KX G (fun _ _ _ _ _ _ us hl => match us, hl with | [_], _ => rfl) ?zda_bordure ?zdl_bordure ?zdc_bordure ?zdk_bordure
        d_is_ordinary := A57.src_mk KX G (fun _ _ _ _ _ _ us hl => match us, hl with | [_], _ => rfl) ?zda_is_ordinary ?zdl_is_ordinary ?zdc_is_ordinary ?zdk_is_ordinary
        d_ordinary_stretches := A57.src_mk KX G (fun _ _ _ _ _ _ us hl => match us, hl with | [_, _], _ => rfl) ?zda_ordinary_stretches ?zdl_ordinary_stretches ?zdc_ordinary_stretches ?zdk_ordinary_stretches
        d_half_cells := A57.src_mk KX G (fun _ _ _ _ _ _ us hl => match us, hl with | [_, _], _ => rfl) ?zda_half_cells ?zdl_half_cells ?zdc_half_cells ?zdk_half_cells
        d_two_halves_cells := A57.src_mk KX G (fun _ _ _ _ _ _ us hl => match us, hl with | [_, _], _ => rfl) ?zda_two_halves_cells ?zdl_two_halves_cells ?zdc_two_halves_cells ?zdk_two_halves_cells
        d_quarter_row := A57.src_mk KX G (fun _ _ _ _ _ _ us hl => match us, hl with | [_, _, _], _ => rfl) ?zda_quarter_row ?zdl_quarter_row ?zdc_quarter_row ?zdk_quarter_row
        d_quarter_cells := A57.src_mk KX G (fun _ _ _ _ _ _ us hl => match us, hl with | [_, _, _, _], _ => rfl) ?zda_quarter_cells ?zdl_quarter_cells ?zdc_quarter_cells ?zdk_quarter_cells
        d_quarterly_cells := A57.src_mk KX G (fun _ _ _ _ _ _ us hl => match us, hl with | [_, _], _ => rfl) ?zda_quarterly_cells ?zdl_quarterly_cells ?zdc_quarterly_cells ?zdk_quarterly_cells
        d_field_cells := A57.src_mk KX G (fun _ _ _ _ _ _ us hl => match us, hl with | [_, _], _ => rfl) ?zda_field_cells ?zdl_field_cells ?zdc_field_cells ?zdk_field_cells
        d_item_stretches := A57.src_mk KX G (fun _ _ _ _ _ _ us hl => match us, hl with | [_, _], _ => rfl) ?zda_item_stretches ?zdl_item_stretches ?zdc_item_stretches ?zdk_item_stretches
        d_arms_cells := A57.src_mk KX G (fun _ _ _ _ _ _ us hl => match us, hl with | [_, _], _ => rfl) ?zda_arms_cells ?zdl_arms_cells ?zdc_arms_cells ?zdk_arms_cells
        d_on_shield := A57.src_mk KX G (fun _ _ _ _ _ _ us hl => match us, hl with | [_, _], _ => rfl) ?zda_on_shield ?zdl_on_shield ?zdc_on_shield ?zdk_on_shield
        d_drawn_cells := A57.src_mk KX G (fun _ _ _ _ _ _ us hl => match us, hl with | [_, _, _, _], _ => rfl) ?zda_drawn_cells ?zdl_drawn_cells ?zdc_drawn_cells ?zdk_drawn_cells
        gN := A57.pairG_mk KX G ?zdeN ?zdtN
        ar := A57.intG_mk KX G ?zdi_ar
        az := A57.intG_mk KX G ?zdi_az
        sa := A57.intG_mk KX G ?zdi_sa
        er := A57.intG_mk KX G ?zdi_er
        va := A57.intG_mk KX G ?zdi_va
        gO := A57.intG_mk KX G ?zdi_gO
        gL := A57.intG_mk KX G ?zdi_gL
        oG := A57.ordG_mk KX G ?zdoo1 ?zdoo2 ?zdoo3 ?zdoo4 ?zdoo5 ?zdoo6 ?zdoo7 ?zdoo8 ?zdoo9 ?zdeo ?zdto ?zdho
        cG := A57.chgG_mk KX G ?zdoc1 ?zdoc2 ?zdoc3 ?zdoc4 ?zdoc5 ?zdoc6 ?zdec ?zdtc ?zdhc
        pG := A57.placesG_mk KX G ?zdep ?zdtp
        sG := A57.itabG_mk KX G ?zdes ?zdts
        aG := A57.parG_mk KX G ?zdoa1 ?zdoa2 ?zdoa3 ?zdoa4 ?zdoa5 ?zdoa6 ?zdea ?zdta ?zdha
        vG := A57.varG_mk KX G ?zdov1 ?zdov2 ?zdov3 ?zdov4 ?zdov5 ?zdev ?zdtv ?zdhv
        n_max := PySem.W.mg_none_of KX G ?zdn_max
        n_min := PySem.W.mg_none_of KX G ?zdn_min
        n_abs := PySem.W.mg_none_of KX G ?zdn_abs
        n_list := PySem.W.mg_none_of KX G ?zdn_list
        n_range := PySem.W.mg_none_of KX G ?zdn_range
        n_zip := PySem.W.mg_none_of KX G ?zdn_zip
        n_isinstance := PySem.W.mg_none_of KX G ?zdn_isinstance }⟩ }
    all_goals first | k_is | (unfold L2.NoAttr; k_is) | ((show _ = _); kernel_rfl) | skip
#print axioms PySem.Challenge.cw_armstold_s03_bl_draw_holds

