import PyProof.Rows.All
import Wide.All
import OpenK.AllK
import Wide.FinOn
import PyProof.EqAt
import PyProof.EqKinds
import PyProof.TupleCall
import KE.BitLaws
import Open.SpecLaws
import KE.OsHead
import KE.OsGo
import PyProof.Rows.SortRev
import PyProof.MinMaxWalk
import PyProof.ListMulRoad
import PyProof.WalksMore
import PyProof.WalkInts
import PyProof.Rows.TupDisplay
import PyProof.ListRange
import PyProof.ZipIter
import PySem.Challenge.RW_jugglebench_s14_place
set_option Elab.async false
set_option linter.all false
set_option maxRecDepth 100000
/-! THE HAND LAYER, for ints, bools, texts, own classes, lists, tuples, dicts, comprehensions, walks over dicts, enumerate, zip, reversed, texts, calls, loops. Paste it whole ahead of your own text; what your proof does not reach may be deleted. -/
namespace L2
open PySem PySem.Spec PyProof.Rows

/-- a key: an int or a str -/
abbrev Key := Sum Int Str
def keyIs : Key → Value → Bool
  | .inl k, v => Value.isInt k v
  | .inr x, v => Value.isStrOf x v
def keyH (w : World) : Key → Int
  | .inl k => hashInt k
  | .inr x => hashStr w x
theorem keyIs_shape : ∀ {k : Key} {v : Value}, keyIs k v = true → (∃ i t, k = Sum.inl i ∧ v = Value.int i t) ∨ (∃ x t, k = Sum.inr x ∧ v = Value.str x t)
  | .inl i, v, h => by
    obtain ⟨t, e⟩ := Value.isInt_shape (k := i) (v := v) h
    exact .inl ⟨i, t, rfl, e⟩
  | .inr x, v, h => by
    obtain ⟨t, e⟩ := Value.isStrOf_shape (x := x) (v := v) h
    exact .inr ⟨x, t, rfl, e⟩
theorem keyIs_int (i : Int) (t : Tok) : keyIs (.inl i) (.int i t) = true := by simp [keyIs, Value.isInt]
theorem keyIs_str (x : Str) (t : Tok) : keyIs (.inr x) (.str x t) = true := by simp [keyIs, Value.isStrOf]
theorem key_ll (a b : Int) : decide ((Sum.inl a : Key) = Sum.inl b) = (a == b) := by
  by_cases e : a = b
  · subst e; simp
  · have h : ¬ (Sum.inl a : Key) = Sum.inl b := fun q => e (Sum.inl.inj q)
    rw [decide_eq_false h]
    exact (beq_eq_false_iff_ne.mpr e).symm
theorem key_rr (a b : Str) : decide ((Sum.inr a : Key) = Sum.inr b) = decide (a = b) := by
  by_cases e : a = b
  · subst e; simp
  · have h : ¬ (Sum.inr a : Key) = Sum.inr b := fun q => e (Sum.inr.inj q)
    rw [decide_eq_false h, decide_eq_false e]
theorem key_lr (a : Int) (b : Str) : decide ((Sum.inl a : Key) = Sum.inr b) = false := decide_eq_false (fun q => nomatch q)
theorem key_rl (a : Str) (b : Int) : decide ((Sum.inr a : Key) = Sum.inl b) = false := decide_eq_false (fun q => nomatch q)

def mixKind (prog : Program) (w : World) : PySem.KeyKind prog w Key where
  is := keyIs
  hash := keyH w
  inj := fun v a b ha hb => by
    rcases keyIs_shape ha with ⟨i, t, rfl, rfl⟩ | ⟨x, t, rfl, rfl⟩
    · rcases keyIs_shape hb with ⟨j, u, rfl, e⟩ | ⟨y, u, rfl, e⟩
      · injection e with e1 _; rw [e1]
      · exact nomatch e
    · rcases keyIs_shape hb with ⟨j, u, rfl, e⟩ | ⟨y, u, rfl, e⟩
      · exact nomatch e
      · injection e with e1 _; rw [e1]
  byValue := fun k v h => by
    rcases keyIs_shape h with ⟨i, t, rfl, rfl⟩ | ⟨x, t, rfl, rfl⟩ <;> rfl
  pyHash := fun hv h => by
    rcases keyIs_shape hv with ⟨i, t, rfl, rfl⟩ | ⟨x, t, rfl, rfl⟩
    · exact wpAny_pyHash_int h
    · exact wpAny_pyHash_str h
  eqBool := fun hu hv h => by
    rcases keyIs_shape hu with ⟨i, t, rfl, rfl⟩ | ⟨x, t, rfl, rfl⟩
    · rcases keyIs_shape hv with ⟨j, u, rfl, rfl⟩ | ⟨y, u, rfl, rfl⟩
      · rw [key_ll] at h; exact wpAny_eqBool_int h
      · rw [key_lr] at h; exact SeqAt.EqAt.int_str i t y u _ _ _ _ h
    · rcases keyIs_shape hv with ⟨j, u, rfl, rfl⟩ | ⟨y, u, rfl, rfl⟩
      · rw [key_rl] at h; exact SeqAt.EqAt.str_int x t j u _ _ _ _ h
      · rw [key_rr] at h; exact wpAny_eqBool_str h
  «strs» := fun k x t v h => by
    rcases keyIs_shape h with ⟨i, u, rfl, e⟩ | ⟨y, u, rfl, e⟩
    · exact nomatch e
    · injection e with e1 _
      subst e1
      cases v <;> rfl

theorem mixKind_int (prog : Program) (w : World) (i : Int) (t : Tok) : (mixKind prog w).is (.inl i) (.int i t) = true := keyIs_int i t
theorem mixKind_str (prog : Program) (w : World) (x : Str) (t : Tok) : (mixKind prog w).is (.inr x) (.str x t) = true := keyIs_str x t
end L2

namespace L2
open PySem PySem.Spec PyProof.Rows

/-- a value, without the heap -/
inductive V where
  | non | bl (b : Bool) | int (i : Int) | str (x : Str) | byt (b : Array UInt8) | flt (b : UInt64) | ref (a : Addr) | ty (n : String)
  deriving DecidableEq

def RelV : V → Value → Prop
  | .non, u => u = Value.none
  | .bl b, u => u = Value.bool b
  | .int i, u => ∃ t, u = Value.int i t
  | .str x, u => ∃ t, u = Value.str x t
  | .byt b, u => ∃ t, u = Value.bytes b t
  | .flt b, u => ∃ t, u = Value.float b t
  | .ref a, u => u = Value.ref a
  | .ty n, u => u = Value.type n

abbrev Vals : List V → List Value → Prop := Paired RelV
theorem Vals.length {xs : List V} {us : List Value} (r : Vals xs us) : xs.length = us.length := Paired.length r
theorem Vals.get : ∀ {xs : List V} {us : List Value} {i : Nat} {x : V}, Vals xs us → xs[i]? = some x → ∃ u, us[i]? = some u ∧ RelV x u
  | _, _, _, _, .nil, e => by simp at e
  | _, _, 0, _, .cons r _, e => by simp at e; subst e; exact ⟨_, rfl, r⟩
  | _, _, i + 1, x, .cons _ t, e => by
    obtain ⟨u, h1, h2⟩ := Vals.get (i := i) (x := x) t (by simpa using e)
    exact ⟨u, by simpa using h1, h2⟩
theorem Vals.set {x : V} {u : Value} (r : RelV x u) : ∀ {xs : List V} {us : List Value} (i : Nat), Vals xs us → Vals (xs.set i x) (us.set i u)
  | _, _, _, .nil => .nil
  | _, _, 0, .cons _ t => .cons r t
  | _, _, i + 1, .cons q t => .cons q (Vals.set r i t)
theorem Vals.append : ∀ {xs ys : List V} {us ws : List Value}, Vals xs us → Vals ys ws → Vals (xs ++ ys) (us ++ ws)
  | _, _, _, _, .nil, s => s
  | _, _, _, _, .cons r t, s => .cons r (Vals.append t s)
theorem Vals.take : ∀ {xs : List V} {us : List Value} (n : Nat), Vals xs us → Vals (xs.take n) (us.take n)
  | _, _, 0, _ => .nil
  | _, _, _ + 1, .nil => .nil
  | _, _, n + 1, .cons r t => .cons r (Vals.take n t)
theorem Vals.drop : ∀ {xs : List V} {us : List Value} (n : Nat), Vals xs us → Vals (xs.drop n) (us.drop n)
  | _, _, 0, r => r
  | _, _, _ + 1, .nil => .nil
  | _, _, n + 1, .cons _ t => Vals.drop n t

def RelO : Option V → Option Value → Prop
  | some v, some u => RelV v u
  | none, none => True
  | _, _ => False
def KV {κ : Type} : List (κ × V) → List (κ × Value) → Prop := Paired fun (p : κ × V) (q : κ × Value) => p.1 = q.1 ∧ RelV p.2 q.2

/-- a key of a dict (00_mix): an int or a text -/
def kV : Key → V
  | .inl i => .int i
  | .inr x => .str x

/-- what stands at a tracked address -/
inductive HO where
  /-- a list -/
  | lst (xs : List V)
  /-- a tuple (never changes) -/
  | tup (xs : List V)
  /-- a dict whose keys are ints and texts; one whose keys are tuples of ints and texts (the empty one is both) -/
  | dK (kvs : List (Key × V)) | dT (kvs : List (List Key × V))
  /-- a set of ints: its members, its size -/
  | set (S : Int → Bool) (n : Nat)
  /-- an instance of the class at C, its dict at dx, its attributes -/
  | ins (C dx : Addr) (fs : List (Str × V))
  /-- the dict of the instance at x -/
  | own (x : Addr)
  /-- the dict of an exception -/
  | xd (fs : List (Str × V))
  /-- a bound method, f of x -/
  | met (f x : Addr)
  /-- a range object lo, lo + 1, .. below hi -/
  | rng (lo hi : Int)
  /-- a thing that is known to the object (the script; a dict while a loop walks it): read, never written while it is so -/
  | frz (o : Obj) (u : HO)
  /-- a code object's table -/
  | tbl (ps : Array Value)
  /-- any other thing, by what is true of its one object (a def of one's own: SetO a S n := HO.ext fun h => ..) -/
  | ext (φ : Heap → Prop)

abbrev Hp := Addr → Option HO
def upd (H : Hp) (a : Addr) (o : HO) : Hp := fun b => if b = a then some o else H b
theorem upd_same {H : Hp} {a : Addr} {o : HO} : upd H a o a = some o := by unfold upd; rw [if_pos rfl]
theorem upd_ne {H : Hp} {a b : Addr} {o : HO} (h : b ≠ a) : upd H a o b = H b := by unfold upd; rw [if_neg h]

/-- two objects of different content stand apart -/
theorem ne_of {H : Hp} {a b : Addr} {o u : HO} (h : H a = some o) (h' : H b = some u) (d : o ≠ u) : a ≠ b := by
  intro e; subst e; rw [h] at h'; exact d (Option.some.inj h')
theorem ne_of_none {H : Hp} {a b : Addr} {o : HO} (h : H a = some o) (h' : H b = none) : a ≠ b := by
  intro e; subst e; rw [h] at h'; cases h'

section
variable (P : Program) (w : World)
def ObjOk (H : Hp) (h : Heap) (a : Addr) : HO → Prop
  | .lst xs => xs.length ≤ sizeLine ∧ ∃ (its : List Value) (n : Nat), Vals xs its ∧ h.get? a = some { cls := .type "list", data := .seq its.toArray n }
  | .tup xs => xs.length ≤ sizeLine ∧ ∃ its : List Value, Vals xs its ∧ IsTup h a its.toArray
  | .dK kvs => kvs.length ≤ sizeLine ∧ (a == sysModules) = false ∧ ∃ vs, KV kvs vs ∧ h.DictOf (mixKind P w) a vs
  | .dT kvs => kvs.length ≤ sizeLine ∧ (a == sysModules) = false ∧ ∃ xs : List (List Key × Addr × Value),
      Paired (fun (p : List Key × V) (q : List Key × Addr × Value) => p.1 = q.1 ∧ H q.2.1 = some (.tup (p.1.map kV)) ∧ RelV p.2 q.2.2) kvs xs ∧
      ∃ o es ep, h.get? a = some o ∧ o.ExactDict ∧ o.data = .dict es ep ∧ es.toList = xs.map (entryOfKey (tupleKind (mixKind P w))) ∧ (xs.map (·.1)).Nodup
  | .set S n => h.SetOf (intKind P w) a S n
  | .ins C dx fs => H dx = some (.own a) ∧ fs.length ≤ 1000 ∧ dx ≠ a ∧ h.get? a = some (PySem.W.instObj C dx) ∧
      ∃ mA, h.Ns1 dx mA ∧ (∀ f, RelO (fs.lookup f) (mA f)) ∧ PySem.Within mA (fs.map (·.1))
  | .own _ => ∃ o, h.get? a = some o
  | .xd fs => ∃ mA, h.Ns1 a mA ∧ ∀ f, RelO (fs.lookup f) (mA f)
  | .rng lo hi => ∃ t u v, h.get? a = some { cls := .type "range", data := .fields #[.int lo t, .int hi u, .int 1 v] }
  | .frz o u => h.get? a = some o ∧ ObjOk H h a u
  | .tbl ps => h.get? a = some { cls := .none, data := .fields ps }
  | .met f x => h.get? a = some (PySem.W.methodObj (.ref f) (.ref x))
  | .ext φ => φ h ∧ (∃ o, h.get? a = some o) ∧ ∀ h1 h2 : Heap, φ h1 → (∀ o, h1.get? a = some o → h2.get? a = some o) → φ h2
/-- the abstract heap is held -/
def HOk (H : Hp) (h : Heap) : Prop := ∀ a o, H a = some o → ObjOk P w H h a o
end

section
variable {P : Program} {w : World} {H H' : Hp} {h h' : Heap} {a : Addr} {o : HO}
theorem ObjOk.lt (x : ObjOk P w H h a o) : a < h.objs.size := by
  cases o with
  | lst xs => obtain ⟨_, _, _, _, e⟩ := x; exact Heap.lt_size e
  | tup xs => obtain ⟨_, _, _, p⟩ := x; exact p.lt
  | dK kvs => obtain ⟨_, _, _, _, o, _, _, e, _⟩ := x; exact Heap.lt_size e
  | dT kvs => obtain ⟨_, _, _, _, o, _, _, e, _⟩ := x; exact Heap.lt_size e
  | set S n => obtain ⟨o, _, _, _, e, _⟩ := x; exact Heap.lt_size e
  | ins C dx fs => obtain ⟨_, _, _, e, _⟩ := x; exact Heap.lt_size e
  | own y => obtain ⟨_, e⟩ := x; exact Heap.lt_size e
  | xd fs => obtain ⟨_, ⟨_, _, _, e, _⟩, _⟩ := x; exact Heap.lt_size e
  | rng lo hi => obtain ⟨_, _, _, e⟩ := x; exact Heap.lt_size e
  | frz ob u => obtain ⟨e, _⟩ := x; exact Heap.lt_size e
  | tbl ps => exact Heap.lt_size (show h.get? a = some _ from x)
  | met f y => exact Heap.lt_size (show h.get? a = some _ from x)
  | ext φ => obtain ⟨_, ⟨_, e⟩, _⟩ := x; exact Heap.lt_size e
theorem Paired.mapP {α β : Type} {F G : α → β → Prop} : ∀ {l₁ : List α} {l₂ : List β}, Paired F l₁ l₂ → (∀ a b, F a b → G a b) → Paired G l₁ l₂
  | _, _, .nil, _ => .nil
  | _, _, .cons r t, f => .cons (f _ _ r) (Paired.mapP t f)
theorem Paired.imp' {α β : Type} {F G : α → β → Prop} (f : ∀ a b, F a b → G a b) {l₁ : List α} {l₂ : List β} (r : Paired F l₁ l₂) : Paired G l₁ l₂ := Paired.mapP r f
/-- what an object's description leans on: its own object, its own dict, the tuples -/
theorem ObjOk.stay (x : ObjOk P w H h a o) (k : ∀ b u, (b = a ∨ H b = some (.own a)) → h.get? b = some u → h'.get? b = some u)
    (ho : ∀ b, H b = some (.own a) → H' b = some (.own a)) (ht : ∀ b xs, H b = some (.tup xs) → H' b = some (.tup xs)) : ObjOk P w H' h' a o := by
  induction o with
  | lst xs => obtain ⟨z, its, n, r, e⟩ := x; exact ⟨z, its, n, r, k _ _ (.inl rfl) e⟩
  | tup xs => obtain ⟨z, its, r, ob, e, c⟩ := x; exact ⟨z, its, r, ob, k _ _ (.inl rfl) e, c⟩
  | dK kvs => obtain ⟨z, y, vs, r, ob, es, ep, e, c⟩ := x; exact ⟨z, y, vs, r, ob, es, ep, k _ _ (.inl rfl) e, c⟩
  | dT kvs =>
    obtain ⟨z, y, xs, r, ob, es, ep, e, c⟩ := x
    exact ⟨z, y, xs, Paired.mapP r fun p q z => ⟨z.1, ht _ _ z.2.1, z.2.2⟩, ob, es, ep, k _ _ (.inl rfl) e, c⟩
  | set S n => obtain ⟨ob, es, ep, t, e, c⟩ := x; exact ⟨ob, es, ep, t, k _ _ (.inl rfl) e, c⟩
  | ins C dx fs =>
    obtain ⟨d, z, ne, e, mA, ⟨od, es, ep, e2, c⟩, r⟩ := x
    exact ⟨ho _ d, z, ne, k _ _ (.inl rfl) e, mA, ⟨od, es, ep, k _ _ (.inr d) e2, c⟩, r⟩
  | own y => obtain ⟨ob, e⟩ := x; exact ⟨ob, k _ _ (.inl rfl) e⟩
  | xd fs => obtain ⟨mA, ⟨od, es, ep, e, c⟩, r⟩ := x; exact ⟨mA, ⟨od, es, ep, k _ _ (.inl rfl) e, c⟩, r⟩
  | rng lo hi => obtain ⟨t, u, v, e⟩ := x; exact ⟨t, u, v, k _ _ (.inl rfl) e⟩
  | frz ob u ih => obtain ⟨e, q⟩ := x; exact ⟨k _ _ (.inl rfl) e, ih q⟩
  | tbl ps =>
    have e : h.get? a = some { cls := .none, data := .fields ps } := x
    show h'.get? a = some { cls := .none, data := .fields ps }
    exact k a _ (.inl rfl) e
  | met f y =>
    have e : h.get? a = some (PySem.W.methodObj (.ref f) (.ref y)) := x
    show h'.get? a = some (PySem.W.methodObj (.ref f) (.ref y))
    exact k a _ (.inl rfl) e
  | ext φ => obtain ⟨p, ⟨o, e⟩, st⟩ := x; exact ⟨st _ _ p fun o q => k _ _ (.inl rfl) q, ⟨o, k _ _ (.inl rfl) e⟩, st⟩
theorem HOk.lt (x : HOk P w H h) (e : H a = some o) : a < h.objs.size := (x a o e).lt
theorem HOk.fresh (x : HOk P w H h) (e : h.objs.size ≤ a) : H a = none := by
  cases q : H a with
  | none => rfl
  | some u => exact absurd (Nat.lt_of_lt_of_le (x.lt q) e) (Nat.lt_irrefl _)
/-- every object of the heap is kept -/
theorem HOk.kept (x : HOk P w H h) (k : ∀ b u, h.get? b = some u → h'.get? b = some u) : HOk P w H h' := fun a o e =>
  (x a o e).stay (fun b u _ q => k b u q) (fun _ q => q) fun _ _ q => q
/-- a new object is laid and tracked -/
theorem HOk.laid (x : HOk P w H h) (k : ∀ b u, h.get? b = some u → h'.get? b = some u) (hp : h.objs.size ≤ a) (new : ObjOk P w (upd H a o) h' a o) : HOk P w (upd H a o) h' := fun b u e => by
  have hn := x.fresh hp
  by_cases hb : b = a
  · subst hb; rw [upd_same] at e; cases e; exact new
  · rw [upd_ne hb] at e
    exact (x b u e).stay (fun c v _ q => k c v q) (fun c q => by rw [upd_ne (ne_of_none q hn)]; exact q) fun c xs q => by rw [upd_ne (ne_of_none q hn)]; exact q
end

/-- what may be read as u: it is u, or a known u -/
def Rd (H : Hp) (a : Addr) (u : HO) : Prop := H a = some u ∨ ∃ o, H a = some (.frz o u)

theorem Rd.ok {P : Program} {w : World} {H : Hp} {h : Heap} {a : Addr} {u : HO} (r : Rd H a u) (x : HOk P w H h) : ObjOk P w H h a u := by
  rcases r with r | ⟨o, r⟩
  · exact x a u r
  · obtain ⟨_, q⟩ := x a _ r
    exact q
/-- what may be written -/
def Mut : Option HO → Prop
  | some (.lst _) => True
  | some (.dK _) => True
  | some (.dT _) => True
  | some (.set _ _) => True
  | some (.ins _ _ _) => True
  | some (.ext _) => True
  | _ => False
section
variable {P : Program} {w : World} {H : Hp} {h h' : Heap} {x e : Addr} {o' : HO}
/-- the object at e is changed: x itself, or the dict of the instance x -/
theorem HOk.write (ok : HOk P w H h) (mu : Mut (H x)) (he : e = x ∨ H e = some (.own x)) (k : ∀ b u, b ≠ e → h.get? b = some u → h'.get? b = some u) (heo : ∃ u, h'.get? e = some u)
    (new : ObjOk P w (upd H x o') h' x o') : HOk P w (upd H x o') h' := fun b u q => by
  have nown : ∀ c y, H c = some (.own y) → c ≠ x := fun c y r z => by subst z; rw [r] at mu; exact mu
  have ntup : ∀ c xs, H c = some (.tup xs) → c ≠ x := fun c xs r z => by subst z; rw [r] at mu; exact mu
  by_cases hb : b = x
  · subst hb; rw [upd_same] at q; cases q; exact new
  · rw [upd_ne hb] at q
    by_cases hbe : b = e
    · have q' : H b = some (.own x) := by
        rcases he with z | z
        · exact absurd (hbe.trans z) hb
        · rw [hbe]; exact z
      rw [q] at q'; cases q'
      obtain ⟨v, hv⟩ := heo
      exact ⟨v, by rw [hbe]; exact hv⟩
    · refine (ok b u q).stay (fun c v hc r => k c v ?_ r) (fun c r => by rw [upd_ne (nown c b r)]; exact r) fun c xs r => by rw [upd_ne (ntup c xs r)]; exact r
      rcases hc with rfl | hc
      · exact hbe
      · rintro rfl
        rcases he with z | z
        · exact nown c b hc z
        · rw [hc] at z; cases z; exact hb rfl
end

/-! ### kept unless tracked; of the frames at fs (the callers') the slots may change (an exception that passes writes there); of the records at ex (iterators) nothing is said -/
structure Un (fs ex : List Addr) (H H' : Hp) (h h' : Heap) : Prop where
  keep : ∀ b o, h.get? b = some o → H b = none → b ∉ fs → b ∉ ex → h'.get? b = some o
  slot : ∀ b o, h.get? b = some o → H b = none → b ∈ fs → b ∉ ex → ∃ sl, h'.get? b = some { o with slots := sl }
  free : ∀ b o, h.get? b = some o → H b = none → b ∉ ex → H' b = none
  there : ∀ b o, h.get? b = some o → b ∉ ex → ∃ o', h'.get? b = some o'
  tups : ∀ b xs, H b = some (.tup xs) → H' b = some (.tup xs)
  frzs : ∀ b o u, H b = some (.frz o u) → H' b = some (.frz o u)
  tbls : ∀ b ps, H b = some (.tbl ps) → ∃ more, H' b = some (.tbl (ps ++ more))
section
variable {fs fs' ex ex' : List Addr} {H H1 H2 : Hp} {h h1 h2 h' : Heap} {a x e : Addr} {o : HO}
theorem Un.any (u : Un fs ex H H1 h h1) {b : Addr} {ob : Obj} (q : h.get? b = some ob) (n : H b = none) (hx : b ∉ ex) : ∃ sl, h1.get? b = some { ob with slots := sl } := by
  by_cases hb : b ∈ fs
  · exact u.slot b ob q n hb hx
  · exact ⟨ob.slots, u.keep b ob q n hb hx⟩

theorem Un.kept (k : ∀ b u, h.get? b = some u → h'.get? b = some u) : Un fs ex H H h h' :=
  ⟨fun b ob q _ _ _ => k b ob q, fun b ob q _ _ _ => ⟨ob.slots, k b ob q⟩, fun _ _ _ n _ => n, fun b ob q _ => ⟨ob, k b ob q⟩, fun _ _ q => q, fun _ _ _ q => q, fun _ ps q => ⟨#[], by rw [q]; simp⟩⟩
theorem Un.refl : Un fs ex H H h h := Un.kept fun _ _ q => q
theorem Un.laid (k : ∀ b u, h.get? b = some u → h'.get? b = some u) (hp : h.objs.size ≤ a) (hn : H a = none) : Un fs ex H (upd H a o) h h' where
  keep := fun b u q _ _ _ => k b u q
  slot := fun b u q _ _ _ => ⟨u.slots, k b u q⟩
  free := fun b u q n _ => by rw [upd_ne (Nat.ne_of_lt (Nat.lt_of_lt_of_le (Heap.lt_size q) hp))]; exact n
  there := fun b u q _ => ⟨u, k b u q⟩
  tups := fun b xs q => by rw [upd_ne (ne_of_none q hn)]; exact q
  frzs := fun b u xs q => by rw [upd_ne (ne_of_none q hn)]; exact q
  tbls := fun b ps q => ⟨#[], by rw [upd_ne (ne_of_none q hn), q]; simp⟩
theorem Un.write (mu : Mut (H x)) (he : e = x ∨ H e = some (.own x)) (k : ∀ b u, b ≠ e → h.get? b = some u → h'.get? b = some u) (heo : ∃ u, h'.get? e = some u) : Un fs ex H (upd H x o) h h' := by
  have hx : ∀ b, H b = none → b ≠ x := fun b n z => by subst z; rw [n] at mu; exact mu
  have hb : ∀ b, H b = none → b ≠ e := fun b n z => by
    subst z
    rcases he with r | r
    · exact hx b n r
    · rw [n] at r; cases r
  have hm : ∀ b u, H b = some u → ¬ Mut (some u) → b ≠ x := fun b u q nm z => by subst z; rw [q] at mu; exact nm mu
  refine ⟨fun b u q n _ _ => k b u (hb b n) q, fun b u q n _ _ => ⟨u.slots, k b u (hb b n) q⟩, fun b u q n _ => by rw [upd_ne (hx b n)]; exact n, fun b u q _ => ?_,
    fun b xs q => by rw [upd_ne (hm b _ q fun z => z)]; exact q, fun b u xs q => by rw [upd_ne (hm b _ q fun z => z)]; exact q, fun b ps q => ⟨#[], by rw [upd_ne (hm b _ q fun z => z), q]; simp⟩⟩
  by_cases hbe : b = e
  · subst hbe; exact heo
  · exact ⟨u, k b u hbe q⟩

end

/-! ### the heap without what is tracked -/
def trk (h : Heap) (H : Hp) : List Addr := (List.range h.objs.size).filter fun a => (H a).isSome
def hidT (h : Heap) (H : Hp) : Heap := PySem.W.hideAll h (trk h H)
theorem hidT_size (h : Heap) (H : Hp) : (hidT h H).objs.size = h.objs.size := PySem.W.hideAll_size _ _
theorem hidT_get {h : Heap} {H : Hp} {b : Addr} {o : Obj} (e : h.get? b = some o) (n : H b = none) : (hidT h H).get? b = some o :=
  PySem.W.hideAll_get _ e fun hm => by
    have q : (H b).isSome = true := (List.mem_filter.mp hm).2
    rw [n] at q; simp at q
theorem of_hidT {h : Heap} {H : Hp} {b : Addr} {o : Obj} (e : (hidT h H).get? b = some o) : h.get? b = some o ∧ H b = none := by
  have e' : h.get? b = some o := PySem.W.of_hideAll (trk h H) e
  refine ⟨e', ?_⟩
  cases q : H b with
  | none => rfl
  | some x =>
    have hm : b ∈ trk h H := List.mem_filter.mpr ⟨List.mem_range.mpr (Heap.lt_size e'), by simp [q]⟩
    have z : (hidT h H).get? b = none := PySem.W.hideAll_none (trk h H) hm
    rw [z] at e; cases e

/-! ### OpenK's ledger, filled with every new object but one -/

end L2

namespace L2
open PySem PySem.Spec PyProof.Rows

/-- the module's facts, over the base: the heap at the law's entry without what is tracked there -/
structure Mod (K : PySem.W.Frag) (mg : Str → Option Value) (base : Heap) : Prop where
  kin : K.In base
  glob : base.Ns mainGlobals mg
  blt : ∃ mb, base.Ns builtinsNs mb ∧ ∀ x : Str, x ≠ "__name__" → mb x = bootBuiltins x
  nolimit : base.NoLimit

/-- the context: a def's body (or a comprehension's block) running. base: fixed through the whole law; s₀, H₀: the entry; outer: the frames whose slots others may change (a def's callers); stack: all frames that run;
   ex: iterators that were made ahead of the entry and are walked here (a comprehension's); fn: the names whose cells were made at the entry (a def: all; a comprehension's block: its own); calm: not within an except suite; pn: pins that every state bears; xe: what is wanted of an exception that leaves the code -/
structure Cx where
  prog : Program
  w : World
  K : PySem.W.Frag
  mg : Str → Option Value
  base : Heap
  A : Around
  N : List Str
  s_0 : Shared
  H_0 : Hp
  env : Env
  outer : List Env
  stack : List Env
  ex : List Addr
  fn : Str → Bool
  calm : Bool
  pn : List (Addr × Obj)
  xe : Value → Shared → Prop
/-- the callers' frames -/
def frs (l : List Env) : List Addr := l.filterMap (·.frame)
abbrev Cx.fs (X : Cx) : List Addr := frs X.outer

def Vis (sc : Scope) (x : Str) : Prop := sc.names.lookup x = some .local ∨ sc.names.lookup x = some .cell ∨ sc.names.lookup x = some .free
def Loc (sc : Scope) (x : Str) : Prop := sc.names.lookup x = some .local ∨ sc.names.lookup x = some .cell
def Look (env : Env) (h : Heap) (m : Str → Option Value) (x : Str) (u : Value) : Prop :=
  (env.kindOf x = some .local ∧ m x = some u) ∨ ((env.kindOf x = some .cell ∨ env.kindOf x = some .free) ∧ ∃ c, env.cells.lookup x = some c ∧ h.IsCell c (some u))

structure Cx.Ok (X : Cx) : Prop where
  mod : Mod X.K X.mg X.base
  kind : X.env.scope.kind = .function
  glob : X.env.globals = mainGlobals
  blt : X.env.builtins = builtinsNs
  above : X.s_0.heap.objs.size ≤ X.env.locals
  inj : ∀ x y c, X.env.cells.lookup x = some c → X.env.cells.lookup y = some c → x = y
  has : ∀ x, (X.env.kindOf x = some .cell ∨ X.env.kindOf x = some .free) → ∃ c, X.env.cells.lookup x = some c
  cab : ∀ x c, X.fn x = true → X.env.cells.lookup x = some c → X.s_0.heap.objs.size ≤ c
  hd : X.calm = true → X.A.handled = none
  frames : X.A.frames = some X.stack
  stk : X.stack = X.outer ∨ (X.stack = X.env :: X.outer ∧ X.env.frame = some X.env.locals)
  exf : ∀ b ∈ X.ex, b ≠ X.env.locals ∧ ∀ x c, X.env.cells.lookup x = some c → c ≠ b
  bs : ∀ b o, X.base.get? b = some o → X.s_0.heap.get? b = some o ∧ X.H_0 b = none
  bsz : X.base.objs.size ≤ X.s_0.heap.objs.size
  noex : ∀ b o, X.base.get? b = some o → b ∉ X.ex
  exfs : ∀ b ∈ X.ex, b ∉ X.fs
  funs : X.s_0.heap.FunFrames X.base X.outer
  frf : ∀ b ∈ X.fs, X.H_0 b = none

structure Inv (X : Cx) (pins : List (Addr × Obj)) (σ : List (Option V)) (H : Hp) (s : Shared) : Prop where
  ok : X.Ok
  os : s.os = X.s_0.os
  bare : AllBare s.gens
  base : Un X.fs X.ex X.H_0 H X.s_0.heap s.heap
  loc : ∃ m, s.heap.Ns X.env.locals m ∧ ∀ (i : Nat) (x : Str) (v : V), X.N[i]? = some x → σ[i]? = some (some v) → Vis X.env.scope x → ∃ u, RelV v u ∧ Look X.env s.heap m x u
  cell : ∀ x c, X.env.cells.lookup x = some c → ∃ v, s.heap.IsCell c v
  free : H X.env.locals = none
  freeC : ∀ x c, X.env.cells.lookup x = some c → H c = none
  pin : ∀ p ∈ X.pn ++ pins, s.heap.get? p.1 = some p.2 ∧ H p.1 = none ∧ p.1 ≠ X.env.locals ∧ p.1 ∉ X.fs ∧ ∀ v, p.2.data ≠ .cell v
  hok : HOk X.prog X.w H s.heap
  len : σ.length = X.N.length

section
variable {X : Cx} {pins : List (Addr × Obj)} {σ : List (Option V)} {H H' : Hp} {s : Shared} {h' : Heap}

theorem Cx.Ok.nofr (ok : X.Ok) {b : Addr} {o : Obj} (e : X.base.get? b = some o) : b ∉ X.fs := fun hb => by
  have := (ok.funs.mem hb).1
  rw [e] at this; cases this
theorem Inv.bs (I : Inv X pins σ H s) : ∀ b o, X.base.get? b = some o → s.heap.get? b = some o ∧ H b = none := fun b o e =>
  ⟨I.base.keep b o (I.ok.bs b o e).1 (I.ok.bs b o e).2 (I.ok.nofr e) (I.ok.noex b o e), I.base.free b o (I.ok.bs b o e).1 (I.ok.bs b o e).2 (I.ok.noex b o e)⟩
theorem Inv.bk (I : Inv X pins σ H s) : ∀ b o, X.base.get? b = some o → s.heap.get? b = some o := fun b o e => (I.bs b o e).1
theorem Inv.mod (I : Inv X pins σ H s) : Mod X.K X.mg X.base := I.ok.mod
theorem Inv.kIn (I : Inv X pins σ H s) : X.K.In s.heap := I.ok.mod.kin.keeps I.bk

theorem Inv.lt (I : Inv X pins σ H s) : X.env.locals < s.heap.objs.size := let ⟨_, hn, _⟩ := I.loc; hn.lt
theorem Inv.sz (I : Inv X pins σ H s) : X.s_0.heap.objs.size ≤ s.heap.objs.size := Nat.le_trans I.ok.above (Nat.le_of_lt I.lt)
theorem Inv.nofs (I : Inv X pins σ H s) {a : Addr} (h : s.heap.objs.size ≤ a) : a ∉ X.fs := fun hb => by
  obtain ⟨_, o, ho, _⟩ := I.ok.funs.mem hb
  exact absurd (Nat.lt_of_lt_of_le (Heap.lt_size ho) (Nat.le_trans I.sz h)) (Nat.lt_irrefl _)
theorem Inv.cne (I : Inv X pins σ H s) : ∀ x c, X.env.cells.lookup x = some c → c ≠ X.env.locals := fun x c e z => by
  obtain ⟨v, o, ho, hd⟩ := I.cell x c e
  obtain ⟨m, ⟨o', es, ep, ho', hd', _⟩, _⟩ := I.loc
  rw [z, ho'] at ho; cases ho; rw [hd'] at hd; cases hd
theorem Inv.funs (I : Inv X pins σ H s) : s.heap.FunFrames X.base X.outer := by
  have all : ∀ (l : List Env), (∀ b ∈ frs l, b ∈ X.fs) → X.s_0.heap.FunFrames X.base l → s.heap.FunFrames X.base l := by
    intro l
    induction l with
    | nil => intro _ _; trivial
    | cons env r ih =>
      intro hs hl
      obtain ⟨hk, ⟨L, o, hf, hn, ho, hd⟩, hr⟩ := hl
      have hL : L ∈ X.fs := hs L (by unfold frs; rw [List.filterMap_cons, hf]; exact List.mem_cons_self)
      obtain ⟨sl, e⟩ := I.base.slot L o ho (I.ok.frf L hL) hL fun z => I.ok.exfs L z hL
      exact ⟨hk, ⟨L, _, hf, hn, e, hd⟩, ih (fun b hb => hs b (by unfold frs; rw [List.filterMap_cons, hf]; exact List.mem_cons_of_mem _ hb)) hr⟩
  exact all X.outer (fun _ hb => hb) I.ok.funs

/-- the frames that run, for a call -/
theorem Inv.stack (I : Inv X pins σ H s) : s.heap.FunFrames X.base X.stack := by
  rcases I.ok.stk with e | ⟨e, hf⟩
  · rw [e]; exact I.funs
  · rw [e]
    obtain ⟨m, hn, _⟩ := I.loc
    refine .cons (by rw [I.ok.kind]; decide) hf hn ?_ I.funs
    exact Heap.get?_none_of_le (Nat.le_trans I.ok.bsz I.ok.above)
theorem Inv.stkSub (I : Inv X pins σ H s) : ∀ b ∈ frs X.stack, b ∈ X.env.locals :: X.fs := fun b hb => by
  rcases I.ok.stk with e | ⟨e, hf⟩
  · rw [e] at hb; exact List.mem_cons_of_mem _ hb
  · rw [e] at hb
    unfold frs at hb
    rw [List.filterMap_cons, hf] at hb
    exact hb
theorem Inv.stkFree (I : Inv X pins σ H s) : ∀ b ∈ frs X.stack, H b = none := fun b hb => by
  rcases List.mem_cons.mp (I.stkSub b hb) with e | hb
  · rw [e]; exact I.free
  · obtain ⟨_, o, ho, _⟩ := I.ok.funs.mem hb
    exact I.base.free b o ho (I.ok.frf b hb) fun z => I.ok.exfs b z hb

/-- THE STEP: the untracked objects but the frame and the records at ch are kept (the callers' frames up to slots), the frame's map is kept, the new abstract heap is held -/
theorem Inv.step {g' : Array GenState} {t' : Nat} {d' : Drawn} {ch : List Addr} (I : Inv X pins σ H s)
    (hch : ∀ b ∈ ch, (b ∈ X.ex ∨ X.s_0.heap.objs.size ≤ b) ∧ b ≠ X.env.locals ∧ (∀ x c, X.env.cells.lookup x = some c → c ≠ b) ∧ ∀ p ∈ X.pn ++ pins, p.1 ≠ b)
    (keep : ∀ b o, b ≠ X.env.locals → b ∉ X.fs → b ∉ ch → s.heap.get? b = some o → H b = none → h'.get? b = some o)
    (slot : ∀ b o, b ≠ X.env.locals → b ∈ X.fs → b ∉ ch → s.heap.get? b = some o → H b = none → ∃ sl, h'.get? b = some { o with slots := sl }) (free : ∀ b o, b ∉ ch → s.heap.get? b = some o → H b = none → H' b = none)
    (there : ∀ b o, b ∉ ch → s.heap.get? b = some o → ∃ o', h'.get? b = some o')
    (tups : ∀ b xs, H b = some (.tup xs) → H' b = some (.tup xs)) (frzs : ∀ b o u, H b = some (.frz o u) → H' b = some (.frz o u)) (tbls : ∀ b ps, H b = some (.tbl ps) → ∃ more, H' b = some (.tbl (ps ++ more)))
    (ns : ∀ m, s.heap.Ns X.env.locals m → h'.Ns X.env.locals m) (hok : HOk X.prog X.w H' h') (hg : AllBare g') :
    Inv X pins σ H' { s with heap := h', gens := g', drawn := d', toks := t' } := by
  have neL : ∀ b o, X.s_0.heap.get? b = some o → b ≠ X.env.locals := fun b o e => Nat.ne_of_lt (Nat.lt_of_lt_of_le (Heap.lt_size e) I.ok.above)
  have neC : ∀ b o, X.s_0.heap.get? b = some o → b ∉ X.ex → b ∉ ch := fun b o e hx hb => by
    rcases (hch b hb).1 with z | z
    · exact hx z
    · exact absurd (Nat.lt_of_lt_of_le (Heap.lt_size e) z) (Nat.lt_irrefl _)
  have cellK : ∀ x c, X.env.cells.lookup x = some c → ∀ v, s.heap.IsCell c v → h'.IsCell c v := fun x c e v ⟨o, ho, hd⟩ => by
    have nch : c ∉ ch := fun z => (hch c z).2.2.1 x c e rfl
    by_cases hc : c ∈ X.fs
    · obtain ⟨sl, q⟩ := slot c o (I.cne x c e) hc nch ho (I.freeC x c e)
      exact ⟨_, q, hd⟩
    · exact ⟨o, keep c o (I.cne x c e) hc nch ho (I.freeC x c e), hd⟩
  refine ⟨I.ok, I.os, hg, ⟨fun b o e n hb hx => ?_, fun b o e n hb hx => ?_, fun b o e n hx => ?_, fun b o e hx => ?_, fun b xs e => tups b xs (I.base.tups b xs e), fun b o xs e => frzs b o xs (I.base.frzs b o xs e), fun b ps e => ?_⟩, ?_, fun x c e => ?_, ?_, fun x c e => ?_, fun p hp => ?_, hok, I.len⟩
  · exact keep b o (neL b o e) hb (neC b o e hx) (I.base.keep b o e n hb hx) (I.base.free b o e n hx)
  · obtain ⟨sl, e1⟩ := I.base.slot b o e n hb hx
    obtain ⟨sl', e2⟩ := slot b _ (neL b o e) hb (neC b o e hx) e1 (I.base.free b o e n hx)
    exact ⟨sl', e2⟩
  · obtain ⟨o', e1⟩ := I.base.there b o e hx
    exact free b o' (neC b o e hx) e1 (I.base.free b o e n hx)
  · obtain ⟨o', e1⟩ := I.base.there b o e hx
    exact there b o' (neC b o e hx) e1
  · obtain ⟨m1, e1⟩ := I.base.tbls b ps e
    obtain ⟨m2, e2⟩ := tbls b _ e1
    exact ⟨m1 ++ m2, by rw [e2, Array.append_assoc]⟩
  · obtain ⟨m, hn, hl⟩ := I.loc
    refine ⟨m, ns m hn, fun i x v e1 e2 e3 => ?_⟩
    obtain ⟨u, r, l⟩ := hl i x v e1 e2 e3
    refine ⟨u, r, ?_⟩
    rcases l with l | ⟨k, c, e, z⟩
    · exact .inl l
    · exact .inr ⟨k, c, e, cellK x c e _ z⟩
  · obtain ⟨v, z⟩ := I.cell x c e
    exact ⟨v, cellK x c e v z⟩
  · obtain ⟨m, ⟨o, _, _, ho, _⟩, _⟩ := I.loc
    exact free _ o (fun z => (hch _ z).2.1 rfl) ho I.free
  · obtain ⟨v, o, ho, hd⟩ := I.cell x c e
    exact free c o (fun z => (hch c z).2.2.1 x c e rfl) ho (I.freeC x c e)
  · obtain ⟨e, n, ne, nf, d⟩ := I.pin p hp
    have nch : p.1 ∉ ch := fun z => (hch p.1 z).2.2.2 p hp rfl
    exact ⟨keep p.1 p.2 ne nf nch e n, free p.1 p.2 nch e n, ne, nf, d⟩
/-- .. where the frame's own object is kept too -/
theorem Inv.un {t' : Nat} (I : Inv X pins σ H s) (u : Un X.fs [] H H' s.heap h') (hok : HOk X.prog X.w H' h') : Inv X pins σ H' { s with heap := h', toks := t' } := by
  obtain ⟨m, ⟨o, es, ep, ho, r⟩, _⟩ := id I.loc
  obtain ⟨sl, hL⟩ := u.any ho I.free (by simp)
  exact I.step (g' := s.gens) (d' := s.drawn) (ch := []) (fun _ z => nomatch z) (fun b o _ hb _ e n => u.keep b o e n hb (by simp)) (fun b o _ hb _ e n => u.slot b o e n hb (by simp)) (fun b o _ e n => u.free b o e n (by simp)) (fun b o _ e => u.there b o e (by simp)) u.tups u.frzs u.tbls (fun m' hm => by
    obtain ⟨o', es', ep', ho', r'⟩ := hm
    rw [ho] at ho'; cases ho'
    exact ⟨_, es', ep', hL, r'⟩) hok I.bare
/-- behind a call (or a comprehension's block): the slots of this frame may have changed too, the records at ch may have turned -/
theorem Inv.call {g' : Array GenState} {t' : Nat} {d' : Drawn} {ch : List Addr} (I : Inv X pins σ H s) (u : Un (frs X.stack) ch H H' s.heap h') (hok : HOk X.prog X.w H' h') (hg : AllBare g')
    (hch : ∀ b ∈ ch, (b ∈ X.ex ∨ X.s_0.heap.objs.size ≤ b) ∧ b ≠ X.env.locals ∧ (∀ x c, X.env.cells.lookup x = some c → c ≠ b) ∧ ∀ p ∈ X.pn ++ pins, p.1 ≠ b) :
    Inv X pins σ H' { s with heap := h', gens := g', drawn := d', toks := t' } := by
  obtain ⟨m, ⟨o, es, ep, ho, r⟩, _⟩ := id I.loc
  obtain ⟨sl, hL⟩ := u.any ho I.free fun z => (hch _ z).2.1 rfl
  exact I.step (ch := ch) hch (fun b o hL hb hc e n => u.keep b o e n (fun z => (List.mem_cons.mp (I.stkSub b z)).elim hL hb) hc) (fun b o _ _ hc e n => u.any e n hc) (fun b o hc e n => u.free b o e n hc) (fun b o hc e => u.there b o e hc) u.tups u.frzs u.tbls (fun m' hm => by
    obtain ⟨o', es', ep', ho', r'⟩ := hm
    rw [ho] at ho'; cases ho'
    exact ⟨_, es', ep', hL, r'⟩) hok hg
/-- an untracked record of ours (an iterator) has turned -/
theorem Inv.turned {t' : Nat} {it : Addr} (I : Inv X pins σ H s) (k : ∀ b o, b ≠ it → s.heap.get? b = some o → h'.get? b = some o) (hn : H it = none) (hL : it ≠ X.env.locals)
    (h1 : it ∈ X.ex ∨ X.s_0.heap.objs.size ≤ it) (h2 : ∀ x c, X.env.cells.lookup x = some c → c ≠ it) (h3 : ∀ p ∈ X.pn ++ pins, p.1 ≠ it) : Inv X pins σ H { s with heap := h', toks := t' } := by
  have nit : ∀ b u, H b = some u → b ≠ it := fun b u e z => by rw [z, hn] at e; cases e
  refine I.step (g' := s.gens) (d' := s.drawn) (ch := [it]) (fun b hb => ?_) (fun b o _ _ hc e _ => k b o (fun z => hc (by simp [z])) e) (fun b o _ _ hc e _ => ⟨o.slots, k b o (fun z => hc (by simp [z])) e⟩) (fun _ _ _ _ n => n)
    (fun b o hc e => ⟨o, k b o (fun z => hc (by simp [z])) e⟩) (fun _ _ e => e) (fun _ _ _ e => e) (fun b ps e => ⟨#[], by rw [e]; simp⟩) (fun m hm => ?_) (fun b u e => ?_) I.bare
  · have e : b = it := by simpa using hb
    subst e
    exact ⟨h1, hL, h2, h3⟩
  · obtain ⟨o, es, ep, ho, r⟩ := hm
    exact ⟨o, es, ep, k _ o (Ne.symm hL) ho, r⟩
  · refine (I.hok b u e).stay (fun c v hc q => k c v ?_ q) (fun _ q => q) fun _ _ q => q
    rcases hc with z | z
    · rw [z]; exact nit b u e
    · exact nit c _ z
theorem Inv.tok (I : Inv X pins σ H s) (t : Nat) : Inv X pins σ H { s with toks := t } := I.un (h' := s.heap) (t' := t) Un.refl I.hok
/-- all objects kept -/
theorem Inv.kept {t' : Nat} (I : Inv X pins σ H s) (k : ∀ b u, s.heap.get? b = some u → h'.get? b = some u) : Inv X pins σ H { s with heap := h', toks := t' } := I.un (Un.kept k) (I.hok.kept k)
/-- a new object laid and tracked -/
theorem Inv.laid {a : Addr} {o : HO} {t' : Nat} (I : Inv X pins σ H s) (k : ∀ b u, s.heap.get? b = some u → h'.get? b = some u) (hp : s.heap.objs.size ≤ a) (new : ObjOk X.prog X.w (upd H a o) h' a o) :
    Inv X pins σ (upd H a o) { s with heap := h', toks := t' } := I.un (Un.laid k hp (I.hok.fresh hp)) (I.hok.laid k hp new)
/-- an object written -/
theorem Inv.write {x e : Addr} {o : HO} {t' : Nat} (I : Inv X pins σ H s) (mu : Mut (H x)) (he : e = x ∨ H e = some (.own x)) (k : ∀ b u, b ≠ e → s.heap.get? b = some u → h'.get? b = some u) (heo : ∃ u, h'.get? e = some u)
    (new : ObjOk X.prog X.w (upd H x o) h' x o) : Inv X pins σ (upd H x o) { s with heap := h', toks := t' } := I.un (Un.write mu he k heo) (I.hok.write mu he k heo new)
/-- forgetting slots, pins -/
theorem Inv.weak {σ' : List (Option V)} (I : Inv X pins σ H s) (hl : σ'.length = σ.length) (w : ∀ (i : Nat) v, σ'[i]? = some (some v) → σ[i]? = some (some v)) : Inv X pins σ' H s :=
  ⟨I.ok, I.os, I.bare, I.base, let ⟨m, hn, hl'⟩ := I.loc; ⟨m, hn, fun i x v e1 e2 e3 => hl' i x v e1 (w i v e2) e3⟩, I.cell, I.free, I.freeC, I.pin, I.hok, hl.trans I.len⟩
theorem Inv.pins_of {pins' : List (Addr × Obj)} (I : Inv X pins σ H s) (h : ∀ p ∈ pins', s.heap.get? p.1 = some p.2 ∧ H p.1 = none ∧ p.1 ≠ X.env.locals ∧ p.1 ∉ X.fs ∧ ∀ v, p.2.data ≠ .cell v) : Inv X pins' σ H s :=
  ⟨I.ok, I.os, I.bare, I.base, I.loc, I.cell, I.free, I.freeC, fun p hp => (List.mem_append.mp hp).elim (fun z => I.pin p (List.mem_append_left _ z)) (h p), I.hok, I.len⟩

theorem nodup_ix {N : List Str} (hN : N.Nodup) {i j : Nat} {x : Str} (a : N[i]? = some x) (b : N[j]? = some x) : i = j := by
  obtain ⟨h1, e1⟩ := List.getElem?_eq_some_iff.mp a
  obtain ⟨h2, e2⟩ := List.getElem?_eq_some_iff.mp b
  exact (List.getElem_inj hN).mp (e1.trans e2.symm)

/-- a name is stored; what changed -/
theorem store_ok2 {M : Model} {A : Around} {E : Value → Shared → Prop} {i : Nat} {x : Str} {v : V} {u : Value} {Q : Unit → Shared → Prop} (I : Inv X pins σ H s) (hN : X.N.Nodup) (hi : X.N[i]? = some x) (hx : Loc X.env.scope x) (r : RelV v u)
    (h : ∀ s', Inv X pins (σ.set i (some v)) H s' → (∃ a, Heap.SameBut a s.heap s'.heap ∧ (a = X.env.locals ∨ X.env.cells.lookup x = some a)) → Q () s') (hf : X.fn x = true ∨ X.env.scope.names.lookup x = some .local := by first | exact .inl rfl | exact .inr rfl | assumption) : wpAny M A (storeName X.env x u) Q E s := by
  obtain ⟨m, hn, hl⟩ := id I.loc
  have hcls : (X.env.scope.kind == .class || (X.env.scope.kind == .module && X.env.locals != X.env.globals)) = false := by rw [I.ok.kind]; rfl
  have hiσ : i < σ.length := by rw [I.len]; exact (List.getElem?_eq_some_iff.mp hi).1
  have cne := I.cne
  have tracked : ∀ {a : Addr} {h' : Heap}, (∃ o, s.heap.get? a = some o ∧ H a = none) → Heap.SameBut a s.heap h' → HOk X.prog X.w H h' := fun {a h'} ha hs b ob e => by
    obtain ⟨_, _, hfree⟩ := ha
    refine (I.hok b ob e).stay (fun c w' hc q => (hs.2 c ?_).trans q) (fun _ q => q) fun _ _ q => q
    rintro rfl
    rcases hc with rfl | hc
    · rw [hfree] at e; cases e
    · rw [hfree] at hc; cases hc
  rcases hx with hk | hk
  · refine wpAny_storeName_local hk hn (fun h' hn' hs => ?_) hcls
    obtain ⟨oL, _, _, hoL, _⟩ := id hn
    refine h _ ⟨I.ok, I.os, I.bare, ⟨fun b o e n hb hx => ?_, fun b o e n hb hx => ?_, I.base.free, fun b o e hx => ?_, I.base.tups, I.base.frzs, I.base.tbls⟩, ⟨_, hn', fun j y v' e1 e2 e3 => ?_⟩, fun y c e => ?_, I.free, I.freeC, fun p hp => ?_, tracked ⟨oL, hoL, I.free⟩ hs, by simpa using I.len⟩ ⟨_, hs, .inl rfl⟩
    · exact (hs.2 b (Nat.ne_of_lt (Nat.lt_of_lt_of_le (Heap.lt_size e) I.ok.above))).trans (I.base.keep b o e n hb hx)
    · obtain ⟨sl, e1⟩ := I.base.slot b o e n hb hx
      exact ⟨sl, (hs.2 b (Nat.ne_of_lt (Nat.lt_of_lt_of_le (Heap.lt_size e) I.ok.above))).trans e1⟩
    · obtain ⟨o', e1⟩ := I.base.there b o e hx
      exact ⟨o', (hs.2 b (Nat.ne_of_lt (Nat.lt_of_lt_of_le (Heap.lt_size e) I.ok.above))).trans e1⟩
    · by_cases hj : j = i
      · subst hj
        rw [hi] at e1; cases e1
        rw [List.getElem?_set_self hiσ] at e2
        cases e2
        exact ⟨u, r, .inl ⟨hk, by simp⟩⟩
      · rw [List.getElem?_set_ne (Ne.symm hj)] at e2
        obtain ⟨u', r', q⟩ := hl j y v' e1 e2 e3
        refine ⟨u', r', ?_⟩
        rcases q with ⟨k, e⟩ | ⟨k, c, e, z⟩
        · refine .inl ⟨k, ?_⟩
          have : y ≠ x := fun e => hj (nodup_ix hN e1 (e ▸ hi))
          simp [this, e]
        · exact .inr ⟨k, c, e, z.sameBut hs (cne y c e)⟩
    · obtain ⟨w', z⟩ := I.cell y c e
      exact ⟨w', z.sameBut hs (cne y c e)⟩
    · obtain ⟨e, n, ne, nf, d⟩ := I.pin p hp
      exact ⟨(hs.2 p.1 ne).trans e, n, ne, nf, d⟩
  · have hfn : X.fn x = true := by
      rcases hf with z | z
      · exact z
      · rw [z] at hk; cases hk
    obtain ⟨c, hc⟩ := I.ok.has x (.inl hk)
    obtain ⟨w', z⟩ := I.cell x c hc
    refine wpAny_storeName_cell I.ok.kind hk hc z (fun h' hc' hs => ?_)
    obtain ⟨oc, hoc, hocd⟩ := id z
    refine h { s with heap := h' } ⟨I.ok, I.os, I.bare, ⟨fun b o e n hb hx => ?_, fun b o e n hb hx => ?_, I.base.free, fun b o e hx => ?_, I.base.tups, I.base.frzs, I.base.tbls⟩, ⟨m, hn.sameBut hs (Ne.symm (cne x c hc)), fun j y v' e1 e2 e3 => ?_⟩, fun y c' e => ?_, I.free, I.freeC, fun p hp => ?_, tracked ⟨oc, hoc, I.freeC x c hc⟩ hs, by simpa using I.len⟩ ⟨c, hs, .inr hc⟩
    · exact (hs.2 b (Nat.ne_of_lt (Nat.lt_of_lt_of_le (Heap.lt_size e) (I.ok.cab x c hfn hc)))).trans (I.base.keep b o e n hb hx)
    · obtain ⟨sl, e1⟩ := I.base.slot b o e n hb hx
      exact ⟨sl, (hs.2 b (Nat.ne_of_lt (Nat.lt_of_lt_of_le (Heap.lt_size e) (I.ok.cab x c hfn hc)))).trans e1⟩
    · obtain ⟨o', e1⟩ := I.base.there b o e hx
      exact ⟨o', (hs.2 b (Nat.ne_of_lt (Nat.lt_of_lt_of_le (Heap.lt_size e) (I.ok.cab x c hfn hc)))).trans e1⟩
    · by_cases hj : j = i
      · subst hj
        rw [hi] at e1; cases e1
        rw [List.getElem?_set_self hiσ] at e2
        cases e2
        exact ⟨u, r, .inr ⟨.inl hk, c, hc, hc'⟩⟩
      · rw [List.getElem?_set_ne (Ne.symm hj)] at e2
        obtain ⟨u', r', q⟩ := hl j y v' e1 e2 e3
        refine ⟨u', r', ?_⟩
        rcases q with q | ⟨k, c', e, z'⟩
        · exact .inl q
        · refine .inr ⟨k, c', e, z'.sameBut hs ?_⟩
          rintro rfl
          exact hj (nodup_ix hN e1 (I.ok.inj _ _ _ e hc ▸ hi))
    · by_cases hcc : c' = c
      · subst hcc; exact ⟨_, hc'⟩
      · obtain ⟨w2, z2⟩ := I.cell y c' e
        exact ⟨w2, z2.sameBut hs hcc⟩
    · obtain ⟨e, n, ne, nf, d⟩ := I.pin p hp
      refine ⟨(hs.2 p.1 ?_).trans e, n, ne, nf, d⟩
      intro q
      rw [q, hoc] at e
      have q' : oc = p.2 := Option.some.inj e
      exact d w' (by rw [← q']; exact hocd)
theorem store_ok {M : Model} {A : Around} {E : Value → Shared → Prop} {i : Nat} {x : Str} {v : V} {u : Value} {Q : Unit → Shared → Prop} (I : Inv X pins σ H s) (hN : X.N.Nodup) (hi : X.N[i]? = some x) (hx : Loc X.env.scope x) (r : RelV v u)
    (h : ∀ s', Inv X pins (σ.set i (some v)) H s' → Q () s') (hf : X.fn x = true ∨ X.env.scope.names.lookup x = some .local := by first | exact .inl rfl | exact .inr rfl | assumption) : wpAny M A (storeName X.env x u) Q E s :=
  store_ok2 I hN hi hx r (fun s' I' _ => h s' I') hf
/-- behind a call or a block, the state as it is -/
theorem Inv.call' {s' : Shared} {ch : List Addr} (I : Inv X pins σ H s) (ho : s'.os = s.os) (u : Un (frs X.stack) ch H H' s.heap s'.heap) (hok : HOk X.prog X.w H' s'.heap) (hg : AllBare s'.gens)
    (hch : ∀ b ∈ ch, (b ∈ X.ex ∨ X.s_0.heap.objs.size ≤ b) ∧ b ≠ X.env.locals ∧ (∀ x c, X.env.cells.lookup x = some c → c ≠ b) ∧ ∀ p ∈ X.pn ++ pins, p.1 ≠ b) : Inv X pins σ H' s' := by
  obtain ⟨h', g', d', t', o'⟩ := s'
  have e : o' = s.os := ho
  subst e
  exact I.call (g' := g') (t' := t') (d' := d') u hok hg hch
end

/-! ### the judgements -/
/-- an exception: its class, its own dict's address (where it has one), the abstract heap behind it -/
abbrev XK := Value → Option Addr → Hp → Prop
abbrev St := List (Option V)
abbrev VK := V → Hp → Prop
/-- an expression's reading; a test's; an argument list's -/
abbrev TE := St → Hp → VK → Prop
abbrev TT := St → Hp → (Bool → Hp → Prop) → Prop
abbrev TA := St → Hp → (List V → Hp → Prop) → Prop
/-- what is wanted behind a statement -/
structure Ends where
  nx : St → Hp → Prop
  rt : VK
  bk : St → Hp → Prop := fun _ _ => False
  ct : St → Hp → Prop := fun _ _ => False
abbrev TS := Ends → St → Hp → Prop

def EP (X : Cx) (pins : List (Addr × Obj)) (σ : St) (Q : VK) (u : Value) (s' : Shared) : Prop := ∃ v H', Inv X pins σ H' s' ∧ RelV v u ∧ Q v H'
def TP (X : Cx) (pins : List (Addr × Obj)) (σ : St) (Q : Bool → Hp → Prop) (b : Bool) (s' : Shared) : Prop := ∃ H', Inv X pins σ H' s' ∧ Q b H'
def AP (X : Cx) (pins : List (Addr × Obj)) (σ : St) (Q : List V → Hp → Prop) (us : List Value) (s' : Shared) : Prop := ∃ vs H', Inv X pins σ H' s' ∧ Vals vs us ∧ Q vs H'
def SP (X : Cx) (pins : List (Addr × Obj)) (D : Ends) (f : Flow) (s' : Shared) : Prop :=
  match f with
  | .next => ∃ σ' H', Inv X pins σ' H' s' ∧ D.nx σ' H'
  | .brk => ∃ σ' H', Inv X pins σ' H' s' ∧ D.bk σ' H'
  | .cont => ∃ σ' H', Inv X pins σ' H' s' ∧ D.ct σ' H'
  | .ret u => ∃ v σ' H', Inv X pins σ' H' s' ∧ RelV v u ∧ D.rt v H'

def PE (X : Cx) (e : Expr) (t : TE) : Prop :=
  ∀ (pins : List (Addr × Obj)) (s : Shared) (σ : St) (H : Hp) (Q : VK), Inv X pins σ H s → t σ H Q → wpAny (model X.prog X.w) X.A (eval e X.env) (EP X pins σ Q) X.xe s
def PT (X : Cx) (e : Expr) (t : TT) : Prop :=
  ∀ (pins : List (Addr × Obj)) (s : Shared) (σ : St) (H : Hp) (Q : Bool → Hp → Prop), Inv X pins σ H s → t σ H Q → wpAny (model X.prog X.w) X.A (isTrue e X.env (eval e X.env)) (TP X pins σ Q) X.xe s
/-- a test whatever its 'whole' is (and, or) -/
def PW (X : Cx) (e : Expr) (t : TT) : Prop :=
  ∀ (whole : Sem Value) (pins : List (Addr × Obj)) (s : Shared) (σ : St) (H : Hp) (Q : Bool → Hp → Prop), Inv X pins σ H s → t σ H Q → wpAny (model X.prog X.w) X.A (isTrue e X.env whole) (TP X pins σ Q) X.xe s
theorem PW.pt {X : Cx} {e : Expr} {t : TT} (h : PW X e t) : PT X e t := h _
/-- an argument list (no star), from the left -/
def PA (X : Cx) (es : List Expr) (t : TA) : Prop :=
  ∀ (pos : Pos) (pins : List (Addr × Obj)) (s : Shared) (σ : St) (H : Hp) (Q : List V → Hp → Prop), Inv X pins σ H s → t σ H Q → wpAny (model X.prog X.w) X.A (spliced (backTo pos (starEach es X.env))) (AP X pins σ Q) X.xe s
def PS (X : Cx) (st : Stmt) (t : TS) : Prop :=
  ∀ (pins : List (Addr × Obj)) (s : Shared) (σ : St) (H : Hp) (D : Ends), Inv X pins σ H s → t D σ H → wpAny (model X.prog X.w) X.A (exec st X.env) (SP X pins D) X.xe s
def PSs (X : Cx) (st : List Stmt) (t : TS) : Prop :=
  ∀ (pins : List (Addr × Obj)) (s : Shared) (σ : St) (H : Hp) (D : Ends), Inv X pins σ H s → t D σ H → wpAny (model X.prog X.w) X.A (execs st X.env) (SP X pins D) X.xe s
/-- weaken the end -/
theorem thn {α : Type} {t : Sem α} {Q Q' : α → Shared → Prop} {M : Model} {A : Around} {E : Value → Shared → Prop} {s : Shared} (h : wpAny M A t Q E s) (hQ : ∀ a s, Q a s → Q' a s) : wpAny M A t Q' E s := wpAny_mono h hQ fun _ _ x => x
end L2

namespace L2
open PySem PySem.Spec PyProof.Rows
section
variable {X : Cx}

/-- two expressions in a row -/
theorem bin {a b : Expr} {ta tb : TE} (ha : PE X a ta) (hb : PE X b tb) {pins : List (Addr × Obj)} {s : Shared} {σ : St} {H : Hp} {R : V → V → Hp → Prop} (I : Inv X pins σ H s) (h : ta σ H fun x H1 => tb σ H1 fun y H2 => R x y H2)
    {α : Type} {Q : α → Shared → Prop} {f : Value → Value → Sem α}
    (hf : ∀ v u s2 x y H2, Inv X pins σ H2 s2 → RelV x v → RelV y u → R x y H2 → wpAny (model X.prog X.w) X.A (f v u) Q X.xe s2) :
    wpAny (model X.prog X.w) X.A (eval a X.env) (fun v s₁ => wpAny (model X.prog X.w) X.A (eval b X.env) (fun u s₂ => wpAny (model X.prog X.w) X.A (f v u) Q X.xe s₂) X.xe s₁) X.xe s := by
  refine thn (ha pins s σ H _ I h) fun v s1 ⟨x, H1, I1, r1, q1⟩ => ?_
  refine thn (hb pins s1 σ H1 _ I1 q1) fun u s2 ⟨y, H2, I2, r2, q2⟩ => ?_
  exact hf v u s2 x y H2 I2 r1 r2 q2

/-! ### names and constants -/
def tVar (i : Nat) : TE := fun σ H Q => ∃ v, σ[i]? = some (some v) ∧ Q v H
def tC (v : V) : TE := fun _ H Q => Q v H
theorem pe_var {i : Nat} {x : Str} {pos : Pos} (hN : X.N[i]? = some x) (hv : Vis X.env.scope x) (hd : (x == ("__debug__" : Str)) = false := by decide) (hcd : (x == ("__classdict__" : Str)) = false := by decide) : PE X (.Name x pos) (tVar i) := by
  intro pins s σ H Q I h
  obtain ⟨v, e, h⟩ := h
  obtain ⟨m, hn, hl⟩ := I.loc
  obtain ⟨u, r, l⟩ := hl i x v hN e hv
  have fin : EP X pins σ Q u s := ⟨v, H, I, r, h⟩
  rcases l with ⟨hk, hm⟩ | ⟨hk, c, hc, hcell⟩
  · exact wpAny_Name (wpAny_loadName_local I.ok.kind hk hn hm fin) hd
  · rcases hk with hk | hk
    · exact wpAny_Name (wpAny_loadName_cell I.ok.kind hk hc hcell fin) hd
    · exact wpAny_Name (wpAny_loadName_free I.ok.kind hk hc hcell fin hcd) hd
theorem pe_int {i j pos} : PE X (.Constant (.int i) j pos) (tC (.int i)) := fun _ _ _ H _ I h => wpAny_Constant_int ⟨.int i, H, I.tok _, ⟨_, rfl⟩, h⟩
theorem pe_bl {b j pos} : PE X (.Constant (.bool b) j pos) (tC (.bl b)) := fun _ _ _ H _ I h => Constant_bool ⟨.bl b, H, I, rfl, h⟩

/-- a global name of the def -/
def Gl (X : Cx) (x : Str) : Prop := X.env.kindOf x = some .globalImplicit
theorem ld_glob {E : Value → Shared → Prop} {pins : List (Addr × Obj)} {s : Shared} {σ : St} {H : Hp} {x : Str} {u : Value} {pos : Pos} {Q : Value → Shared → Prop} (I : Inv X pins σ H s) (hg : Gl X x) (hm : X.mg x = some u) (h : Q u s)
    (hd : (x == ("__debug__" : Str)) = false := by decide) : wpAny (model X.prog X.w) X.A (eval (.Name x pos) X.env) Q E s :=
  Calls.Name_function_global I.ok.kind hg (Calls.loadGlobal_global (by rw [I.ok.glob]; exact I.mod.glob.keeps I.bk) hm h) hd
theorem ld_blt {E : Value → Shared → Prop} {pins : List (Addr × Obj)} {s : Shared} {σ : St} {H : Hp} {x : Str} {u : Value} {pos : Pos} {Q : Value → Shared → Prop} (I : Inv X pins σ H s) (hg : Gl X x) (hm : X.mg x = none) (hv : bootBuiltins x = some u) (h : Q u s)
    (hn : x ≠ "__name__" := by decide) (hd : (x == ("__debug__" : Str)) = false := by decide) : wpAny (model X.prog X.w) X.A (eval (.Name x pos) X.env) Q E s := by
  obtain ⟨mb, h1, h2⟩ := I.mod.blt
  exact Calls.Name_function_global I.ok.kind hg (Calls.loadGlobal_builtin (by rw [I.ok.glob]; exact I.mod.glob.keeps I.bk) hm (by rw [I.ok.blt]; exact h1.keeps I.bk) ((h2 x hn).trans hv) h) hd
/-- a module's constant, a class, a function, as a value -/
theorem pe_glob {x : Str} {v : V} {u : Value} {pos : Pos} (hg : Gl X x) (hm : X.mg x = some u) (r : RelV v u) (hd : (x == ("__debug__" : Str)) = false := by decide) : PE X (.Name x pos) (tC v) :=
  fun _ _ _ H _ I h => ld_glob I hg hm ⟨v, H, I, r, h⟩ hd

/-! ### arithmetic -/
/-- two ints -/
def t2I (ta tb : TE) (k : Int → Int → Hp → Prop) : St → Hp → Prop := fun σ H => ta σ H fun x H1 => tb σ H1 fun y H2 => ∃ i j, x = .int i ∧ y = .int j ∧ k i j H2

variable {a b : Expr} {ta tb : TE} {pos : Pos}

/-! ### comparisons -/
def PC (X : Cx) (op : CmpOp) (a b : Expr) (t : TE) : Prop :=
  ∀ (pins : List (Addr × Obj)) (s : Shared) (σ : St) (H : Hp) (Q : VK), Inv X pins σ H s → t σ H Q →
    wpAny (model X.prog X.w) X.A (eval a X.env) (fun v s₁ => wpAny (model X.prog X.w) X.A (eval b X.env) (fun u s₂ => wpAny (model X.prog X.w) X.A (compareOp op v u) (EP X pins σ Q) X.xe s₂) X.xe s₁) X.xe s
theorem nobehind (b : Expr) {op : CmpOp} (h : op ≠ .In) (h2 : op ≠ .NotIn) : behindInMarks op b = false := by
  have e1 : (op == CmpOp.In) = false := by cases op <;> first | rfl | exact absurd rfl h
  have e2 : (op == CmpOp.NotIn) = false := by cases op <;> first | rfl | exact absurd rfl h2
  cases b <;> simp [behindInMarks, e1, e2]
def tCmp (p : Int → Int → Bool) (ta tb : TE) : TE := fun σ H Q => t2I ta tb (fun i j H2 => Q (.bl (p i j)) H2) σ H
abbrev tLt : TE → TE → TE := tCmp fun i j => decide (i < j)
abbrev tLe : TE → TE → TE := tCmp fun i j => decide (i ≤ j)
abbrev tGt : TE → TE → TE := tCmp fun i j => decide (j < i)
abbrev tGe : TE → TE → TE := tCmp fun i j => decide (j ≤ i)
abbrev tEqI : TE → TE → TE := tCmp fun i j => decide (i = j)
abbrev tNeI : TE → TE → TE := tCmp fun i j => !decide (i = j)
/-- a comparison of two ints, by its rule -/
theorem pc_int {op : CmpOp} {p : Int → Int → Bool} (ha : PE X a ta) (hb : PE X b tb)
    (rule : ∀ (i j : Int) (t u : Tok) (Q : Value → Shared → Prop) (s : Shared), Q (.bool (p i j)) s → wpAny (model X.prog X.w) X.A (compareOp op (.int i t) (.int j u)) Q X.xe s) : PC X op a b (tCmp p ta tb) := by
  intro pins s σ H Q I h
  refine bin ha hb I h fun v u s2 x y H2 I2 rx ry q => ?_
  obtain ⟨i, j, rfl, rfl, q⟩ := q
  obtain ⟨t, rfl⟩ := rx
  obtain ⟨t', rfl⟩ := ry
  exact rule i j t t' _ s2 ⟨.bl _, H2, I2, rfl, q⟩
theorem pc_lt (ha : PE X a ta) (hb : PE X b tb) : PC X .Lt a b (tLt ta tb) := pc_int ha hb fun _ _ _ _ _ _ h => lt_int h
theorem pc_le (ha : PE X a ta) (hb : PE X b tb) : PC X .LtE a b (tLe ta tb) := pc_int ha hb fun _ _ _ _ _ _ h => le_int h
theorem pc_gt (ha : PE X a ta) (hb : PE X b tb) : PC X .Gt a b (tGt ta tb) := pc_int ha hb fun _ _ _ _ _ _ h => gt_int h
theorem pc_ge (ha : PE X a ta) (hb : PE X b tb) : PC X .GtE a b (tGe ta tb) := pc_int ha hb fun _ _ _ _ _ _ h => ge_int h
theorem pc_eqI (ha : PE X a ta) (hb : PE X b tb) : PC X .Eq a b (tEqI ta tb) := pc_int ha hb fun _ _ _ _ _ _ h => eq_int (by rw [Bool.beq_eq_decide_eq]; exact h)
theorem pc_neI (ha : PE X a ta) (hb : PE X b tb) : PC X .NotEq a b (tNeI ta tb) := pc_int ha hb fun _ _ _ _ _ _ h => ne_int (by rw [bne, Bool.beq_eq_decide_eq]; exact h)

/-- a comparison as a value, as a test -/
def tB (t : TE) : TT := fun σ H Q => t σ H fun x H1 => ∃ c, x = .bl c ∧ Q c H1
theorem pe_cmp {op : CmpOp} {t : TE} (h : PC X op a b t) (h1 : behindInMarks op b = false := by first | exact nobehind _ (by decide) (by decide) | rfl) : PE X (.Compare a [op] [b] pos) t := fun pins s σ H Q I hw => wpAny_Compare1 (h pins s σ H Q I hw) h1
theorem pt_cmp {op : CmpOp} {t : TE} (h : PC X op a b t) (h1 : behindInMarks op b = false := by first | exact nobehind _ (by decide) (by decide) | rfl) : PT X (.Compare a [op] [b] pos) (tB t) := by
  intro pins s σ H Q I hw
  refine wpAny_isTrue_Compare1 (thn (h pins s σ H _ I hw) fun v s1 h1 => thn h1 fun u s2 h2 => thn h2 fun c s3 ⟨x, H1, I1, r1, q1⟩ => ?_) h1
  obtain ⟨d, rfl, q⟩ := q1
  cases r1
  exact wpAny_truthy_bool ⟨H1, I1, q⟩
/-- an expression whose value is a bool, as a test -/
theorem pt_val {e : Expr} {t : TE} (h : PE X e t) (he : ∀ whole, isTrue e X.env whole = (do let v ← whole; standAt e.pos; holding [v] (truthy v)) := by intro _; rfl) : PT X e (tB t) := by
  intro pins s σ H Q I hw
  refine isTrue_plain (thn (h pins s σ H _ I hw) fun v s1 ⟨x, H1, I1, r1, q1⟩ => ?_) (he _)
  obtain ⟨d, rfl, q⟩ := q1
  cases r1
  exact wpAny_truthy_bool ⟨H1, I1, q⟩

/-! ### and, or, not -/
variable {tA tB' : TT} {rest : List Expr}

def tOr (t u : TT) : TT := fun σ H Q => t σ H fun c H1 => if c = true then Q true H1 else u σ H1 Q
def tNot (t : TT) : TT := fun σ H Q => t σ H fun c H1 => Q (!c) H1

theorem pw_or1 (ha : PT X a tA) : PW X (.BoolOp .Or [a] pos) tA := by
  intro wh pins s σ H Q I h
  refine isTrue_or (thn (ha pins s σ H Q I h) fun c s1 e => ?_)
  cases c with
  | false => exact isTrue_or_nil e
  | true => exact e

theorem pw_or (ha : PT X a tA) (hb : PW X (.BoolOp .Or (b :: rest) pos) tB') : PW X (.BoolOp .Or (a :: b :: rest) pos) (tOr tA tB') := by
  intro wh pins s σ H Q I h
  refine isTrue_or (thn (ha pins s σ H _ I h) fun c s1 ⟨H1, I1, q1⟩ => ?_)
  cases c with
  | true => exact ⟨H1, I1, q1⟩
  | false => exact hb wh pins s1 σ H1 Q I1 q1
theorem pt_not (ha : PT X a tA) : PT X (.UnaryOp .Not a pos) (tNot tA) := by
  intro pins s σ H Q I h
  exact isTrue_not (ha pins s σ H (fun c H1 => Q (!c) H1) I h)
/-- .. as values (bools) -/
def tAndV (ta tb : TE) : TE := fun σ H Q => ta σ H fun x H1 => ∃ c, x = .bl c ∧ if c = true then tb σ H1 Q else Q (.bl false) H1

theorem pe_one {op} {t : TE} (h : PE X a t) : PE X (.BoolOp op [a] pos) t := fun pins s σ H Q I hw => BoolOp_one (h pins s σ H Q I hw)
theorem pe_and (ha : PE X a ta) (hb : PE X (.BoolOp .And (b :: rest) pos) tb) : PE X (.BoolOp .And (a :: b :: rest) pos) (tAndV ta tb) := by
  intro pins s σ H Q I h
  refine BoolOp_and (thn (ha pins s σ H _ I h) fun v s1 ⟨x, H1, I1, r1, q1⟩ => ?_)
  obtain ⟨c, rfl, q1⟩ := q1
  cases r1
  refine wpAny_truthy_bool ?_
  cases c with
  | true => exact hb pins s1 σ H1 Q I1 q1
  | false => exact ⟨.bl false, H1, I1, rfl, q1⟩

/-- a if t else b -/
def tIf (t : TT) (ta tb : TE) : TE := fun σ H Q => t σ H fun c H1 => if c = true then ta σ H1 Q else tb σ H1 Q
theorem pe_ifExp {c : Expr} (hc : PT X c tA) (ha : PE X a ta) (hb : PE X b tb) : PE X (.IfExp c a b pos) (tIf tA ta tb) := by
  intro pins s σ H Q I h
  refine wpAny_IfExp (thn (hc pins s σ H _ I h) fun d s1 ⟨H1, I1, q1⟩ => ?_)
  cases d with
  | true => exact ha pins s1 σ H1 Q I1 q1
  | false => exact hb pins s1 σ H1 Q I1 q1
end
end L2

namespace L2
open PySem PySem.Spec PyProof.Rows

/-! ### a list, a tuple that is read: tracked, frozen, or an object of the module -/
def SqL (K : PySem.W.Frag) (H : Hp) (a : Addr) (xs : List V) : Prop :=
  Rd H a (.lst xs) ∨
    ∃ (o : Obj) (its : Array Value) (n : Nat), K.lookup a = some o ∧ o.cls = .type "list" ∧ o.dict = none ∧ o.data = .seq its n ∧ its.size ≤ sizeLine ∧ Vals xs its.toList
def SqT (K : PySem.W.Frag) (H : Hp) (a : Addr) (xs : List V) : Prop :=
  Rd H a (.tup xs) ∨
    ∃ (o : Obj) (its : Array Value) (n : Nat), K.lookup a = some o ∧ o.cls = .type "tuple" ∧ o.data = .seq its n ∧ its.size ≤ sizeLine ∧ Vals xs its.toList
def absV : Value → Option V
  | .none => some .non
  | .bool b => some (.bl b)
  | .int i _ => some (.int i)
  | .str x _ => some (.str x)
  | .bytes b _ => some (.byt b)
  | .float b _ => some (.flt b)
  | .ref a => some (.ref a)
  | .type n => some (.ty n)
  | _ => none
theorem RelV.abs {x : V} {u : Value} (r : RelV x u) : absV u = some x := by
  cases x with
  | non => cases r; rfl
  | bl _ => cases r; rfl
  | int _ => obtain ⟨t, rfl⟩ := r; rfl
  | str _ => obtain ⟨t, rfl⟩ := r; rfl
  | byt _ => obtain ⟨t, rfl⟩ := r; rfl
  | flt _ => obtain ⟨t, rfl⟩ := r; rfl
  | ref _ => cases r; rfl
  | ty _ => cases r; rfl
theorem RelV.inj {x y : V} {u : Value} (r : RelV x u) (q : RelV y u) : x = y := Option.some.inj (r.abs.symm.trans q.abs)
theorem Vals.inj : ∀ {xs ys : List V} {us : List Value}, Vals xs us → Vals ys us → xs = ys
  | _, _, _, .nil, .nil => rfl
  | _, _, _, .cons r t, .cons r' t' => by rw [r.inj r', Vals.inj t t']
section
variable {X : Cx} {pins : List (Addr × Obj)} {σ : St} {H : Hp} {s : Shared} {a : Addr} {xs ys : List V}
theorem SqL.of {K : PySem.W.Frag} (h : H a = some (.lst xs)) : SqL K H a xs := .inl (.inl h)
theorem SqT.of {K : PySem.W.Frag} (h : H a = some (.tup xs)) : SqT K H a xs := .inl (.inl h)
theorem Inv.list (I : Inv X pins σ H s) (h : SqL X.K H a xs) : ∃ its : List Value, Vals xs its ∧ PlainL s.heap a its.toArray ∧ xs.length ≤ sizeLine := by
  rcases h with h | ⟨o, its, n, hk, hc, hd, hs, hz, r⟩
  · obtain ⟨z, its, n, r, e⟩ := h.ok I.hok
    exact ⟨its, r, ⟨_, n, e, rfl, rfl, rfl⟩, z⟩
  · refine ⟨its.toList, r, ⟨o, n, I.kIn a o hk, hc, hd, by simpa using hs⟩, ?_⟩
    have e := r.length
    simp only [Array.length_toList] at e
    omega
theorem Inv.tuple (I : Inv X pins σ H s) (h : SqT X.K H a xs) : ∃ its : List Value, Vals xs its ∧ IsTup s.heap a its.toArray ∧ xs.length ≤ sizeLine := by
  rcases h with h | ⟨o, its, n, hk, hc, hs, hz, r⟩
  · obtain ⟨z, its, r, p⟩ := h.ok I.hok
    exact ⟨its, r, p, z⟩
  · refine ⟨its.toList, r, ⟨o, I.kIn a o hk, hc, n, by simpa using hs⟩, ?_⟩
    have e := r.length
    simp only [Array.length_toList] at e
    omega
theorem Inv.list_inj (I : Inv X pins σ H s) (h : SqL X.K H a xs) (h' : SqL X.K H a ys) : xs = ys := by
  obtain ⟨its, r, ⟨o, n, e, _, _, d⟩, _⟩ := I.list h
  obtain ⟨its', r', ⟨o', n', e', _, _, d'⟩, _⟩ := I.list h'
  rw [e] at e'; cases e'
  rw [d] at d'
  injection d' with d1 _
  have : its = its' := by simpa using congrArg Array.toList d1
  subst this
  exact r.inj r'

end

/-! ### another wish about exceptions -/
abbrev Cx.wish (X : Cx) (E : Value → Shared → Prop) : Cx := { X with xe := E }
/-- no exception leaves -/
abbrev Cx.nox (X : Cx) : Cx := X.wish fun _ _ => False
theorem Cx.Ok.wish {X : Cx} (ok : X.Ok) (E : Value → Shared → Prop) : (X.wish E).Ok :=
  ⟨ok.mod, ok.kind, ok.glob, ok.blt, ok.above, ok.inj, ok.has, ok.cab, ok.hd, ok.frames, ok.stk, ok.exf, ok.bs, ok.bsz, ok.noex, ok.exfs, ok.funs, ok.frf⟩
theorem Cx.Ok.unwish {X : Cx} {E : Value → Shared → Prop} (ok : (X.wish E).Ok) : X.Ok :=
  ⟨ok.mod, ok.kind, ok.glob, ok.blt, ok.above, ok.inj, ok.has, ok.cab, ok.hd, ok.frames, ok.stk, ok.exf, ok.bs, ok.bsz, ok.noex, ok.exfs, ok.funs, ok.frf⟩
section
variable {X : Cx} {pins : List (Addr × Obj)} {σ : St} {H : Hp} {s : Shared} {E : Value → Shared → Prop}
theorem Inv.wish (I : Inv X pins σ H s) (E : Value → Shared → Prop) : Inv (X.wish E) pins σ H s := ⟨I.ok.wish E, I.os, I.bare, I.base, I.loc, I.cell, I.free, I.freeC, I.pin, I.hok, I.len⟩
theorem Inv.unwish (I : Inv (X.wish E) pins σ H s) : Inv X pins σ H s := ⟨I.ok.unwish, I.os, I.bare, I.base, I.loc, I.cell, I.free, I.freeC, I.pin, I.hok, I.len⟩
theorem SP.unwish {D : Ends} {f : Flow} {s' : Shared} (h : SP (X.wish E) pins D f s') : SP X pins D f s' := by
  cases f with
  | next => obtain ⟨σ', H', I, q⟩ := h; exact ⟨σ', H', I.unwish, q⟩
  | brk => obtain ⟨σ', H', I, q⟩ := h; exact ⟨σ', H', I.unwish, q⟩
  | cont => obtain ⟨σ', H', I, q⟩ := h; exact ⟨σ', H', I.unwish, q⟩
  | ret u => obtain ⟨v, σ', H', I, r, q⟩ := h; exact ⟨v, σ', H', I.unwish, r, q⟩

theorem PSs.nox {st : List Stmt} {t : TS} (h : PSs X.nox st t) : PSs X st t := fun pins s σ H D I hw =>
  wpAny_mono (h pins s σ H D (I.wish _) hw) (fun _ _ q => q.unwish) fun _ _ z => False.elim z
end

/-! ### blocks and small statements -/
section
variable {X : Cx} {st : Stmt} {rest : List Stmt} {t u : TS} {e : Expr} {te : TE} {pos : Pos}
def tNext : TS := fun D σ H => D.nx σ H
def tSeq (t u : TS) : TS := fun D σ H => t { D with nx := u D } σ H
theorem pss_nil : PSs X [] tNext := fun _ _ σ H _ I h => wpAny_execs_nil ⟨σ, H, I, h⟩
theorem pss_cons (h1 : PS X st t) (h2 : PSs X rest u) : PSs X (st :: rest) (tSeq t u) := by
  intro pins s σ H D I h
  refine wpAny_execs_cons (thn (h1 pins s σ H { D with nx := u D } I h) fun f s1 q => ?_)
  cases f with
  | next =>
    obtain ⟨σ', H', I', q⟩ := q
    exact h2 pins s1 σ' H' D I' q
  | ret v => exact q
  | brk => exact q
  | cont => exact q
theorem pss_one (h1 : PS X st t) : PSs X [st] t := by
  intro pins s σ H D I h
  refine wpAny_execs_cons (thn (h1 pins s σ H D I h) fun f s1 q => ?_)
  cases f with
  | next => exact wpAny_execs_nil q
  | ret v => exact q
  | brk => exact q
  | cont => exact q

/-- in a def's body nothing is shown -/
theorem Inv.quiet {pins : List (Addr × Obj)} {σ : St} {H : Hp} {s : Shared} (I : Inv X pins σ H s) : interactive X.env = false := by simp [interactive, I.ok.kind]

/-- an expression whose value is dropped -/
def tDrop (te : TE) : TS := fun D σ H => te σ H fun _ H1 => D.nx σ H1
theorem ps_expr (he : PE X e te) (hs : swapsWith e none pos.line X.env = pure false := by rfl) : PS X (.Expr e pos) (tDrop te) := by
  intro pins s σ H D I h
  exact wpAny_Expr_any (thn (he pins s σ H _ I h) fun v s1 ⟨x, H1, I1, r1, q1⟩ => ⟨σ, H1, I1, q1⟩) I.quiet hs
def tRet (te : TE) : TS := fun D σ H => te σ H D.rt
theorem ps_ret (he : PE X e te) : PS X (.Return (some e) pos) (tRet te) := by
  intro pins s σ H D I h
  exact wpAny_Return_some (thn (he pins s σ H _ I h) fun v s1 ⟨x, H1, I1, r1, q1⟩ => ⟨x, σ, H1, I1, r1, q1⟩)

def tIfS (c : TT) (t u : TS) : TS := fun D σ H => c σ H fun b H1 => if b = true then t D σ H1 else u D σ H1
theorem ps_if {c : Expr} {a b : List Stmt} {tc : TT} (hc : PT X c tc) (ha : PSs X a t) (hb : PSs X b u) : PS X (.If c a b pos) (tIfS tc t u) := by
  intro pins s σ H D I h
  refine wpAny_If (thn (hc pins s σ H _ I h) fun d s1 ⟨H1, I1, q1⟩ => ?_)
  cases d with
  | true => exact ha pins s1 σ H1 D I1 q1
  | false => exact hb pins s1 σ H1 D I1 q1

end

/-! ### targets -/
abbrev TG := V → St → Hp → (St → Hp → Prop) → Prop

def PG (X : Cx) (target : Expr) (t : TG) : Prop :=
  ∀ (pins : List (Addr × Obj)) (s : Shared) (σ : St) (H : Hp) (v : V) (u : Value) (Q : St → Hp → Prop), Inv X pins σ H s → RelV v u → t v σ H Q →
    wpAny (model X.prog X.w) X.A (assign target X.env u) (fun _ s' => ∃ σ' H', Inv X pins σ' H' s' ∧ Q σ' H') X.xe s

/-- o[i] = v, by values -/
abbrev TSet := V → V → V → Hp → (Hp → Prop) → Prop
def PSet (X : Cx) (t : TSet) : Prop :=
  ∀ (pins : List (Addr × Obj)) (s : Shared) (σ : St) (H : Hp) (o i v : V) (ov iv u : Value) (Q : Hp → Prop), Inv X pins σ H s → RelV o ov → RelV i iv → RelV v u → t o i v H Q →
    wpAny (model X.prog X.w) X.A (setItem ov iv u) (fun _ s' => ∃ H', Inv X pins σ H' s' ∧ Q H') X.xe s
/-- a op= b, by values -/
abbrev TIp := V → V → Hp → VK → Prop
def PIp (X : Cx) (op : Operator) (t : TIp) : Prop :=
  ∀ (pins : List (Addr × Obj)) (s : Shared) (σ : St) (H : Hp) (x y : V) (v u : Value) (Q : VK), Inv X pins σ H s → RelV x v → RelV y u → t x y H Q →
    wpAny (model X.prog X.w) X.A (inplaceOp op v u) (EP X pins σ Q) X.xe s
section
variable {X : Cx} {pos : Pos}
def gName (i : Nat) : TG := fun v σ H Q => Q (σ.set i (some v)) H
theorem pg_name {i : Nat} {x : Str} (hN : X.N.Nodup) (hi : X.N[i]? = some x) (hx : Loc X.env.scope x) (hf : X.fn x = true ∨ X.env.scope.names.lookup x = some .local := by first | exact .inl rfl | exact .inr rfl | assumption) : PG X (.Name x pos) (gName i) := by
  intro pins s σ H v u Q I r h
  exact wpAny_assign_Name (store_ok I hN hi hx r (fun s' I' => ⟨_, H, I', h⟩) hf)

/-- target = value -/
def tAsg (te : TE) (g : TG) : TS := fun D σ H => te σ H fun x H1 => g x σ H1 D.nx

/-- name = value -/
theorem ps_set {i : Nat} {x : Str} {e : Expr} {te : TE} {pos' : Pos} (hN : X.N.Nodup) (hi : X.N[i]? = some x) (hx : Loc X.env.scope x) (he : PE X e te) (hs : swapsWith e (some (.Name x pos')) pos.line X.env = pure false := by rfl) (hf : X.fn x = true ∨ X.env.scope.names.lookup x = some .local := by first | exact .inl rfl | exact .inr rfl | assumption) :
    PS X (.Assign [.Name x pos'] e pos) (tAsg te (gName i)) := by
  intro pins s σ H D I h
  refine wpAny_Assign_Name (thn (he pins s σ H _ I h) fun v s1 ⟨y, H1, I1, r1, q1⟩ => ?_) hs
  exact store_ok I1 hN hi hx r1 (fun s2 I2 => ⟨_, H1, I2, q1⟩) hf

/-- name op= e -/
def tAug (i : Nat) (te : TE) (ti : TIp) : TS := fun D σ H => ∃ x, σ[i]? = some (some x) ∧ te σ H fun y H1 => ti x y H1 fun z H2 => D.nx (σ.set i (some z)) H2
theorem ps_aug {i : Nat} {x : Str} {e : Expr} {te : TE} {op : Operator} {ti : TIp} {pos' : Pos} (hN : X.N.Nodup) (hi : X.N[i]? = some x) (hx : Loc X.env.scope x) (he : PE X e te) (ho : PIp X op ti) (hf : X.fn x = true ∨ X.env.scope.names.lookup x = some .local := by first | exact .inl rfl | exact .inr rfl | assumption) :
    PS X (.AugAssign (.Name x pos') op e pos) (tAug i te ti) := by
  intro pins s σ H D I h
  obtain ⟨v, e1, h⟩ := h
  obtain ⟨m, hn, hl⟩ := I.loc
  have vis : Vis X.env.scope x := by rcases hx with k | k; exact .inl k; exact .inr (.inl k)
  obtain ⟨u, r, l⟩ := hl i x v hi e1 vis
  refine wpAny_AugAssign_Name ?_
  have go : wpAny (model X.prog X.w) X.A (eval e X.env) (fun w s₂ => wpAny (model X.prog X.w) X.A (inplaceOp op u w) (fun r s₃ => wpAny (model X.prog X.w) X.A (storeName X.env x r) (fun _ => SP X pins D .next) X.xe s₃) X.xe s₂) X.xe s := by
    refine thn (he pins s σ H _ I h) fun w s1 ⟨y, H1, I1, r1, q1⟩ => ?_
    refine thn (ho pins s1 σ H1 v y u w _ I1 r r1 q1) fun z s2 ⟨zv, H2, I2, r2, q2⟩ => ?_
    exact store_ok I2 hN hi hx r2 (fun s3 I3 => ⟨_, H2, I3, q2⟩) hf
  rcases l with ⟨hk, hm⟩ | ⟨hk, c, hc, hcell⟩
  · exact wpAny_loadName_local I.ok.kind hk hn hm go
  · rcases hk with hk | hk
    · exact wpAny_loadName_cell I.ok.kind hk hc hcell go
    · rcases hx with k | k
      · have : X.env.scope.names.lookup x = some .free := hk
        rw [k] at this; cases this
      · have : X.env.scope.names.lookup x = some .free := hk
        rw [k] at this; cases this
/-- o[i] op= e -/
def tAugS (to ti te : TE) (tget : V → V → Hp → VK → Prop) (tip : TIp) (tset : TSet) : TS := fun D σ H => to σ H fun o H1 => ti σ H1 fun i H2 => tget o i H2 fun x H3 => te σ H3 fun y H4 => tip x y H4 fun z H5 => tset o i z H5 fun H6 => D.nx σ H6
/-- o[i], by values -/
def PGet (X : Cx) (t : V → V → Hp → VK → Prop) : Prop :=
  ∀ (pins : List (Addr × Obj)) (s : Shared) (σ : St) (H : Hp) (o i : V) (ov iv : Value) (Q : VK), Inv X pins σ H s → RelV o ov → RelV i iv → t o i H Q →
    wpAny (model X.prog X.w) X.A (getItem ov iv) (EP X pins σ Q) X.xe s
theorem ps_augS {o i e : Expr} {to ti te : TE} {tget : V → V → Hp → VK → Prop} {tip : TIp} {tset : TSet} {op : Operator} {tpos : Pos} (ho : PE X o to) (hi : PE X i ti) (hg : PGet X tget) (he : PE X e te) (hp : PIp X op tip) (hs : PSet X tset)
    (ha : ∀ ov iv new, augStore i ov iv new = (do holding [new, ov, iv] (setItem ov iv new); release [new, ov, iv] []; pure .next) := by intros; rfl) : PS X (.AugAssign (.Subscript o i tpos) op e pos) (tAugS to ti te tget tip tset) := by
  intro pins s σ H D I h
  refine wpAny_AugAssign_SubscriptAny (thn (ho pins s σ H _ I h) fun ov s1 ⟨x1, H1, I1, r1, q1⟩ => ?_) ha
  refine thn (hi pins s1 σ H1 _ I1 q1) fun iv s2 ⟨x2, H2, I2, r2, q2⟩ => ?_
  refine thn (hg pins s2 σ H2 x1 x2 ov iv _ I2 r1 r2 q2) fun old s3 ⟨x3, H3, I3, r3, q3⟩ => ?_
  refine thn (he pins s3 σ H3 _ I3 q3) fun v s4 ⟨x4, H4, I4, r4, q4⟩ => ?_
  refine thn (hp pins s4 σ H4 x3 x4 old v _ I4 r3 r4 q4) fun new s5 ⟨x5, H5, I5, r5, q5⟩ => ?_
  exact thn (hs pins s5 σ H5 x1 x2 x5 ov iv new _ I5 r1 r2 r5 q5) fun _ s6 ⟨H6, I6, q6⟩ => ⟨σ, H6, I6, q6⟩
/-- ints -/
def ipI (f : Int → Int → Int) : TIp := fun x y H Q => ∃ i j, x = .int i ∧ y = .int j ∧ Q (.int (f i j)) H
theorem ip_add : PIp X .Add (ipI fun i j => i + j) := by
  intro pins s σ H x y v u Q I r1 r2 h
  obtain ⟨i, j, e1, e2, q⟩ := h
  subst e1; subst e2
  obtain ⟨t, rfl⟩ := r1
  obtain ⟨t', rfl⟩ := r2
  exact iadd_int ⟨.int _, H, I.tok _, ⟨_, rfl⟩, q⟩

end

/-! ### while -/
section
variable {X : Cx} {pos : Pos}
/-- the invariant W with its measure -/
def tWhile (c : TT) (tb : TS) : TS := fun D σ H => ∃ W : Nat → St → Hp → Prop, (∃ m, W m σ H) ∧ ∀ m σ H, W m σ H →
  c σ H fun b H1 => if b = true then ∃ N : St → Hp → Prop, (∀ σ' H', N σ' H' → ∃ m', m' < m ∧ W m' σ' H') ∧ tb { D with nx := N, ct := N, bk := D.nx } σ H1 else D.nx σ H1
theorem ps_while {c : Expr} {body : List Stmt} {tc : TT} {tb : TS} (hp : PassesOwn (model X.prog X.w) X.A X.env X.xe) (hc : PT X c tc) (hb : PSs X body tb) : PS X (.While c body [] pos) (tWhile tc tb) := by
  intro pins s σ H D I h
  obtain ⟨W, ⟨m0, w0⟩, turn⟩ := h
  refine wpAny_While (codeAny_whileLoop (fun n s' => ∃ σ' H', Inv X pins σ' H' s' ∧ W n σ' H') ?_ m0 ⟨σ, H, I, w0⟩)
  rintro n s1 ⟨σ1, H1, I1, w1⟩
  refine wpAny_passesOwn hp (thn (hc pins s1 σ1 H1 _ I1 (turn n σ1 H1 w1)) fun b s2 ⟨H2, I2, q2⟩ => ?_)
  cases b with
  | true =>
    obtain ⟨N, hN, q2⟩ := q2
    rw [if_pos rfl]
    refine wpAny_passesOwn hp (thn (hb pins s2 σ1 H2 _ I2 q2) fun f s3 q3 => ?_)
    cases f with
    | next =>
      obtain ⟨σ3, H3, I3, n3⟩ := q3
      obtain ⟨m', hm, w3⟩ := hN σ3 H3 n3
      exact ⟨m', hm, σ3, H3, I3, w3⟩
    | cont =>
      obtain ⟨σ3, H3, I3, n3⟩ := q3
      obtain ⟨m', hm, w3⟩ := hN σ3 H3 n3
      exact ⟨m', hm, σ3, H3, I3, w3⟩
    | brk => exact q3
    | ret v => exact q3
  | false =>
    rw [if_neg Bool.false_ne_true]
    exact wpAny_execs_nil ⟨σ1, H2, I2, q2⟩
end

/-! ### what a loop or a comprehension walks -/
/-- at turn i: it yields x (the heap may grow), or it stops -/
structure It where
  go : Nat → Hp → Prop
  yld : Nat → Hp → V → Hp → Prop
  stop : Nat → Hp → Prop
/-- the iterator's own objects may turn: they are not the frame's, not pinned, younger than the entry (or a comprehension's own) -/
def FpOk (X : Cx) (pins : List (Addr × Obj)) (H : Hp) (b : Addr) : Prop :=
  H b = none ∧ b ≠ X.env.locals ∧ b ∉ X.fs ∧ (b ∈ X.ex ∨ X.s_0.heap.objs.size ≤ b) ∧ (∀ x c, X.env.cells.lookup x = some c → c ≠ b) ∧ ∀ p ∈ X.pn ++ pins, p.1 ≠ b
theorem Inv.fpOk {X : Cx} {pins : List (Addr × Obj)} {σ : St} {H H' : Hp} {s : Shared} {b : Addr} (I : Inv X pins σ H s) (hb : s.heap.objs.size ≤ b) (hn : H' b = none) : FpOk X pins H' b := by
  refine ⟨hn, Nat.ne_of_gt (Nat.lt_of_lt_of_le I.lt hb), I.nofs hb, .inr (Nat.le_trans I.sz hb), fun x c e z => ?_, fun p hp z => ?_⟩
  · obtain ⟨v, q⟩ := I.cell x c e
    exact absurd (Nat.lt_of_lt_of_le q.lt (by rw [z]; exact hb)) (Nat.lt_irrefl _)
  · exact absurd (Nat.lt_of_lt_of_le (Heap.lt_size (I.pin p hp).1) (by rw [z]; exact hb)) (Nat.lt_irrefl _)
structure Turn (P : Program) (w : World) (K : PySem.W.Frag) (tg : Expr) (J : It) (fp : List Addr) (it : Addr) (tn : Nat → Heap → Prop) : Prop where
  mem : it ∈ fp
  obj : ∀ i h, tn i h → ∀ b ∈ fp, ∃ o, h.get? b = some o ∧ ∀ v, o.data ≠ .cell v
  keep : ∀ i h h', tn i h → (∀ b ∈ fp, ∀ o, h.get? b = some o → h'.get? b = some o) → tn i h'
  item : ∀ (X : Cx), X.prog = P → X.w = w → X.K = K → X.calm = true → ∀ (i : Nat) (pins : List (Addr × Obj)) (s : Shared) (σ : St) (H : Hp) (E : Value → Shared → Prop), Inv X pins σ H s → (∀ b ∈ fp, FpOk X pins H b) → tn i s.heap → J.go i H →
    wpAny (model P w) X.A (pyNext (.ref it)) (fun r s1 => ∃ u, r = some u ∧
      wpAny (model P w) X.A (letOwnedTupleGo tg (.ref it) u) (fun _ s2 => ∃ x H', Inv X pins σ H' s2 ∧ RelV x u ∧ J.yld i H x H' ∧ tn (i + 1) s2.heap ∧ ∀ b ∈ fp, H' b = none) E s1) E s
  done : ∀ (X : Cx), X.prog = P → X.w = w → X.K = K → X.calm = true → ∀ (i : Nat) (pins : List (Addr × Obj)) (s : Shared) (σ : St) (H : Hp) (E : Value → Shared → Prop), Inv X pins σ H s → (∀ b ∈ fp, FpOk X pins H b) → tn i s.heap → J.stop i H →
    wpAny (model P w) X.A (pyNext (.ref it)) (fun r s1 => r = none ∧ Inv X pins σ H s1) E s
  self : ∀ (A : Around) (i : Nat) (s : Shared) (Q : Value → Shared → Prop) (E : Value → Shared → Prop), tn i s.heap → Q (.ref it) s → wpAny (model P w) A (pyIter (.ref it)) Q E s
abbrev TI := St → Hp → (It → Hp → Prop) → Prop
/-- an iterator has come -/
def PIE (X : Cx) (pins : List (Addr × Obj)) (σ : St) (tg : Expr) (R : It → Hp → Prop) (itv : Value) (s2 : Shared) : Prop :=
  ∃ (it : Addr) (fp : List Addr) (tn : Nat → Heap → Prop) (J : It) (H' : Hp), itv = .ref it ∧ Inv X pins σ H' s2 ∧ Turn X.prog X.w X.K tg J fp it tn ∧ tn 0 s2.heap ∧ (∀ b ∈ fp, FpOk X pins H' b) ∧ R J H'
def PI (X : Cx) (tg iter : Expr) (wi : TI) : Prop :=
  ∀ (pins : List (Addr × Obj)) (s : Shared) (σ : St) (H : Hp) (R : It → Hp → Prop), Inv X pins σ H s → wi σ H R →
    wpAny (model X.prog X.w) X.A (eval iter X.env) (fun v s1 => wpAny (model X.prog X.w) X.A (pyIter v) (PIE X pins σ tg R) X.xe s1) X.xe s

/-- the step ahead of the store is nothing for an iterator that keeps no tuple -/
theorem go_of {M : Model} {A : Around} {E : Value → Shared → Prop} {s : Shared} {tg : Expr} {it : Addr} {u : Value} {o : Obj} {n : String} {vs : Array Value} {Q : Unit → Shared → Prop} (ho : s.heap.get? it = some o) (hc : o.cls = .type n) (hd : o.data = .fields vs)
    (hn : ["enumerate", "zip", "dict_itemiterator", "dict_reverseitemiterator", "odict_iterator", "itertools.zip_longest", "itertools.pairwise"].contains n = false) (hQ : Q () s) : wpAny M A (letOwnedTupleGo tg (.ref it) u) Q E s := by
  unfold letOwnedTupleGo
  cases tg <;> first
    | exact wpAny_pure hQ
    | (cases u <;> first
        | exact wpAny_pure hQ
        | (refine wpAny_bind (wpAny_load ho ?_)
           rw [hc, hd]
           show wpAny M A (if (["enumerate", "zip", "dict_itemiterator", "dict_reverseitemiterator", "odict_iterator", "itertools.zip_longest", "itertools.pairwise"].contains n && vs[0]? == some (rawInt _)) = true then _ else _) Q E s
           rw [if_neg (by intro h; rw [hn, Bool.false_and] at h; cases h)]
           exact wpAny_pure hQ))

/-- the list at a, as it stands at each turn (a loop may append to it) -/
def Itl (K : PySem.W.Frag) (a : Addr) : It :=
  ⟨fun i H => ∃ xs x, SqL K H a xs ∧ xs[i]? = some x, fun i H x H' => H' = H ∧ ∀ xs, SqL K H a xs → xs[i]? = some x, fun i H => ∃ xs, SqL K H a xs ∧ xs.length ≤ i⟩

/-- lo, lo + 1, .. (n of them) -/
def Itr (lo : Int) (n : Nat) : It := ⟨fun i _ => i < n, fun i H x H' => H' = H ∧ x = .int (lo + i), fun i _ => n ≤ i⟩
theorem turn_list {P : Program} {w : World} {K : PySem.W.Frag} {tg : Expr} (a it : Addr) : Turn P w K tg (Itl K a) [it] it (fun i h => h.IsListIter it a i) where
  mem := by simp
  obj := fun i h st b hb => by
    have e : b = it := by simpa using hb
    subst e
    obtain ⟨o, e, c, d⟩ := st
    exact ⟨o, e, fun v z => by rw [d] at z; cases z⟩
  keep := fun i h h' st k => st.at fun o e => k it (by simp) o e
  item := by
    intro X hP hw hK hc i pins s σ H E I hf st hg
    subst hP hw hK
    obtain ⟨xs, x, hq, hx⟩ := hg
    obtain ⟨its, rv, p, hz⟩ := I.list hq
    obtain ⟨u, hu, ru⟩ := rv.get hx
    obtain ⟨f0, f1, f2, f3, f4, f5⟩ := hf it (by simp)
    refine wpAny_pyNext_list_item st p.isList (x := u) (by simpa using hu) fun h' st' sb => ?_
    have I1 : Inv X pins σ H { s with heap := h' } := I.turned (t' := s.toks) (fun b o hb e => (sb.2 b hb).trans e) f0 f1 f3 f4 f5
    obtain ⟨o, e, c, d⟩ := id st'
    exact ⟨u, rfl, go_of (s := { s with heap := h' }) e c d (by decide) ⟨x, H, I1, ru, ⟨rfl, fun ys hy => by rw [I.list_inj hy hq]; exact hx⟩, st', fun b hb => (hf b hb).1⟩⟩
  done := by
    intro X hP hw hK hc i pins s σ H E I hf st hg
    subst hP hw hK
    obtain ⟨xs, hq, hx⟩ := hg
    obtain ⟨its, rv, p, hz⟩ := I.list hq
    obtain ⟨f0, f1, f2, f3, f4, f5⟩ := hf it (by simp)
    have hl := rv.length
    exact wpAny_pyNext_list_end (I.ok.hd hc) st p.isList (by simp; omega) fun h' eb => ⟨rfl, I.turned (t' := s.toks) (fun b o hb e => eb b o hb e) f0 f1 f3 f4 f5⟩
  self := fun _ _ _ _ _ st h => wpAny_pyIter_listiter st h

theorem turn_range {P : Program} {w : World} {K : PySem.W.Frag} {tg : Expr} (it : Addr) (lo : Int) (n : Nat) : Turn P w K tg (Itr lo n) [it] it (fun i h => IsRangeIter h it (lo + (i : Nat) * 1) ((n : Int) - (i : Nat)) 1) where
  mem := by simp
  obj := fun i h st b hb => by
    have e : b = it := by simpa using hb
    subst e
    exact ⟨_, st, fun v z => by
      have z' : Data.fields _ = Data.cell v := z
      cases z'⟩
  keep := fun i h h' st k => k it (by simp) _ st
  item := by
    intro X hP hw hK hc i pins s σ H E I hf st hg
    subst hP hw hK
    obtain ⟨f0, f1, f2, f3, f4, f5⟩ := hf it (by simp)
    have W := Walks.range (prog := X.prog) (w := X.w) (I.ok.hd hc) it lo 1 n
    refine W.item i s _ _ hg st fun v h' tk hv st' kk => ?_
    obtain ⟨t, rfl⟩ := hv
    have I1 : Inv X pins σ H { s with heap := h', toks := tk } := I.turned (fun b o hb e => kk b o (by simpa using hb) e) f0 f1 f3 f4 f5
    refine ⟨_, rfl, go_of (s := { s with heap := h', toks := tk }) (n := "range_iterator") st' rfl rfl (by decide) ⟨.int (lo + i), H, I1, ⟨t, ?_⟩, ⟨rfl, rfl⟩, st', fun b hb => (hf b hb).1⟩⟩
    rw [Int.mul_one]
  done := by
    intro X hP hw hK hc i pins s σ H E I hf st hg
    subst hP hw hK
    obtain ⟨f0, f1, f2, f3, f4, f5⟩ := hf it (by simp)
    exact wpAny_pyNext_range_end (I.ok.hd hc) st (by have : n ≤ i := hg; omega) fun h' eb => ⟨rfl, I.turned (t' := s.toks) (fun b o hb e => eb b o hb e) f0 f1 f3 f4 f5⟩
  self := fun _ _ _ _ _ st h => wpAny_pyIter_rangeiter st h
end L2

namespace L2
open PySem PySem.Spec PyProof.Rows
section
variable {X : Cx} {tg : Expr}
def iList (K : PySem.W.Frag) (tl : TE) : TI := fun σ H R => tl σ H fun x H1 => ∃ a, x = .ref a ∧ (∃ xs, SqL K H1 a xs) ∧ R (Itl K a) H1

theorem pi_list {l : Expr} {tl : TE} (hl : PE X l tl) : PI X tg l (iList X.K tl) := by
  intro pins s σ H R I h
  refine thn (hl pins s σ H _ I h) fun v s1 ⟨x, H1, I1, r1, q1⟩ => ?_
  obtain ⟨a, e, ⟨xs, hq⟩, q⟩ := q1
  subst e
  cases r1
  obtain ⟨its, rv, p, hz⟩ := I1.list hq
  refine wpAny_pyIter_list p.isList ?_
  refine ⟨s1.heap.objs.size, [s1.heap.objs.size], _, _, H1, rfl, I1.kept (t' := s1.toks) fun b o e => Heap.get?_push_of_some _ e, turn_list a _, ⟨_, Heap.get?_push_size _ rfl, rfl, rfl⟩, fun b hb => ?_, q⟩
  have e : b = s1.heap.objs.size := by simpa using hb
  subst e
  exact I1.fpOk (Nat.le_refl _) (I1.hok.fresh (Nat.le_refl _))

/-- a range object just made, walked -/
theorem range_it {pins : List (Addr × Obj)} {σ : St} {H : Hp} {s : Shared} {R : It → Hp → Prop} {E : Value → Shared → Prop} {lo hi : Int} {t u v : Tok} {tk : Nat} (I : Inv X pins σ H s) (h1 : -(2 ^ 62) ≤ lo) (h2 : lo < 2 ^ 62) (h3 : -(2 ^ 62) ≤ hi) (h4 : hi < 2 ^ 62)
    (q : R (Itr lo (hi - lo).toNat) H) : wpAny (model X.prog X.w) X.A (pyIter (.ref s.heap.objs.size)) (PIE X pins σ tg R) E { s with heap := s.heap.push { cls := .type "range", data := .fields #[.int lo t, .int hi u, .int 1 v] }, toks := tk } := by
  refine wpAny_pyIter_range (IsRange.new ..) (small_one h1 h2 h3 h4) ?_
  have I1 : Inv X pins σ H { s with heap := s.heap.push { cls := .type "range", data := .fields #[.int lo t, .int hi u, .int 1 v] }, toks := tk } := I.kept fun b o e => Heap.get?_push_of_some _ e
  refine ⟨(s.heap.push { cls := .type "range", data := .fields #[.int lo t, .int hi u, .int 1 v] }).objs.size, [(s.heap.push { cls := .type "range", data := .fields #[.int lo t, .int hi u, .int 1 v] }).objs.size], _, _, H, rfl,
    I1.kept (t' := tk) fun b o e => Heap.get?_push_of_some _ e, turn_range _ lo (hi - lo).toNat, ?_, fun b hb => ?_, q⟩
  · have e1 : lo + ((0 : Nat) : Int) * 1 = lo := by simp
    have e2 : (((hi - lo).toNat : Nat) : Int) - ((0 : Nat) : Int) = Builtin.Range.rangeSize lo hi 1 := by rw [rangeSize_one]; split <;> omega
    show IsRangeIter _ _ (lo + ((0 : Nat) : Int) * 1) ((((hi - lo).toNat : Nat) : Int) - ((0 : Nat) : Int)) 1
    rw [e1, e2]
    exact Heap.get?_push_size _ rfl
  · have e : b = (s.heap.push { cls := .type "range", data := .fields #[.int lo t, .int hi u, .int 1 v] }).objs.size := by simpa using hb
    subst e
    exact I1.fpOk (Nat.le_refl _) (I1.hok.fresh (Nat.le_refl _))
def iRng1 (ta : TA) : TI := fun σ H R => ta σ H fun vs H1 => ∃ j : Int, vs = [.int j] ∧ -(2 ^ 62) ≤ j ∧ j < 2 ^ 62 ∧ R (Itr 0 j.toNat) H1
def iRng2 (ta : TA) : TI := fun σ H R => ta σ H fun vs H1 => ∃ i j : Int, vs = [.int i, .int j] ∧ (-(2 ^ 62) ≤ i ∧ i < 2 ^ 62 ∧ -(2 ^ 62) ≤ j ∧ j < 2 ^ 62) ∧ R (Itr i (j - i).toNat) H1
theorem pi_range1 {a : Expr} {ta : TA} {p pos : Pos} (hg : Gl X "range") (hm : X.mg "range" = none) (ha : PA X [a] ta) (hs : starEach [a] X.env = [(false, eval a X.env)] := by rfl) : PI X tg (.Call (.Name "range" p) [a] [] pos) (iRng1 ta) := by
  intro pins s σ H R I h
  refine Call_ (ld_blt I hg hm boot_range (PyProof.Rows.callWith_type1 (thn (ha pos pins s σ H _ I h) fun us s1 ⟨vs, H1, I1, r1, q1⟩ => ?_) hs rfl))
  obtain ⟨j, e, q1, q2, q⟩ := q1
  subst e
  cases r1 with
  | cons r rr =>
    cases rr
    obtain ⟨t, rfl⟩ := r
    exact call_range_1 (range_it I1 (by omega) (by omega) q1 q2 (by simpa using q))
theorem pi_range2 {a b : Expr} {ta : TA} {p pos : Pos} (hg : Gl X "range") (hm : X.mg "range" = none) (ha : PA X [a, b] ta) (hs : starEach [a, b] X.env = [(false, eval a X.env), (false, eval b X.env)] := by rfl) (hs2 : starEach [b] X.env = [(false, eval b X.env)] := by rfl) :
    PI X tg (.Call (.Name "range" p) [a, b] [] pos) (iRng2 ta) := by
  intro pins s σ H R I h
  refine Call_ (ld_blt I hg hm boot_range (PyProof.Rows.callWith_type1 (thn (ha pos pins s σ H _ I h) fun us s1 ⟨vs, H1, I1, r1, q1⟩ => ?_) (by rw [hs, hs2]) (by rw [hs2]; rfl)))
  obtain ⟨i, j, e, ⟨q1, q2, q3, q4⟩, q⟩ := q1
  subst e
  cases r1 with
  | cons r rr =>
    cases rr with
    | cons r' rr =>
      cases rr
      obtain ⟨t, rfl⟩ := r
      obtain ⟨t', rfl⟩ := r'
      exact call_range_2 (range_it I1 q1 q2 q3 q4 q)

/-! ### for -/
/-- W: the invariant by the turn and a measure; N: what the body is to reach -/
def tFor (wi : TI) (g : TG) (tb : TS) : TS := fun D σ H => wi σ H fun J H1 => ∃ W : Nat → Nat → St → Hp → Prop, (∃ m, W 0 m σ H1) ∧ ∀ i m σ H, W i m σ H →
  (J.stop i H ∧ D.nx σ H) ∨ (J.go i H ∧ ∃ N : St → Hp → Prop, (∀ σ' H', N σ' H' → ∃ m', m' < m ∧ W (i + 1) m' σ' H') ∧ ∀ x H', J.yld i H x H' → g x σ H' fun σ2 H2 => tb { D with nx := N, ct := N, bk := D.nx } σ2 H2)
/-- the records at fp as they stand -/
def pinsAt (fp : List Addr) (h : Heap) : List (Addr × Obj) := fp.filterMap fun b => (h.get? b).map fun o => (b, o)
theorem mem_pinsAt {fp : List Addr} {h : Heap} {b : Addr} {o : Obj} (hb : b ∈ fp) (e : h.get? b = some o) : (b, o) ∈ pinsAt fp h := List.mem_filterMap.mpr ⟨b, hb, by rw [e]; rfl⟩
theorem of_pinsAt {fp : List Addr} {h : Heap} {p : Addr × Obj} (hp : p ∈ pinsAt fp h) : p.1 ∈ fp ∧ h.get? p.1 = some p.2 := by
  obtain ⟨b, hb, e⟩ := List.mem_filterMap.mp hp
  cases q : h.get? b with
  | none => rw [q] at e; cases e
  | some o =>
    rw [q] at e
    have e' : (b, o) = p := Option.some.inj e
    subst e'
    exact ⟨hb, q⟩
theorem Inv.pinned {pins : List (Addr × Obj)} {σ : St} {H : Hp} {s : Shared} {fp : List Addr} (I : Inv X pins σ H s) (hf : ∀ b ∈ fp, FpOk X pins H b) (ho : ∀ b ∈ fp, ∃ o, s.heap.get? b = some o ∧ ∀ v, o.data ≠ .cell v) : Inv X (pins ++ pinsAt fp s.heap) σ H s :=
  I.pins_of fun p hp => (List.mem_append.mp hp).elim (fun z => I.pin p (List.mem_append_right _ z)) fun z => by
    obtain ⟨hb, e⟩ := of_pinsAt z
    obtain ⟨f0, f1, f2, _⟩ := hf p.1 hb
    obtain ⟨o, e', d⟩ := ho p.1 hb
    rw [e] at e'; cases e'
    exact ⟨e, f0, f1, f2, d⟩
theorem Inv.unpinned {pins pl : List (Addr × Obj)} {σ : St} {H : Hp} {s : Shared} (I : Inv X (pins ++ pl) σ H s) : Inv X pins σ H s := I.pins_of fun p hp => I.pin p (List.mem_append_right _ (List.mem_append_left _ hp))
theorem ps_for {iter : Expr} {body : List Stmt} {wi : TI} {g : TG} {tb : TS} {pos : Pos} (hp : PassesOwn (model X.prog X.w) X.A X.env X.xe) (hc : X.calm = true) (hi : PI X tg iter wi) (hg : PG X tg g) (hb : PSs X body tb)
    (hs : ∀ x, foldedSetIterable iter X.env x = pure x := by intro _; rfl) : PS X (.For tg iter body [] pos) (tFor wi g tb) := by
  intro pins s σ H D I h
  refine wpAny_For (thn (hi pins s σ H _ I h) fun v s1 h1 => thn h1 fun itv s2 h2 => ?_) hs
  obtain ⟨it, fp, tn, J, H2, e, I2, T, st2, f2, W, ⟨m0, w0⟩, turn⟩ := h2
  subst e
  -- what stays true of the iterator's objects through the loop
  have stat : ∀ {H' : Hp}, (∀ b ∈ fp, H' b = none) → ∀ b ∈ fp, FpOk X pins H' b := fun hn b hb => ⟨hn b hb, (f2 b hb).2⟩
  refine codeAny_forLoop_any (fun n s' => ∃ i σ' H', Inv X pins σ' H' s' ∧ tn i s'.heap ∧ (∀ b ∈ fp, H' b = none) ∧ W i n σ' H') ?_ m0 ⟨0, σ, H2, I2, st2, fun b hb => (f2 b hb).1, w0⟩
  rintro n s3 ⟨i, σ3, H3, I3, st3, fr3, w3⟩
  rcases turn i n σ3 H3 w3 with ⟨stop, qn⟩ | ⟨go, N, hN, step⟩
  · refine wpAny_passesOwn hp (thn (T.done X rfl rfl rfl hc i pins s3 σ3 H3 X.xe I3 (stat fr3) st3 stop) fun r s4 ⟨hr, I4⟩ => ?_)
    subst hr
    exact wpAny_execs_nil ⟨σ3, H3, I4, qn⟩
  · refine wpAny_passesOwn hp (thn (T.item X rfl rfl rfl hc i pins s3 σ3 H3 X.xe I3 (stat fr3) st3 go) fun r s4 ⟨u, hr, h4⟩ => ?_)
    subst hr
    refine wpAny_passesOwn hp (thn h4 fun _ s5 ⟨x, H5, I5, r5, y5, st5, fr5⟩ => ?_)
    have I5' := I5.pinned (stat fr5) (T.obj _ _ st5)
    refine wpAny_passesOwn hp (thn (hg _ s5 σ3 H5 x u _ I5' r5 (step x H5 y5)) fun _ s6 ⟨σ6, H6, I6, q6⟩ => ?_)
    refine wpAny_passesOwn hp (thn (hb _ s6 σ6 H6 _ I6 q6) fun f s7 q7 => ?_)
    have again : ∀ {σ7 : St} {H7 : Hp}, Inv X (pins ++ pinsAt fp s5.heap) σ7 H7 s7 → N σ7 H7 → ∃ m, m < n ∧ ∃ i σ' H', Inv X pins σ' H' s7 ∧ tn i s7.heap ∧ (∀ b ∈ fp, H' b = none) ∧ W i m σ' H' := fun {σ7 H7} I7 n7 => by
      obtain ⟨m', hm, w7⟩ := hN σ7 H7 n7
      refine ⟨m', hm, i + 1, σ7, H7, I7.unpinned, T.keep _ _ _ st5 fun b hb o e => (I7.pin (b, o) (List.mem_append_right _ (List.mem_append_right _ (mem_pinsAt hb e)))).1, fun b hb => ?_, w7⟩
      obtain ⟨o, e, d⟩ := T.obj _ _ st5 b hb
      exact (I7.pin (b, o) (List.mem_append_right _ (List.mem_append_right _ (mem_pinsAt hb e)))).2.1
    cases f with
    | next => obtain ⟨σ7, H7, I7, n7⟩ := q7; exact again I7 n7
    | cont => obtain ⟨σ7, H7, I7, n7⟩ := q7; exact again I7 n7
    | brk => obtain ⟨σ7, H7, I7, q7⟩ := q7; exact ⟨σ7, H7, I7.unpinned, q7⟩
    | ret v => obtain ⟨x7, σ7, H7, I7, r7, q7⟩ := q7; exact ⟨x7, σ7, H7, I7.unpinned, r7, q7⟩
end

/-! ### the forms one uses -/
/-- over a list that the body leaves as it is -/
theorem for_list {K : PySem.W.Frag} {a : Addr} {xs : List V} {g : TG} {tb : TS} {D : Ends} {σ : St} {H : Hp} (Pv : Nat → St → Hp → Prop) (h0 : Pv 0 σ H) (hl : ∀ i σ H, i ≤ xs.length → Pv i σ H → SqL K H a xs)
    (hs : ∀ i x σ H, xs[i]? = some x → Pv i σ H → g x σ H fun σ2 H2 => tb { D with nx := Pv (i + 1), ct := Pv (i + 1), bk := D.nx } σ2 H2) (hd : ∀ σ H, Pv xs.length σ H → D.nx σ H) :
    ∃ W : Nat → Nat → St → Hp → Prop, (∃ m, W 0 m σ H) ∧ ∀ i m σ H, W i m σ H →
      ((Itl K a).stop i H ∧ D.nx σ H) ∨ ((Itl K a).go i H ∧ ∃ N : St → Hp → Prop, (∀ σ' H', N σ' H' → ∃ m', m' < m ∧ W (i + 1) m' σ' H') ∧ ∀ x H', (Itl K a).yld i H x H' → g x σ H' fun σ2 H2 => tb { D with nx := N, ct := N, bk := D.nx } σ2 H2) := by
  refine ⟨fun i m σ H => m = xs.length - i ∧ i ≤ xs.length ∧ Pv i σ H, ⟨xs.length, by simp, Nat.zero_le _, h0⟩, ?_⟩
  rintro i m σ H ⟨rfl, hi, p⟩
  have q := hl i σ H hi p
  by_cases hlt : i < xs.length
  · refine .inr ⟨⟨xs, xs[i], q, by simp [hlt]⟩, Pv (i + 1), fun σ' H' p' => ⟨xs.length - (i + 1), by omega, rfl, hlt, p'⟩, fun x H' y => ?_⟩
    obtain ⟨e, y⟩ := y
    subst e
    exact hs i x σ _ (y xs q) p
  · have e : i = xs.length := by omega
    subst e
    exact .inl ⟨⟨xs, q, Nat.le_refl _⟩, hd σ H p⟩

theorem for_range {lo : Int} {n : Nat} {g : TG} {tb : TS} {D : Ends} {σ : St} {H : Hp} (Pv : Nat → St → Hp → Prop) (h0 : Pv 0 σ H)
    (hs : ∀ i σ H, i < n → Pv i σ H → g (.int (lo + i)) σ H fun σ2 H2 => tb { D with nx := Pv (i + 1), ct := Pv (i + 1), bk := D.nx } σ2 H2) (hd : ∀ σ H, Pv n σ H → D.nx σ H) :
    ∃ W : Nat → Nat → St → Hp → Prop, (∃ m, W 0 m σ H) ∧ ∀ i m σ H, W i m σ H →
      ((Itr lo n).stop i H ∧ D.nx σ H) ∨ ((Itr lo n).go i H ∧ ∃ N : St → Hp → Prop, (∀ σ' H', N σ' H' → ∃ m', m' < m ∧ W (i + 1) m' σ' H') ∧ ∀ x H', (Itr lo n).yld i H x H' → g x σ H' fun σ2 H2 => tb { D with nx := N, ct := N, bk := D.nx } σ2 H2) := by
  refine ⟨fun i m σ H => m = n - i ∧ i ≤ n ∧ Pv i σ H, ⟨n, by simp, Nat.zero_le _, h0⟩, ?_⟩
  rintro i m σ H ⟨rfl, hi, p⟩
  by_cases hlt : i < n
  · refine .inr ⟨hlt, Pv (i + 1), fun σ' H' p' => ⟨n - (i + 1), by omega, rfl, hlt, p'⟩, fun x H' y => ?_⟩
    obtain ⟨e, y⟩ := y
    subst e y
    exact hs i σ _ hlt p
  · have e : i = n := by omega
    subst e
    exact .inl ⟨Nat.le_refl _, hd σ H p⟩

end L2

namespace L2
open PySem PySem.Spec PyProof.Rows

abbrev R2 := V → V → Hp → VK → Prop
/-- a two-place operation on values: f is binaryOp op, inplaceOp op or compareOp op -/
def OpR (X : Cx) (f : Value → Value → Sem Value) (r : R2) : Prop :=
  ∀ (pins : List (Addr × Obj)) (s : Shared) (σ : St) (H : Hp) (x y : V) (v u : Value) (Q : VK), Inv X pins σ H s → RelV x v → RelV y u → r x y H Q →
    wpAny (model X.prog X.w) X.A (f v u) (EP X pins σ Q) X.xe s
/-- a one-place operation -/
def UnR (X : Cx) (f : Value → Sem Value) (r : V → Hp → VK → Prop) : Prop :=
  ∀ (pins : List (Addr × Obj)) (s : Shared) (σ : St) (H : Hp) (x : V) (v : Value) (Q : VK), Inv X pins σ H s → RelV x v → r x H Q →
    wpAny (model X.prog X.w) X.A (f v) (EP X pins σ Q) X.xe s
/-- a call of a value that is known (a builtin, a type) with values -/
def CallR (X : Cx) (f : Value) (r : List V → Hp → VK → Prop) : Prop :=
  ∀ (pins : List (Addr × Obj)) (s : Shared) (σ : St) (H : Hp) (xs : List V) (us : List Value) (Q : VK), Inv X pins σ H s → Vals xs us → r xs H Q →
    wpAny (model X.prog X.w) X.A (call f us) (EP X pins σ Q) X.xe s

def tOp (r : R2) (ta tb : TE) : TE := fun σ H Q => ta σ H fun x H1 => tb σ H1 fun y H2 => r x y H2 Q
def tUn (r : V → Hp → VK → Prop) (ta : TE) : TE := fun σ H Q => ta σ H fun x H1 => r x H1 Q
/-- ints in, under C, and a value out -/
def rI (C : Int → Int → Prop) (g : Int → Int → V) : R2 := fun x y H Q => ∃ i j, x = .int i ∧ y = .int j ∧ C i j ∧ Q (g i j) H
def rI0 (g : Int → Int → V) : R2 := fun x y H Q => ∃ i j, x = .int i ∧ y = .int j ∧ Q (g i j) H
def rU (g : Int → V) : V → Hp → VK → Prop := fun x H Q => ∃ i, x = .int i ∧ Q (g i) H

section
variable {X : Cx} {a b c : Expr} {ta tb tc : TE} {pos : Pos}

theorem binT (ha : PE X a ta) (hb : PE X b tb) {pins : List (Addr × Obj)} {s : Shared} {σ : St} {H : Hp} {R : V → V → Hp → Prop} (I : Inv X pins σ H s)
    (h : ta σ H fun x H1 => tb σ H1 fun y H2 => R x y H2) {Q : Value → Shared → Prop} {f : Value → Value → Sem Value}
    (hf : ∀ v u s2 x y H2, Inv X pins σ H2 s2 → RelV x v → RelV y u → R x y H2 → wpAny (model X.prog X.w) X.A (f v u) Q X.xe s2) :
    wpAny (model X.prog X.w) X.A (eval a X.env) (fun v s₁ => wpAny (model X.prog X.w) X.A (eval b X.env) (fun u s₂ => wpAny (model X.prog X.w) X.A (f v u) Q X.xe s₂) X.xe s₁) X.xe s := by
  refine thn (ha pins s σ H _ I h) fun v s1 ⟨x, H1, I1, r1, q1⟩ => ?_
  refine thn (hb pins s1 σ H1 _ I1 q1) fun u s2 ⟨y, H2, I2, r2, q2⟩ => ?_
  exact hf v u s2 x y H2 I2 r1 r2 q2

theorem pe_op {op : Operator} {r : R2} (ho : OpR X (binaryOp op) r) (ha : PE X a ta) (hb : PE X b tb) : PE X (.BinOp a op b pos) (tOp r ta tb) := by
  intro pins s σ H Q I h
  exact wpAny_BinOp (binT ha hb I h fun v u s2 x y H2 I2 rx ry q => ho pins s2 σ H2 x y v u Q I2 rx ry q)
theorem pe_un {op : UnaryOp} {r : V → Hp → VK → Prop} (ho : UnR X (unaryOp op) r) (ha : PE X a ta) : PE X (.UnaryOp op a pos) (tUn r ta) := by
  intro pins s σ H Q I h
  exact UnaryOp_ (thn (ha pins s σ H _ I h) fun v s1 ⟨x, H1, I1, r1, q1⟩ => ho pins s1 σ H1 x v Q I1 r1 q1)

/-! ### ints -/
theorem opI {f : Value → Value → Sem Value} {C : Int → Int → Prop} {g : Int → Int → Int}
    (rule : ∀ (i j : Int) (t u : Tok) (s : Shared) (Q : Value → Shared → Prop) (E : Value → Shared → Prop), C i j → Q (.int (g i j) s.toks) { s with toks := s.toks + 1 } → wpAny (model X.prog X.w) X.A (f (.int i t) (.int j u)) Q E s) :
    OpR X f (rI C fun i j => .int (g i j)) := by
  intro pins s σ H x y v u Q I rx ry h
  obtain ⟨i, j, rfl, rfl, hc, q⟩ := h
  obtain ⟨t, rfl⟩ := rx
  obtain ⟨t', rfl⟩ := ry
  exact rule i j t t' s _ _ hc ⟨.int (g i j), H, I.tok _, ⟨_, rfl⟩, q⟩
theorem opI0 {f : Value → Value → Sem Value} {g : Int → Int → Int}
    (rule : ∀ (i j : Int) (t u : Tok) (s : Shared) (Q : Value → Shared → Prop) (E : Value → Shared → Prop), Q (.int (g i j) s.toks) { s with toks := s.toks + 1 } → wpAny (model X.prog X.w) X.A (f (.int i t) (.int j u)) Q E s) :
    OpR X f (rI0 fun i j => .int (g i j)) := by
  intro pins s σ H x y v u Q I rx ry h
  obtain ⟨i, j, rfl, rfl, q⟩ := h
  obtain ⟨t, rfl⟩ := rx
  obtain ⟨t', rfl⟩ := ry
  exact rule i j t t' s _ _ ⟨.int (g i j), H, I.tok _, ⟨_, rfl⟩, q⟩
theorem opB0 {f : Value → Value → Sem Value} {g : Int → Int → Bool}
    (rule : ∀ (i j : Int) (t u : Tok) (s : Shared) (Q : Value → Shared → Prop) (E : Value → Shared → Prop), Q (.bool (g i j)) s → wpAny (model X.prog X.w) X.A (f (.int i t) (.int j u)) Q E s) :
    OpR X f (rI0 fun i j => .bl (g i j)) := by
  intro pins s σ H x y v u Q I rx ry h
  obtain ⟨i, j, rfl, rfl, q⟩ := h
  obtain ⟨t, rfl⟩ := rx
  obtain ⟨t', rfl⟩ := ry
  exact rule i j t t' s _ _ ⟨.bl (g i j), H, I, rfl, q⟩

def CDiv (i j : Int) : Prop := 0 < j ∧ j < 1073741824

def CPow (i j : Int) : Prop := 0 ≤ j ∧ j ≤ 1000000 ∧ i.natAbs < 2 ^ 64
def CMul (i j : Int) : Prop := (-(2 ^ 64) < i ∧ i < 2 ^ 64) ∨ (-(2 ^ 64) < j ∧ j < 2 ^ 64)
theorem CMul.ok {i j : Int} (h : CMul i j) : IntMulOk i j := by
  rcases h with ⟨h1, h2⟩ | ⟨h1, h2⟩
  · exact .of_left (intBits_le_64 h1 h2)
  · exact .of_right (intBits_le_64 h1 h2)

theorem op_add : OpR X (binaryOp .Add) (rI0 fun i j => .int (i + j)) := opI0 fun _ _ _ _ _ _ _ q => add_int q
theorem op_sub : OpR X (binaryOp .Sub) (rI0 fun i j => .int (i - j)) := opI0 fun _ _ _ _ _ _ _ q => sub_int q
theorem op_mul : OpR X (binaryOp .Mult) (rI CMul fun i j => .int (i * j)) := opI fun _ _ _ _ _ _ _ hc q => mul_int q hc.ok
/-- // by a positive divisor -/
theorem op_fdiv : OpR X (binaryOp .FloorDiv) (rI CDiv fun i j => .int (i / j)) := opI fun i j _ _ _ _ _ hc q => by
  have h1 : (0 : Int) < j := hc.1
  have h2 : j < 1073741824 := hc.2
  exact floordiv_int (by omega) (by rw [Int.fdiv_eq_ediv_of_nonneg i (by omega)]; exact q) (.inl (PyProof.noPylong_small (by omega)))

/-- % by a positive divisor of any size -/
theorem op_mod : OpR X (binaryOp .Mod) (rI (fun _ j => 0 < j) fun i j => .int (i % j)) := opI fun i j _ _ _ _ _ hc q => by
  have h1 : (0 : Int) < j := hc
  exact mod_int' (by omega) (by rw [Int.fmod_eq_emod_of_nonneg i (by omega)]; exact q)

theorem op_shl : OpR X (binaryOp .LShift) (rI CPow fun i j => .int (i * 2 ^ j.toNat)) := opI fun _ _ _ _ _ _ _ hc q => lshift_int_small hc.1 hc.2.1 hc.2.2 q

theorem op_and : OpR X (binaryOp .BitAnd) (rI0 fun i j => .int (Builtin.bitAnd i j)) := opI0 fun _ _ _ _ _ _ _ q => and_int q
theorem op_or : OpR X (binaryOp .BitOr) (rI0 fun i j => .int (Builtin.bitOr i j)) := opI0 fun _ _ _ _ _ _ _ q => or_int q

theorem unI {f : Value → Sem Value} {g : Int → Int}
    (rule : ∀ (i : Int) (t : Tok) (s : Shared) (Q : Value → Shared → Prop) (E : Value → Shared → Prop), Q (.int (g i) s.toks) { s with toks := s.toks + 1 } → wpAny (model X.prog X.w) X.A (f (.int i t)) Q E s) :
    UnR X f (rU fun i => .int (g i)) := by
  intro pins s σ H x v Q I rx h
  obtain ⟨i, rfl, q⟩ := h
  obtain ⟨t, rfl⟩ := rx
  exact rule i t s _ _ ⟨.int (g i), H, I.tok _, ⟨_, rfl⟩, q⟩
theorem un_neg : UnR X (unaryOp .USub) (rU fun i => .int (-i)) := unI fun _ _ _ _ _ q => neg_int q

/-! ### bools among ints: n += (a < b) -/

end

/-! ### comparisons -/

section
variable {X : Cx} {a b c : Expr} {ta tb tc : TE} {pos : Pos}

theorem op_le : OpR X (compareOp .LtE) (rI0 fun i j => .bl (decide (i ≤ j))) := opB0 fun _ _ _ _ _ _ _ q => le_int q

/-- a reading of a value as a test -/
def tTest (t : TE) : TT := fun σ H Q => t σ H fun x H' => ∃ k, x = .bl k ∧ Q k H'

/-- a op1 b op2 c -/
def tChain (r r' : R2) (ta tb tc : TE) : TE := fun σ H Q => ta σ H fun x H1 => tb σ H1 fun y H2 => r x y H2 fun z H3 => ∃ k, z = .bl k ∧
  (if k = true then tc σ H3 fun w' H4 => r' y w' H4 Q else Q (.bl false) H3)
theorem pe_chain {op op' : CmpOp} {r r' : R2} (ho : OpR X (compareOp op) r) (ho' : OpR X (compareOp op') r') (ha : PE X a ta) (hb : PE X b tb) (hc : PE X c tc)
    (hm : lastMarks [op, op'] [b, c] = false := by with_unfolding_all rfl) : PE X (.Compare a [op, op'] [b, c] pos) (tChain r r' ta tb tc) := by
  intro pins s σ H Q I h
  refine Compare_chain (thn (ha pins s σ H _ I h) fun v s1 ⟨x, H1, I1, r1, q1⟩ => chain_link (thn (hb pins s1 σ H1 _ I1 q1) fun u s2 ⟨y, H2, I2, r2, q2⟩ =>
    thn (ho pins s2 σ H2 x y v u _ I2 r1 r2 q2) fun d s3 ⟨z, H3, I3, r3, k, e, q3⟩ => ?_)) hm
  subst e
  cases r3
  refine wpAny_truthy_bool ?_
  cases k with
  | false => exact ite_ff ⟨.bl false, H3, I3, rfl, q3⟩
  | true => exact ite_tt (chain_last (thn (hc pins s3 σ H3 _ I3 q3) fun w' s4 ⟨z', H4, I4, r4, q4⟩ => ho' pins s4 σ H4 y z' u w' Q I4 r2 r4 q4))
theorem pt_chain {op op' : CmpOp} {r r' : R2} (ho : OpR X (compareOp op) r) (ho' : OpR X (compareOp op') r') (ha : PE X a ta) (hb : PE X b tb) (hc : PE X c tc)
    (hm : lastMarks [op, op'] [b, c] = false := by with_unfolding_all rfl) : PT X (.Compare a [op, op'] [b, c] pos) (tTest (tChain r r' ta tb tc)) := by
  intro pins s σ H Q I h
  refine isTrue_chain (thn (ha pins s σ H _ I h) fun v s1 ⟨x, H1, I1, r1, q1⟩ => test_link (thn (hb pins s1 σ H1 _ I1 q1) fun u s2 ⟨y, H2, I2, r2, q2⟩ =>
    thn (ho pins s2 σ H2 x y v u _ I2 r1 r2 q2) fun d s3 ⟨z, H3, I3, r3, k, e, q3⟩ => ?_)) hm
  subst e
  cases r3
  refine wpAny_truthy_bool ?_
  cases k with
  | false =>
    obtain ⟨k', e', q'⟩ := q3
    cases e'
    exact ite_ff ⟨H3, I3, q'⟩
  | true =>
    refine ite_tt (test_last (thn (hc pins s3 σ H3 _ I3 q3) fun w' s4 ⟨z', H4, I4, r4, q4⟩ => thn (ho' pins s4 σ H4 y z' u w' _ I4 r2 r4 q4) fun d' s5 ⟨z2, H5, I5, r5, k2, e2, q5⟩ => ?_))
    subst e2
    cases r5
    exact wpAny_truthy_bool ⟨H5, I5, q5⟩

/-! ### truth -/

theorem line63 : (sizeLine : Nat) < 2 ^ 63 := by rw [sizeLine_eq]; decide

/-! ### strs and bytes -/

/-! ### scalar builtins, by CallR -/
theorem vals1 {x : V} {us : List Value} (r : Vals [x] us) : ∃ u, us = [u] ∧ RelV x u := by
  cases r with
  | cons r1 r2 => cases r2; exact ⟨_, rfl, r1⟩

end
end L2

namespace L2
open PySem PySem.Spec PyProof.Rows

/-! ### an instance, its attributes a map -/

section
variable {prog : Program} {w : World} {A : Around} {E : Value → Shared → Prop} {s : Shared} {K : PySem.W.Frag} {x dx C f : Addr} {mA : Str → Option Value} {name : Str} {v : Value}

end

/-! ### the attributes as a list of pairs -/

theorem RelO.some_of {v : V} {o : Option Value} (r : RelO (some v) o) : ∃ u, o = some u ∧ RelV v u := by
  cases o with
  | none => exact (show False from r).elim
  | some u => exact ⟨u, rfl, r⟩

section
variable {P : Program} {w : World} {H H' : Hp} {h h' : Heap} {a C dx : Addr} {fs fs' : List (Str × V)}

end

/-! ### what of the text a class must have -/

section
variable {X : Cx} {pins : List (Addr × Obj)} {σ : St} {H : Hp} {s : Shared} {a C dx : Addr} {fs : List (Str × V)} {f : Str} {v : V} {A : Around} {E : Value → Shared → Prop}

end

/-! ### readings and rules -/

section
variable {X : Cx} {o e value : Expr} {f : Str} {pos pos' tpos : Pos} {ta tv : TE}

end

/-! ### isinstance -/
section
variable {X : Cx} {pins : List (Addr × Obj)} {σ : St} {H : Hp} {s : Shared} {A : Around} {E : Value → Shared → Prop} {Q : Value → Shared → Prop} {c : Value} {b : Bool}

end
end L2

namespace L2
open PySem PySem.Spec PyProof.Rows

/-! ### room -/
structure Room (k : Nat) (A : Around) : Prop where
  hd : A.handled = none
  dp : A.depth + 3 * k + 5 < recursionLimit
  un : A.units + 16 * k + 200 < cLine
theorem Room.mono {j k : Nat} {A : Around} (r : Room k A) (h : j ≤ k) : Room j A := ⟨r.hd, by have := r.dp; omega, by have := r.un; omega⟩
theorem Room.deeper {k : Nat} {A : Around} (r : Room (k + 1) A) (env : Env) : Room k (A.deeper env) :=
  ⟨r.hd, by have := r.dp; show A.depth + 1 + 3 * k + 5 < _; omega, by have := r.un; show A.units + 3 + 16 * k + 200 < _; omega⟩

theorem Room.depth {k : Nat} {A : Around} (r : Room k A) : A.depth < recursionLimit := by have := r.dp; omega
theorem Room.units {k : Nat} {A : Around} (r : Room k A) : A.units + 64 < cLine := by have := r.un; omega

/-! ### argument lists and displays -/
def tNil : TA := fun _ H Q => Q [] H
def tCons (ta : TE) (tr : TA) : TA := fun σ H Q => ta σ H fun x H1 => tr σ H1 fun xs H2 => Q (x :: xs) H2
section
variable {X : Cx} {e : Expr} {es : List Expr} {te : TE} {t : TA} {pos : Pos}
theorem pa_nil : PA X [] tNil := fun _ _ _ _ H Q I h => Calls.spliced_nil ⟨[], H, I, .nil, h⟩
theorem pa_cons (ha : PE X e te) (hr : PA X es t) (hs : starEach (e :: es) X.env = (false, eval e X.env) :: starEach es X.env := by rfl) : PA X (e :: es) (tCons te t) := by
  intro pos pins s σ H Q I h
  rw [hs]
  show wpAny _ _ (spliced ((false, eval e X.env) :: backTo pos (starEach es X.env))) _ _ s
  refine Calls.spliced_cons (thn (ha pins s σ H _ I h) fun u s1 ⟨x, H1, I1, r1, q1⟩ => ?_)
  exact thn (hr pos pins s1 σ H1 _ I1 q1) fun us s2 ⟨xs, H2, I2, r2, q2⟩ => ⟨x :: xs, H2, I2, .cons r1 r2, q2⟩

/-- a tuple, a list of written items -/
def tTup (t : TA) : TE := fun σ H Q => t σ H fun xs H1 => xs.length ≤ sizeLine ∧ ∀ p, H1 p = none → Q (.ref p) (upd H1 p (.tup xs))
def tLst (t : TA) : TE := fun σ H Q => t σ H fun xs H1 => xs.length ≤ sizeLine ∧ ∀ p, H1 p = none → Q (.ref p) (upd H1 p (.lst xs))
theorem pe_tup {x1} (h : PA X es t) : PE X (.Tuple es x1 pos) (tTup t) := by
  intro pins s σ H Q I hq
  refine wpAny_Tuple_spliced (thn (h pos pins s σ H _ I hq) fun us s1 ⟨xs, H1, I1, r, z, q⟩ => ⟨by rw [← r.length]; exact z, ?_⟩)
  have hf : H1 s1.heap.objs.size = none := I1.hok.fresh (Nat.le_refl _)
  refine ⟨.ref s1.heap.objs.size, upd H1 s1.heap.objs.size (.tup xs), I1.laid (t' := s1.toks) (fun b u e => Heap.get?_push_of_some _ e) (Nat.le_refl _) ?_, rfl, q _ hf⟩
  exact ⟨z, us, r, ⟨_, Heap.get?_push_size _ rfl, rfl, _, rfl⟩⟩
theorem pe_lst (h : PA X es t) : PE X (.List es pos) (tLst t) := by
  intro pins s σ H Q I hq
  refine wpAny_List_spliced (thn (h pos pins s σ H _ I hq) fun us s1 ⟨xs, H1, I1, r, z, q⟩ => ⟨by rw [← r.length]; exact z, ?_⟩)
  have hf : H1 s1.heap.objs.size = none := I1.hok.fresh (Nat.le_refl _)
  refine ⟨.ref s1.heap.objs.size, upd H1 s1.heap.objs.size (.lst xs), I1.laid (t' := s1.toks) (fun b u e => Heap.get?_push_of_some _ e) (Nat.le_refl _) ?_, rfl, q _ hf⟩
  exact ⟨z, us, 0, r, Heap.get?_push_size _ rfl⟩
end

/-! ### what a def promises -/
/-- a def's promise: the bound arguments in the parameters' order, the heap, the wanted end, the wanted exception -/
abbrev Sp := List V → Hp → VK → XK → Prop
/-- how an exception lies behind a call (file 08 gives it): the callers' frames, abstract heap and state ahead of the call, the wish, the exception, the state -/
abbrev CXT := List Env → Hp → Shared → XK → Value → Shared → Prop

/-- the state at a call -/
structure Env0 (P : Program) (w : World) (K : PySem.W.Frag) (mg : Str → Option Value) (base : Heap) (A : Around) (outer : List Env) (s : Shared) (H : Hp) : Prop where
  frames : A.frames = some outer
  mod : Mod K mg base
  bs : ∀ b o, base.get? b = some o → s.heap.get? b = some o ∧ H b = none
  bsz : base.objs.size ≤ s.heap.objs.size
  funs : s.heap.FunFrames base outer
  frf : ∀ b ∈ frs outer, H b = none
  hok : HOk P w H s.heap
  bare : AllBare s.gens
/-- a call's end -/
def CE (outer : List Env) (P : Program) (w : World) (H : Hp) (s : Shared) (Q : VK) (u : Value) (s' : Shared) : Prop :=
  ∃ v H', s'.os = s.os ∧ AllBare s'.gens ∧ Un (frs outer) [] H H' s.heap s'.heap ∧ HOk P w H' s'.heap ∧ RelV v u ∧ Q v H'
def CR (CX : CXT) (outer : List Env) (P : Program) (w : World) (H : Hp) (s : Shared) (Q : VK) (E : XK) (r : Result) (s' : Shared) : Prop :=
  match r with
  | .ok (.ret u) => CE outer P w H s Q u s'
  | .ok _ => False
  | .error e => CX outer H s E e s'
structure FnOk (P : Program) (w : World) (K : PySem.W.Frag) (mg : Str → Option Value) (base : Heap) (CX : CXT) (k : Nat) (f : Addr) (fd : FuncData) (ps : List Str) (sp : Sp) : Prop where
  len : ∀ vs H Q E, sp vs H Q E → vs.length = ps.length
  run : ∀ (A : Around) (outer : List Env) (s : Shared) (H : Hp) (args : Args) (us : List Value) (vs : List V) (Q : VK) (E : XK), Room k A → Env0 P w K mg base A outer s H → BindsTo s fd args (ps.zip us) → Vals vs us → sp vs H Q E →
    codeAny (model P w) A (.call (.ref f) args) (CR CX outer P w H s Q E) s

section
variable {X : Cx} {pins : List (Addr × Obj)} {σ : St} {H : Hp} {s s' : Shared}
/-- from a body: what a callee wants -/
theorem Inv.env0 (I : Inv X pins σ H s) : Env0 X.prog X.w X.K X.mg X.base X.A X.stack s H :=
  ⟨I.ok.frames, I.ok.mod, I.bs, Nat.le_trans I.ok.bsz I.sz, I.stack, I.stkFree, I.hok, I.bare⟩
/-- behind a call -/
theorem Inv.after {Q : VK} {u : Value} (I : Inv X pins σ H s) (h : CE X.stack X.prog X.w H s Q u s') : EP X pins σ Q u s' := by
  obtain ⟨v, H', os, bare, un, hok, r, q⟩ := h
  obtain ⟨hh, g, d, t, os'⟩ := s'
  obtain rfl : os' = s.os := os
  exact ⟨v, H', I.call (h' := hh) (g' := g) (d' := d) (t' := t) (ch := []) un hok bare (fun b z => absurd z (by simp)), r, q⟩
end

/-! ### calls -/
/-- f(..): the written arguments, then the defaults dvs; E: what is wanted of an exception -/
def tCall (sp : Sp) (dvs : List V) (E : XK) (t : TA) : TE := fun σ H Q => t σ H fun vs H1 => sp (vs ++ dvs) H1 Q E

/-- how the parameters are bound: us the positional arguments, kw the keywords' values by name, ds the defaults that fill up -/
def Binds (K : PySem.W.Frag) (fd : FuncData) (ps : List Str) (ds : List Value) : Prop :=
  ∀ (s : Shared) (us : List Value), K.In s.heap → (us ++ ds).length = ps.length → BindsTo s fd ⟨us, []⟩ (ps.zip (us ++ ds))
/-- every parameter is given -/
theorem Binds.all {K : PySem.W.Frag} {fd : FuncData} {ps : List Str} (h : ∀ us : List Value, us.length = ps.length → bindArgs fd ⟨us, []⟩ = pure (ps.zip us)) : Binds K fd ps [] := fun s us _ hl => by
  rw [List.append_nil] at hl ⊢
  exact .of_eq (h us hl)

/-- an exception of a callee reaches what this body wants of exceptions -/
def Passes (CX : CXT) (X : Cx) (E : XK) : Prop := ∀ (pins : List (Addr × Obj)) (σ : St) (H : Hp) (s : Shared) (e : Value) (s' : Shared), Inv X pins σ H s → CX X.stack H s E e s' → X.xe e s'

section
variable {X : Cx} {CX : CXT} {k : Nat} {f C : Addr} {fd : FuncData} {ps : List Str} {sp : Sp} {dvs : List V} {ds : List Value} {E : XK} {x m : Str} {p pos apos : Pos} {e o : Expr} {es : List Expr} {ta : TE} {t : TA}

/-- the callee runs -/
theorem run_fn {pins : List (Addr × Obj)} {σ : St} {H : Hp} {s : Shared} {Q : VK} {us : List Value} {vs : List V} (F : FnOk X.prog X.w X.K X.mg X.base CX k f fd ps sp) (hr : Room k X.A) (hb : Binds X.K fd ps ds) (hd : Vals dvs ds) (hx : Passes CX X E)
    (I : Inv X pins σ H s) (r : Vals vs us) (h : sp (vs ++ dvs) H Q E) : wpAny (model X.prog X.w) X.A (call (.ref f) us) (EP X pins σ Q) X.xe s := by
  have r2 : Vals (vs ++ dvs) (us ++ ds) := r.append hd
  have hl : (us ++ ds).length = ps.length := by rw [← r2.length]; exact F.len _ _ _ _ h
  refine wpAny_call (codeAny_mono (F.run X.A X.stack s H ⟨us, []⟩ (us ++ ds) (vs ++ dvs) Q E hr I.env0 (hb s us I.kIn hl) r2 h) fun r s' hq => ?_)
  cases r with
  | error e => exact hx pins σ H s e s' I hq
  | ok fl =>
    cases fl with
    | ret u => exact I.after hq
    | next => exact False.elim hq
    | brk => exact False.elim hq
    | cont => exact False.elim hq

theorem pe_call (F : FnOk X.prog X.w X.K X.mg X.base CX k f fd ps sp) (hr : Room k X.A) (hg : Gl X x) (hm : X.mg x = some (.ref f)) (hk : PySem.W.keepIn X.K (.ref f) = true) (hb : Binds X.K fd ps ds) (hd : Vals dvs ds) (hx : Passes CX X E)
    (ha : PA X (e :: es) t) (hdb : (x == ("__debug__" : Str)) = false := by decide) (he : starEach (e :: es) X.env = (false, eval e X.env) :: starEach es X.env := by rfl) (hpl : (backTo pos (starEach es X.env)).any (·.1) = false := by rfl) :
    PE X (.Call (.Name x p) (e :: es) [] pos) (tCall sp dvs E t) := by
  intro pins s σ H Q I h
  refine wpAny_Call_Name_kw (ld_glob I hg hm ?_ hdb)
  refine PySem.W.callWith_K (h₀ := X.base) I.ok.mod.kin hk (thn (ha pos pins s σ H _ I h) fun us s1 ⟨vs, H1, I1, r, q⟩ => ⟨I1.kIn, ?_⟩) he hpl
  exact run_fn F hr hb hd hx I1 r q

end

/-! ### keywords -/
/-- the values of the keywords, from the left -/
def PK (X : Cx) (kws : List Keyword) (t : TA) : Prop :=
  ∀ (pos : Pos) (pins : List (Addr × Obj)) (s : Shared) (σ : St) (H : Hp) (Q : List V → Hp → Prop), Inv X pins σ H s → t σ H Q → wpAny (model X.prog X.w) X.A (evalAll ((backToKw pos (keywordEach kws X.env)).map (·.2))) (AP X pins σ Q) X.xe s
section
variable {X : Cx} {CX : CXT} {k : Nat} {f C : Addr} {fd : FuncData} {ps ks : List Str} {sp : Sp} {E : XK} {x m : Str} {p pos apos kpos : Pos} {e o : Expr} {es : List Expr} {kws : List Keyword} {te ta : TE} {t tk : TA} {nm : Option Str}
theorem pk_nil : PK X [] tNil := fun _ _ _ _ H Q I h => wpAny_evalAll_nil ⟨[], H, I, .nil, h⟩
theorem pk_cons (ha : PE X e te) (hr : PK X kws t) : PK X (⟨nm, e, kpos⟩ :: kws) (tCons te t) := by
  intro pos pins s σ H Q I h
  show wpAny _ _ (evalAll ((do let v ← eval e X.env; standAt pos; pure v) :: (backToKw pos (keywordEach kws X.env)).map (·.2))) _ _ s
  refine wpAny_evalAll_cons (wpAny_bind (thn (ha pins s σ H _ I h) fun u s1 ⟨x, H1, I1, r1, q1⟩ => wpAny_bind (wpAny_standAt (wpAny_pure ?_))))
  exact thn (hr pos pins s1 σ H1 _ I1 q1) fun us s2 ⟨xs, H2, I2, r2, q2⟩ => ⟨x :: xs, H2, I2, .cons r1 r2, q2⟩

variable {g : List Value → List Value → List Value} {gV : List V → List V → List V}

end

/-! ### a def's body keeps its promise -/
/-- names: the parameters first -/
structure FnScope (N P : List Str) (sc : Scope) : Prop where
  kind : sc.kind = .function
  co : sc.isCoroutine = false
  gen : sc.isGenerator = false
  nd : N.Nodup
  pre : N.take P.length = P
  par : ∀ x ∈ P, sc.names.lookup x = some .local ∨ sc.names.lookup x = some .cell
  nofree : ∀ y ∈ sc.names, y.2 ≠ .free

theorem bindL_out {kindOf : Str → Option NameKind} {x : Str} : ∀ {binds : List (Str × Value)} {m : Str → Option Value}, (∀ v, (x, v) ∉ binds) → bindL kindOf binds m x = m x
  | [], _, _ => rfl
  | (n, v) :: r, m, h => by
    unfold bindL
    rw [bindL_out fun w hw => h w (List.mem_cons_of_mem _ hw)]
    split
    · have : x ≠ n := by rintro rfl; exact h v List.mem_cons_self
      simp [this]
    · rfl
theorem bindC_out {kindOf : Str → Option NameKind} {x : Str} : ∀ {binds : List (Str × Value)} {m : Str → Option Value}, (∀ v, (x, v) ∉ binds) → bindC kindOf binds m x = m x
  | [], _, _ => rfl
  | (n, v) :: r, m, h => by
    unfold bindC
    rw [bindC_out fun w hw => h w (List.mem_cons_of_mem _ hw)]
    split
    · rfl
    · have : x ≠ n := by rintro rfl; exact h v List.mem_cons_self
      simp [this]
theorem bindL_get {kindOf : Str → Option NameKind} {x : Str} {v : Value} : ∀ {P : List Str} {vs : List Value} {i : Nat} {m : Str → Option Value}, P.Nodup → P[i]? = some x → vs[i]? = some v → kindOf x = some .local →
    bindL kindOf (P.zip vs) m x = some v
  | [], _, _, _, _, h, _, _ => by simp at h
  | _ :: _, [], _, _, _, _, h, _ => by simp at h
  | p :: P, w :: vs, 0, m, nd, h1, h2, hk => by
    simp at h1 h2; subst h1; subst h2
    show bindL kindOf ((p, w) :: P.zip vs) m p = _
    unfold bindL
    rw [bindL_out fun v hv => (List.nodup_cons.mp nd).1 (List.of_mem_zip hv).1, if_pos hk]
    simp
  | p :: P, w :: vs, i + 1, m, nd, h1, h2, hk => by
    show bindL kindOf ((p, w) :: P.zip vs) m x = _
    unfold bindL
    exact bindL_get (i := i) (List.nodup_cons.mp nd).2 (by simpa using h1) (by simpa using h2) hk
theorem bindC_get {kindOf : Str → Option NameKind} {x : Str} {v : Value} : ∀ {P : List Str} {vs : List Value} {i : Nat} {m : Str → Option Value}, P.Nodup → P[i]? = some x → vs[i]? = some v → kindOf x ≠ some .local →
    bindC kindOf (P.zip vs) m x = some v
  | [], _, _, _, _, h, _, _ => by simp at h
  | _ :: _, [], _, _, _, _, h, _ => by simp at h
  | p :: P, w :: vs, 0, m, nd, h1, h2, hk => by
    simp at h1 h2; subst h1; subst h2
    show bindC kindOf ((p, w) :: P.zip vs) m p = _
    unfold bindC
    rw [bindC_out fun v hv => (List.nodup_cons.mp nd).1 (List.of_mem_zip hv).1, if_neg hk]
    simp
  | p :: P, w :: vs, i + 1, m, nd, h1, h2, hk => by
    show bindC kindOf ((p, w) :: P.zip vs) m x = _
    unfold bindC
    exact bindC_get (i := i) (List.nodup_cons.mp nd).2 (by simpa using h1) (by simpa using h2) hk

/-- the names' values at the entry -/
def start (N : List Str) (vs : List V) : St := vs.map some ++ List.replicate (N.length - vs.length) none

/-- the context of a def's body, at its entry; an exception leaves the frame, then lies as CX says -/
def cxOf (CX : CXT) (P : Program) (w : World) (K : PySem.W.Frag) (mg : Str → Option Value) (base : Heap) (N : List Str) (qual : Str) (scope : Scope) (f : Addr) (cd : Value) (A : Around) (outer : List Env) (s : Shared) (H : Hp) (E : XK) : Cx where
  prog := P
  w := w
  K := K
  mg := mg
  base := base
  A := A.deeper (envOfC qual scope s.heap.objs.size f cd)
  N := N
  s_0 := s
  H_0 := H
  env := envOfC qual scope s.heap.objs.size f cd
  outer := outer
  stack := envOfC qual scope s.heap.objs.size f cd :: outer
  ex := []
  calm := true
  fn := fun _ => true
  pn := []
  xe := fun e s' => wpAny (model P w) (A.deeper (envOfC qual scope s.heap.objs.size f cd)) (leaving (envOfC qual scope s.heap.objs.size f cd) e) (fun _ s'' => CX outer H s E e s'') (fun e' s'' => CX outer H s E e' s'') s'

theorem cell_has {sc : Scope} {n : Nat} {x : Str} (h : sc.names.lookup x = some .cell) : ∃ c, (cellsFrom n sc.names []).lookup x = some c := by
  have q := PySem.W.cellsFrom_some sc.names n [] (.inl h)
  exact Option.isSome_iff_exists.mp q

theorem inv_start {CX : CXT} {P : Program} {w : World} {K : PySem.W.Frag} {mg : Str → Option Value} {base : Heap} {N ps : List Str} {qual : Str} {scope : Scope} {f : Addr} {cd : Value} {A : Around} {outer : List Env} {s s1 : Shared} {H : Hp} {E : XK} {us : List Value} {vs : List V}
    (S : FnScope N ps scope) (hd : A.handled = none) (e0 : Env0 P w K mg base A outer s H) (hl : vs.length = ps.length) (r : Vals vs us)
    (x : InCallC s s.heap.objs.size (bindL (envOfC qual scope s.heap.objs.size f cd).kindOf (ps.zip us) fun _ => none) (cellsFrom (s.heap.objs.size + 1) scope.names []) (bindC (envOfC qual scope s.heap.objs.size f cd).kindOf (ps.zip us) fun _ => none) s1) :
    Inv (cxOf CX P w K mg base N qual scope f cd A outer s H E) [] (start N vs) H s1 := by
  have hpl : ps.length ≤ N.length := by have := congrArg List.length S.pre; rw [List.length_take] at this; omega
  obtain ⟨h1, tk, rfl, hk⟩ := x.done
  have noA : ∀ b : Addr, b ∉ (cxOf CX P w K mg base N qual scope f cd A outer s H E).ex := fun b z => absurd (show b ∈ ([] : List Addr) from z) (by simp)
  refine ⟨⟨e0.mod, S.kind, rfl, rfl, Nat.le_refl _, fun y z c h1 h2 => ?_, fun y hy => ?_, fun y c _ h => ?_, fun _ => hd, Around.frames_deeper e0.frames, .inr ⟨rfl, rfl⟩, fun b z => absurd z (noA b), e0.bs, e0.bsz, fun b _ _ => noA b, fun b z => absurd z (noA b), e0.funs, e0.frf⟩,
    rfl, e0.bare, Un.kept hk, ⟨_, x.toInCall.ns, fun i y v h1 h2 h3 => ?_⟩, fun y c h => ⟨_, x.cell y c h⟩, e0.hok.fresh (Nat.le_refl _), fun y c h => ?_, fun p hp => absurd (show p ∈ ([] : List (Addr × Obj)) from hp) (by simp), e0.hok.kept hk, ?_⟩
  · exact name_of_addr x.apart (PySem.mem_of_lookup h1) (PySem.mem_of_lookup h2)
  · have hy : scope.names.lookup y = some .cell ∨ scope.names.lookup y = some .free := hy
    rcases hy with hy | hy
    · exact cell_has hy
    · exact absurd rfl (S.nofree _ (PySem.mem_of_lookup hy))
  · exact Nat.le_of_lt (x.above y c (PySem.mem_of_lookup h))
  · have hi : i < vs.length := by
      unfold start at h2
      by_cases hi : i < vs.length
      · exact hi
      · rw [List.getElem?_append_right (by simpa using hi)] at h2
        rw [List.getElem?_replicate] at h2
        split at h2 <;> cases h2
    have ha : vs[i]? = some v := by
      unfold start at h2
      rw [List.getElem?_append_left (by simpa using hi), List.getElem?_map] at h2
      cases e : vs[i]? with
      | none => rw [e] at h2; cases h2
      | some a => rw [e] at h2; cases h2; rfl
    obtain ⟨u, hu, rv⟩ := r.get ha
    have hp : ps[i]? = some y := by
      rw [← S.pre, List.getElem?_take_of_lt (by omega)]; exact h1
    have ndP : ps.Nodup := by rw [← S.pre]; exact S.nd.sublist (List.take_sublist _ _)
    refine ⟨u, rv, ?_⟩
    rcases S.par y (List.mem_of_getElem? hp) with k | k
    · exact .inl ⟨k, bindL_get ndP hp hu k⟩
    · obtain ⟨c, e⟩ := cell_has (n := s.heap.objs.size + 1) k
      refine .inr ⟨.inl k, c, e, ?_⟩
      have q := x.cell y c e
      rw [bindC_get ndP hp hu (by show scope.names.lookup y ≠ _; rw [k]; decide)] at q
      exact q
  · exact e0.hok.fresh (Nat.le_of_lt (x.above y c (PySem.mem_of_lookup h)))
  · unfold start
    show _ = N.length
    rw [List.length_append, List.length_map, List.length_replicate]
    omega

/-- THE RULE: a def (or a method) of the text, by its body. The body's reading t is chosen for each entry; it is run at the parameters' values -/
theorem fn_of {CX : CXT} {P : Program} {w : World} {K : PySem.W.Frag} {mg : Str → Option Value} {base : Heap} {k : Nat} {f : Addr} {name qual : Str} {params : Arguments} {body : List Stmt} {scope : Scope} {dV kV doc pm cdv ct oc : Value} {an od : Option Addr}
    {osl : Array (Option Value)} {N ps : List Str} {sp : Sp} (lk : K.lookup f = some ⟨oc, od, .func (PySem.W.fnOf name qual params body scope dV kV doc pm an cdv ct), osl⟩) (hcd : PySem.W.codeIn K cdv qual = true) (S : FnScope N ps scope)
    (len : ∀ vs H Q E, sp vs H Q E → vs.length = ps.length)
    (hbody : ∀ (A : Around) (outer : List Env) (s : Shared) (H : Hp) (vs : List V) (Q : VK) (E : XK), Room k (A.deeper (envOfC qual scope s.heap.objs.size f cdv)) → sp vs H Q E →
      ∃ t, PSs (cxOf CX P w K mg base N qual scope f cdv A outer s H E) body t ∧ t { nx := fun _ H' => Q .non H', rt := Q } (start N vs) H) :
    FnOk P w K mg base CX (k + 1) f (PySem.W.fnOf name qual params body scope dV kV doc pm an cdv ct) ps sp := by
  refine ⟨len, fun A outer s H args us vs Q E hr e0 hb r hsp => ?_⟩
  have hl := len _ _ _ _ hsp
  have KX : K.In s.heap := e0.mod.kin.keeps fun b o e => (e0.bs b o e).1
  have lim : s.heap.NoLimit := e0.mod.nolimit.keeps fun b o e => (e0.bs b o e).1
  have hkind : ∀ y ∈ ps.zip us, scope.names.lookup y.1 = some .local ∨ (scope.names.lookup y.1 = some .cell ∧ ((cellsFrom (s.heap.objs.size + 1) scope.names []).lookup y.1).isSome = true) := fun ⟨n, v⟩ hy => by
    rcases S.par n (List.of_mem_zip hy).1 with q | q
    · exact .inl q
    · exact .inr ⟨q, PySem.W.cellsFrom_some _ _ _ (.inl q)⟩
  refine codeAny_call_function hr.depth (KX _ _ lk) rfl S.co S.gen rfl (PySem.W.codeRec_of KX hcd) (hb _ _ _ _ ?_)
  refine wpAny_newFunctionEnv_cells S.kind hkind fun env he s1 x => ?_
  subst he
  refine ⟨lim.keeps x.toInCall.keep, codeAny_func ?_⟩
  obtain ⟨t, ht, hq⟩ := hbody A outer s H vs Q E (hr.deeper _) hsp
  have I : Inv (cxOf CX P w K mg base N qual scope f cdv A outer s H E) [] (start N vs) H s1 := inv_start S hr.hd e0 hl r x
  refine wpAny_mono (ht [] s1 (start N vs) H _ I hq) (fun fl s' hs => ?_) fun e s' hs => hs
  have fin : ∀ {σ' : St} {H' : Hp} {v : V} {u : Value}, Inv (cxOf CX P w K mg base N qual scope f cdv A outer s H E) [] σ' H' s' → RelV v u → Q v H' → CE outer P w H s Q u s' :=
    fun {σ' H' v u} J rv q => ⟨v, H', J.os, J.bare, J.base, J.hok, rv, q⟩
  cases fl with
  | ret u =>
    obtain ⟨v, σ', H', J, rv, q⟩ := hs
    exact fin J rv q
  | next =>
    obtain ⟨σ', H', J, q⟩ := hs
    exact fin (v := V.non) (u := Value.none) J rfl q
  | brk =>
    obtain ⟨_, _, _, q⟩ := hs
    exact False.elim q
  | cont =>
    obtain ⟨_, _, _, q⟩ := hs
    exact False.elim q
end L2

namespace L2
open PySem PySem.Spec PyProof.Rows
section
variable {X : Cx} {x : Str} {p pos : Pos} {e : Expr} {es : List Expr} {t : TA} {id T : String} {r : List V → Hp → VK → Prop}

def tCB (r : List V → Hp → VK → Prop) (t : TA) : TE := fun σ H Q => t σ H fun vs H1 => r vs H1 Q
/-- f(e, ..), f a built-in function -/
theorem pe_callB (hc : CallR X (.builtin id) r) (hg : Gl X x) (hm : X.mg x = none) (hv : bootBuiltins x = some (.builtin id)) (ha : PA X (e :: es) t) (hn : x ≠ "__name__" := by decide) (hdb : (x == ("__debug__" : Str)) = false := by decide)
    (he : starEach (e :: es) X.env = (false, eval e X.env) :: starEach es X.env := by rfl) (hpl : (backTo pos (starEach es X.env)).any (·.1) = false := by rfl) : PE X (.Call (.Name x p) (e :: es) [] pos) (tCB r t) := by
  intro pins s σ H Q I h
  refine wpAny_Call_Name_kw (ld_blt I hg hm hv ?_ hn hdb)
  exact PyProof.Rows.callWith_builtin1 (thn (ha pos pins s σ H _ I h) fun us s1 ⟨vs, H1, I1, r1, q1⟩ => hc pins s1 σ H1 vs us Q I1 r1 q1) he hpl

end
end L2

namespace HT
open PySem PyProof.Rows

section
open PySem.SeqAt
open PySem.AutoSeq1 (wpAny_loadPart')
open PySem.MeetsSeq PySem.MeetsSeq2 PySem.MeetsSeq3

end

section
variable {prog : Program} {w : World} {A : Around} {E : Value → Shared → Prop} {s : Shared}

/-! ### t[a:b], not the whole -/
/-- a slice's bound as a place among n (d where it is left out) -/
def sIx (n d : Nat) : Option Int → Nat
  | none => d
  | some v => if v < 0 then (v + (n : Int)).toNat else min v.toNat n
theorem sIx_none (n d : Nat) : sIx n d none = d := rfl
theorem sIx_nat (n d k : Nat) : sIx n d (some (k : Int)) = min k n := by
  show (if (k : Int) < 0 then ((k : Int) + (n : Int)).toNat else min (k : Int).toNat n) = min k n
  rw [if_neg (by omega), Int.toNat_natCast]

end
end HT

namespace L2
open PySem PySem.Spec PyProof.Rows

/-! ### the parts of a slice -/
abbrev TO := St → Hp → (Option Int → Hp → Prop) → Prop
/-- a slice's part (left out, or an int) -/
def PO (X : Cx) (e : Option Expr) (t : TO) : Prop :=
  ∀ (pins : List (Addr × Obj)) (s : Shared) (σ : St) (H : Hp) (Q : Option Int → Hp → Prop), Inv X pins σ H s → t σ H Q →
    wpAny (model X.prog X.w) X.A (evalPart e X.env) (fun u s' => ∃ o H', Inv X pins σ H' s' ∧ IsPart u o ∧ Q o H') X.xe s
def tNoPart : TO := fun _ H Q => Q none H
def tPart (t : TE) : TO := fun σ H Q => t σ H fun x H1 => ∃ i, x = .int i ∧ Q (some i) H1

section
variable {X : Cx} {e : Expr} {te : TE} {lo hi : Option Expr} {tl th : TO} {pos p2 : Pos}

theorem po_none : PO X none tNoPart := by
  intro pins s σ H Q I h
  rw [evalPart_none]
  exact wpAny_pure ⟨none, H, I, .none, h⟩
theorem po_some (h : PE X e te) : PO X (some e) (tPart te) := by
  intro pins s σ H Q I hw
  rw [evalPart_some]
  refine thn (h pins s σ H _ I hw) fun u s1 ⟨x, H1, I1, r1, q1⟩ => ?_
  obtain ⟨i, rfl, q⟩ := q1
  obtain ⟨t, rfl⟩ := r1
  exact ⟨some i, H1, I1, .int i t, q⟩

/-- what a slice of a value is, by values: the slice object stands at sl -/
def SlR (X : Cx) (r : V → Option Int → Option Int → Hp → VK → Prop) : Prop :=
  ∀ (pins : List (Addr × Obj)) (s : Shared) (σ : St) (H : Hp) (x : V) (v vl vu : Value) (lo hi : Option Int) (sl : Addr) (Q : VK), Inv X pins σ H s → RelV x v → s.heap.IsSliceOf sl vl vu .none → IsPart vl lo → IsPart vu hi → r x lo hi H Q →
    ∃ T id, typeLookup (.type T) "__getitem__" = pure (some (.builtin id)) ∧ s.TypeIs v T ∧ wpAny (model X.prog X.w) X.A (getItem v (.ref sl)) (EP X pins σ Q) X.xe s

def tSl (r : V → Option Int → Option Int → Hp → VK → Prop) (te : TE) (tl th : TO) : TE := fun σ H Q => te σ H fun x H1 => tl σ H1 fun l H2 => th σ H2 fun u H3 => r x l u H3 Q
/-- a[lo:hi], any a -/
theorem pe_slice {r : V → Option Int → Option Int → Hp → VK → Prop} (hr : SlR X r) (he : PE X e te) (hl : PO X lo tl) (hu : PO X hi th) : PE X (.Subscript e (.Slice lo hi none p2) pos) (tSl r te tl th) := by
  intro pins s σ H Q I h
  refine Subscript_ (thn (he pins s σ H _ I h) fun v s1 ⟨x, H1, I1, r1, q1⟩ => ?_)
  refine wpAny_Slice (thn (hl pins s1 σ H1 _ I1 q1) fun vl s2 ⟨l, H2, I2, pl, q2⟩ => thn (hu pins s2 σ H2 _ I2 q2) fun vu s3 ⟨u, H3, I3, pu, q3⟩ => ?_)
  rw [evalPart_none]
  refine wpAny_pure ?_
  have I4 : Inv X pins σ H3 { s3 with heap := s3.heap.push { cls := .type "slice", data := .fields #[vl, vu, .none] } } := I3.kept (t' := s3.toks) fun b ob q => Heap.get?_push_of_some _ q
  obtain ⟨T, id, hT, ht, hg⟩ := hr pins { s3 with heap := s3.heap.push { cls := .type "slice", data := .fields #[vl, vu, .none] } } σ H3 x v vl vu l u s3.heap.objs.size Q I4 r1 (Heap.IsSliceOf.new ..) pl pu q3
  show wpAny (model X.prog X.w) X.A (subscriptTail e (.Slice lo hi none p2) v (.ref s3.heap.objs.size)) (EP X pins σ Q) X.xe { s3 with heap := s3.heap.push { cls := .type "slice", data := .fields #[vl, vu, .none] } }
  exact tail_any (ops := [.ref s3.heap.objs.size, v]) ht hT hg (by with_unfolding_all rfl)

/-- the items of xs[lo:hi] -/
def cutV (xs : List V) (lo hi : Option Int) : List V := (xs.drop (HT.sIx xs.length 0 lo)).take (HT.sIx xs.length xs.length hi - HT.sIx xs.length 0 lo)
theorem cutV_length (xs : List V) (lo hi : Option Int) : (cutV xs lo hi).length ≤ xs.length := by
  unfold cutV
  rw [List.length_take, List.length_drop]
  omega

/-! ### t < u, t + u -/

end
end L2

namespace L2
open PySem PySem.Spec PyProof.Rows

/-! ### places -/
/-- the place that an index of any sign means -/
def ixN (n : Nat) (i : Int) : Option Nat := if 0 ≤ i then (if i < n then some i.toNat else none) else if -(n : Int) ≤ i then some (i + n).toNat else none
def atI {α : Type} (xs : List α) (i : Int) : Option α := (ixN xs.length i).bind fun j => xs[j]?
theorem ixN_seq {n : Nat} {i : Int} {j : Nat} (h : ixN n i = some j) : seqIndex? i n = some j ∧ j < n ∧ -(n : Int) ≤ i ∧ i < n := by
  unfold ixN at h
  by_cases h0 : 0 ≤ i
  · rw [if_pos h0] at h
    by_cases h1 : i < n
    · rw [if_pos h1] at h
      have e : i.toNat = j := Option.some.inj h
      exact ⟨by rw [seqIndex_of h0 h1, e], by omega, by omega, h1⟩
    · rw [if_neg h1] at h; cases h
  · rw [if_neg h0] at h
    by_cases h1 : -(n : Int) ≤ i
    · rw [if_pos h1] at h
      have e : (i + n).toNat = j := Option.some.inj h
      exact ⟨by rw [seqIndex_neg (by omega) h1, e], by omega, h1, by omega⟩
    · rw [if_neg h1] at h; cases h
theorem atI_get {α : Type} {xs : List α} {i : Int} {v : α} (h : atI xs i = some v) : ∃ j, seqIndex? i xs.length = some j ∧ xs[j]? = some v ∧ j < xs.length ∧ -(xs.length : Int) ≤ i ∧ i < xs.length := by
  unfold atI at h
  cases e : ixN xs.length i with
  | none => rw [e] at h; cases h
  | some j =>
    rw [e] at h
    obtain ⟨h1, h2, h3, h4⟩ := ixN_seq e
    exact ⟨j, h1, h, h2, h3, h4⟩
theorem atI_nat {α : Type} {xs : List α} {j : Nat} {v : α} (h : xs[j]? = some v) : atI xs (j : Int) = some v := by
  have hj : j < xs.length := (List.getElem?_eq_some_iff.mp h).1
  have e : ixN xs.length (j : Int) = some j := by
    unfold ixN
    rw [if_pos (by omega), if_pos (by omega)]; simp
  unfold atI; rw [e]; exact h

/-! ### what may be subscripted -/
/-- what stands as an index of a plain subscript -/
def PlainIx (b : Expr) : Prop := ∀ o i, subscripted b false o i = operate [o, i] (getItem o i)
/-- a subscript by values -/
def IxR (X : Cx) (r : R2) : Prop :=
  ∀ (value slice : Expr) (pins : List (Addr × Obj)) (s : Shared) (σ : St) (H : Hp) (x y : V) (v u : Value) (Q : VK), Inv X pins σ H s → RelV x v → RelV y u → r x y H Q →
    subscripted slice false v u = operate [v, u] (getItem v u) → wpAny (model X.prog X.w) X.A (subscriptTail value slice v u) (EP X pins σ Q) X.xe s
/-- a call of a builtin's method by values: the receiver, the arguments -/
def MtR (X : Cx) (id : String) (r : V → List V → Hp → VK → Prop) : Prop :=
  ∀ (pins : List (Addr × Obj)) (s : Shared) (σ : St) (H : Hp) (x : V) (xs : List V) (v : Value) (us : List Value) (Q : VK), Inv X pins σ H s → RelV x v → Vals xs us → r x xs H Q →
    wpAny (model X.prog X.w) X.A (call (.builtin id) (v :: us)) (EP X pins σ Q) X.xe s
section
variable {X : Cx} {a b : Expr} {ta tb : TE} {pos : Pos}

/-- a[b] -/
theorem pe_ix {r : R2} (hr : IxR X r) (ha : PE X a ta) (hb : PE X b tb) (hs : PlainIx b) : PE X (.Subscript a b pos) (tOp r ta tb) := by
  intro pins s σ H Q I h
  exact Subscript_ (binT ha hb I h fun v u s2 x y H2 I2 rx ry q => hr a b pins s2 σ H2 x y v u Q I2 rx ry q (hs _ _))

def rIxL (K : PySem.W.Frag) : R2 := fun x y H Q => ∃ p xs i v, x = .ref p ∧ y = .int i ∧ SqL K H p xs ∧ atI xs i = some v ∧ Q v H
def rIxT (K : PySem.W.Frag) : R2 := fun x y H Q => ∃ p xs i v, x = .ref p ∧ y = .int i ∧ SqT K H p xs ∧ atI xs i = some v ∧ Q v H

theorem ix_list : IxR X (rIxL X.K) := by
  intro value slice pins s σ H x y v u Q I rx ry h hs
  obtain ⟨p, xs, i, z, rfl, rfl, hq, he, q⟩ := h
  cases rx
  obtain ⟨t, rfl⟩ := ry
  obtain ⟨its, r, pl, hz⟩ := I.list hq
  obtain ⟨j, h1, h2, h3, h4, h5⟩ := atI_get he
  obtain ⟨w, ew, rw'⟩ := r.get h2
  have hl := r.length
  have hn := line63
  have fin : EP X pins σ Q w s := ⟨z, H, I, rw', q⟩
  by_cases h0 : 0 ≤ i
  · have hj : i.toNat = j := by
      rw [seqIndex_of h0 h5] at h1
      exact Option.some.inj h1
    exact item_listR pl.isList h0 (by omega) (by rw [hj]; simpa using ew) fin hs
  · have hj : (i + (its.toArray.size : Int)).toNat = j := by
      rw [seqIndex_neg (by omega) h4] at h1
      rw [List.size_toArray, ← hl]
      exact Option.some.inj h1
    exact subscriptTail_builtinR (x := w) pl.isList.typeIs slot_list_getitem.lookup
      (wpAny_getItem_list_neg (Q := fun r s' => r = w ∧ EP X pins σ Q r s') pl.isList (by omega) (by rw [List.size_toArray] <;> omega) (by omega) (by rw [hj]; simpa using ew) ⟨rfl, fin⟩) hs
theorem ix_tup : IxR X (rIxT X.K) := by
  intro value slice pins s σ H x y v u Q I rx ry h hs
  obtain ⟨p, xs, i, z, rfl, rfl, hq, he, q⟩ := h
  cases rx
  obtain ⟨t, rfl⟩ := ry
  obtain ⟨its, r, pl, hz⟩ := I.tuple hq
  obtain ⟨j, h1, h2, h3, h4, h5⟩ := atI_get he
  obtain ⟨w, ew, rw'⟩ := r.get h2
  have hl := r.length
  have hn := line63
  have fin : EP X pins σ Q w s := ⟨z, H, I, rw', q⟩
  exact subscriptTail_builtinR (x := w) pl.typeIs slot_tuple_getitem.lookup
    (getItem_tuple (j := j) (Q := fun r s' => r = w ∧ EP X pins σ Q r s') pl (by omega) (by omega) (by rw [List.size_toArray, ← hl]; exact h1) (by simpa using ew) ⟨rfl, fin⟩) hs

/-! ### xs[i] = v, any sign -/
/-- the list's object behind a store -/
theorem mapSeq_set (its : List Value) (n j : Nat) (u : Value) : Obj.mapSeq (·.setIfInBounds j u) { cls := .type "list", data := .seq its.toArray n } = { cls := .type "list", data := .seq (its.set j u).toArray n } := by
  simp [Obj.mapSeq]
theorem Inv.lst {pins : List (Addr × Obj)} {σ : St} {H : Hp} {s : Shared} {p : Addr} {xs : List V} (I : Inv X pins σ H s) (h : H p = some (.lst xs)) :
    ∃ (its : List Value) (n : Nat), Vals xs its ∧ s.heap.get? p = some { cls := .type "list", data := .seq its.toArray n } ∧ xs.length ≤ sizeLine := by
  obtain ⟨z, its, n, r, e⟩ := I.hok p _ h
  exact ⟨its, n, r, e, z⟩
/-- the list at p is written by an update of its object -/
theorem Inv.lstUpd {pins : List (Addr × Obj)} {σ : St} {H : Hp} {s : Shared} {p : Addr} {xs ys : List V} {its its' : List Value} {n n' : Nat} {f : Obj → Obj} (I : Inv X pins σ H s) (h : H p = some (.lst xs))
    (ho : s.heap.get? p = some { cls := .type "list", data := .seq its.toArray n }) (hf : f { cls := .type "list", data := .seq its.toArray n } = { cls := .type "list", data := .seq its'.toArray n' }) (r : Vals ys its') (hz : ys.length ≤ sizeLine) (t : Nat) :
    Inv X pins σ (upd H p (.lst ys)) { s with heap := s.heap.update p f, toks := t } := by
  have e : (s.heap.update p f).get? p = some { cls := .type "list", data := .seq its'.toArray n' } := by
    rw [Heap.get?_update_self f ho (by rw [hf] <;> rfl), hf]
  refine I.write (x := p) (e := p) (by rw [h]; trivial) (.inl rfl) (fun b u hb q => (Heap.get?_update_other _ _ (Ne.symm hb)).trans q) ⟨_, e⟩ ?_
  exact ⟨hz, its', n', r, e⟩
def rSetL : V → V → V → Hp → (Hp → Prop) → Prop := fun o i v H Q => ∃ p xs k j, o = .ref p ∧ i = .int k ∧ H p = some (.lst xs) ∧ ixN xs.length k = some j ∧ Q (upd H p (.lst (xs.set j v)))
theorem set_list : PSet X rSetL := by
  intro pins s σ H o i v ov iv u Q I ro ri rv h
  obtain ⟨p, xs, k, j, rfl, rfl, hp, hj, q⟩ := h
  cases ro
  obtain ⟨t, rfl⟩ := ri
  obtain ⟨its, n, r, ho, hz⟩ := I.lst hp
  obtain ⟨h1, h2, h3, h4⟩ := ixN_seq hj
  have hl := r.length
  have hn := line63
  have I' : Inv X pins σ (upd H p (.lst (xs.set j v))) { s with heap := s.heap.update p (Obj.mapSeq (·.setIfInBounds j u)) } :=
    I.lstUpd hp ho (mapSeq_set its n j u) (r.set rv j) (by rw [List.length_set]; exact hz) s.toks
  by_cases h0 : 0 ≤ k
  · have hk : k.toNat = j := by
      rw [seqIndex_of h0 h4] at h1
      exact Option.some.inj h1
    exact PySem.W.ki_setAt ho h0 (by omega) (by rw [List.size_toArray, ← hl]; exact h4) (by rw [hk]; exact ⟨_, I', q⟩)
  · have hk : (k + (its.toArray.size : Int)).toNat = j := by
      rw [seqIndex_neg (by omega) h3] at h1
      rw [List.size_toArray, ← hl]
      exact Option.some.inj h1
    exact PySem.W.ki_setBack ho (by omega) (by rw [List.size_toArray, ← hl]; exact h3) (by omega) (by rw [hk]; exact ⟨_, I', q⟩)

/-! ### slices -/
theorem slice_bounds (lo hi : Option Int) (n : Nat) : (sliceBounds lo hi none n).1 = ((HT.sIx n 0 lo : Nat) : Int) ∧ (sliceBounds lo hi none n).2.1 = ((HT.sIx n n hi : Nat) : Int) ∧ (sliceBounds lo hi none n).2.2 = 1 := by
  refine ⟨?_, ?_, rfl⟩
  · cases lo with
    | none => simp [sliceBounds, HT.sIx]
    | some i =>
      simp only [sliceBounds, HT.sIx, Option.getD_none, show (1 : Int) > 0 by decide, if_true]
      by_cases h : i < 0
      · simp only [h, if_true] <;> omega
      · simp only [h, if_false] <;> omega
  · cases hi with
    | none => simp [sliceBounds, HT.sIx]
    | some i =>
      simp only [sliceBounds, HT.sIx, Option.getD_none, show (1 : Int) > 0 by decide, if_true]
      by_cases h : i < 0
      · simp only [h, if_true] <;> omega
      · simp only [h, if_false] <;> omega
theorem slicePick_cut (its : List Value) (lo hi : Option Int) : slicePick its.toArray lo hi none = ((its.drop (HT.sIx its.length 0 lo)).take (HT.sIx its.length its.length hi - HT.sIx its.length 0 lo)).toArray := by
  obtain ⟨h1, h2, h3⟩ := slice_bounds lo hi its.toArray.size
  unfold slicePick
  rw [h1, h2, h3]
  simp only [sliceRange_one, pick_run, List.size_toArray] <;> rfl
/-- xs[lo:hi] of a list: a new list -/
def rSlL (K : PySem.W.Frag) : V → Option Int → Option Int → Hp → VK → Prop := fun x lo hi H Q => ∃ a xs, x = .ref a ∧ SqL K H a xs ∧ ∀ p, H p = none → Q (.ref p) (upd H p (.lst (cutV xs lo hi)))
theorem sl_list : SlR X (rSlL X.K) := by
  intro pins s σ H x v vl vu lo hi sl Q I rx hs pl pu h
  obtain ⟨a, xs, rfl, hx, q⟩ := h
  cases rx
  obtain ⟨its, r, ht, hz⟩ := I.list hx
  have hlen := r.length
  refine ⟨"list", _, slot_list_getitem.lookup, ht.isList.typeIs, ?_⟩
  refine wpAny_getItem_list_slice ht.isList hs pl pu .none (by simp) ?_ (by rw [List.size_toArray] <;> omega)
  rw [slicePick_cut, ← hlen]
  refine ⟨.ref s.heap.objs.size, _, I.laid (t' := s.toks) (o := .lst (cutV xs lo hi)) (fun b ob q => Heap.get?_push_of_some _ q) (Nat.le_refl _) ?_, rfl, q _ (I.hok.fresh (Nat.le_refl _))⟩
  exact ⟨Nat.le_trans (cutV_length xs lo hi) hz, _, 0, (r.drop (HT.sIx xs.length 0 lo)).take (HT.sIx xs.length xs.length hi - HT.sIx xs.length 0 lo), Heap.get?_push_size _ rfl⟩

/-! ### in, not in: flat items -/
def flatV : V → Bool
  | .non => true
  | .bl _ => true
  | .int _ => true
  | .str _ => true
  | _ => false
/-- == of flat values -/
def eqV : V → V → Bool
  | .non, .non => true
  | .bl a, .bl b => a == b
  | .bl a, .int b => (if a then 1 else 0) == b
  | .int a, .bl b => a == (if b then 1 else 0)
  | .int a, .int b => a == b
  | .str a, .str b => a == b
  | _, _ => false
theorem eqAt_V {A : Around} {s : Shared} {y x : V} {u v : Value} (ry : RelV y u) (rx : RelV x v) (fy : flatV y = true) (fx : flatV x = true) : SeqAt.EqAt A s u v (eqV y x) := by
  cases y with
  | non =>
    cases ry
    cases x with
    | non => cases rx; exact SeqAt.EqAt.same _
    | bl b => cases rx; exact SeqAt.EqAt.none_bool b
    | int b => obtain ⟨t, rfl⟩ := rx; exact SeqAt.EqAt.none_int b t
    | str b => obtain ⟨t, rfl⟩ := rx; exact SeqAt.EqAt.none_str b t
    | _ => exact absurd (show false = true from fx) Bool.false_ne_true
  | bl a =>
    cases ry
    cases x with
    | non => cases rx; exact SeqAt.EqAt.bool_none a
    | bl b => cases rx; exact SeqAt.EqAt.bool_bool a b
    | int b => obtain ⟨t, rfl⟩ := rx; exact SeqAt.EqAt.bool_int a b t
    | str b => obtain ⟨t, rfl⟩ := rx; exact SeqAt.EqAt.bool_str a b t
    | _ => exact absurd (show false = true from fx) Bool.false_ne_true
  | int a =>
    obtain ⟨t', rfl⟩ := ry
    cases x with
    | non => cases rx; exact SeqAt.EqAt.int_none a t'
    | bl b => cases rx; exact SeqAt.EqAt.int_bool a t' b
    | int b => obtain ⟨t, rfl⟩ := rx; exact SeqAt.EqAt.int_int a t' b t
    | str b => obtain ⟨t, rfl⟩ := rx; exact SeqAt.EqAt.int_str a t' b t
    | _ => exact absurd (show false = true from fx) Bool.false_ne_true
  | str a =>
    obtain ⟨t', rfl⟩ := ry
    cases x with
    | non => cases rx; exact SeqAt.EqAt.str_none a t'
    | bl b => cases rx; exact SeqAt.EqAt.str_bool a t' b
    | int b => obtain ⟨t, rfl⟩ := rx; exact SeqAt.EqAt.str_int a t' b t
    | str b => obtain ⟨t, rfl⟩ := rx; exact SeqAt.EqAt.str_str a t' b t
    | _ => exact absurd (show false = true from fx) Bool.false_ne_true
  | _ => exact absurd (show false = true from fy) Bool.false_ne_true
/-- the items' answers, read off the values (a value's own answer does not lean on its token) -/
def eqU (x : V) (u : Value) : Bool := match u with
  | .none => eqV .non x
  | .bool b => eqV (.bl b) x
  | .int i _ => eqV (.int i) x
  | .str z _ => eqV (.str z) x
  | _ => false
theorem eqU_of {x y : V} {u : Value} (r : RelV y u) (f : flatV y = true) : eqU x u = eqV y x := by
  cases y with
  | non => cases r; rfl
  | bl b => cases r; rfl
  | int i => obtain ⟨t, rfl⟩ := r; rfl
  | str z => obtain ⟨t, rfl⟩ := r; rfl
  | _ => exact absurd (show false = true from f) Bool.false_ne_true

theorem mem_eqAt {A : Around} {s : Shared} {x : V} {v : Value} (rx : RelV x v) (fx : flatV x = true) : ∀ {xs : List V} {us : List Value}, Vals xs us → xs.all flatV = true → ∀ u ∈ us, SeqAt.EqAt A s u v (eqU x u)
  | _, _, .nil, _ => fun u hu => by cases hu
  | y :: xs, u :: us, .cons r t, f => fun u' hu => by
    rw [List.all_cons, Bool.and_eq_true] at f
    rcases List.mem_cons.mp hu with rfl | hu
    · rw [eqU_of r f.1]; exact eqAt_V r rx f.1 fx
    · exact mem_eqAt rx fx t f.2 u' hu

/-! ### len, list(x), tuple(x) of any list or tuple that is read -/
theorem call_len_seq : CallR X (.builtin "len") (fun xs H Q => ∃ p ys, xs = [.ref p] ∧ (SqL X.K H p ys ∨ SqT X.K H p ys) ∧ Q (.int ys.length) H) := by
  intro pins s σ H xs us Q I r h
  obtain ⟨p, ys, rfl, hq, q⟩ := h
  obtain ⟨u, rfl, rx⟩ := vals1 r
  cases rx
  have hn := line63
  rcases hq with hq | hq
  · obtain ⟨its, r', pl, hz⟩ := I.list hq
    have hlen := r'.length
    exact Calls.call_len_list pl.isList (by simp only [List.size_toArray] <;> omega) ⟨.int ys.length, H, I.tok _, ⟨s.toks + 1, by rw [List.size_toArray, hlen]⟩, q⟩
  · obtain ⟨its, r', pl, hz⟩ := I.tuple hq
    have hlen := r'.length
    exact len_tuple pl (by simp only [List.size_toArray] <;> omega) ⟨.int ys.length, H, I.tok _, ⟨s.toks + 1, by rw [List.size_toArray, hlen]⟩, q⟩

/-! ### the call of a builtin's method: o.m(..) -/
/-- the value is of that builtin type -/
def tyV (K : PySem.W.Frag) (T : String) (x : V) (H : Hp) : Prop := match x with
  | .str _ => T = "str"
  | .int _ => T = "int"
  | .ref p => (T = "list" ∧ ∃ xs, SqL K H p xs) ∨ (T = "tuple" ∧ ∃ o, K.lookup p = some o ∧ o.cls = .type "tuple" ∧ o.dict = none) ∨
      (T = "dict" ∧ ((∃ kvs, H p = some (.dK kvs)) ∨ ∃ kvs, H p = some (.dT kvs))) ∨ (T = "set" ∧ ∃ S n, H p = some (.set S n))
  | _ => False
theorem tyV_is {pins : List (Addr × Obj)} {σ : St} {H : Hp} {s : Shared} {T : String} {x : V} {v : Value} (I : Inv X pins σ H s) (r : RelV x v) (ty : tyV X.K T x H) :
    s.TypeIs v T ∧ ∀ a, v = .ref a → ∃ ob, s.heap.get? a = some ob ∧ ob.dict = none := by
  cases x with
  | str z =>
    obtain ⟨t, rfl⟩ := r
    cases (show T = "str" from ty)
    exact ⟨typeIs_str s z t, fun _ e => nomatch e⟩
  | int i =>
    obtain ⟨t, rfl⟩ := r
    cases (show T = "int" from ty)
    exact ⟨typeIs_int s i t, fun _ e => nomatch e⟩
  | ref p =>
    cases r
    rcases ty with ⟨rfl, xs, hq⟩ | ⟨rfl, o, hk, hc, hd⟩ | ⟨rfl, hk⟩ | ⟨rfl, S, n, hk⟩
    · obtain ⟨its, _, pl, _⟩ := I.list hq
      refine ⟨pl.isList.typeIs, fun a e => ?_⟩
      cases e
      obtain ⟨o, n, e, c, hd, _⟩ := pl
      exact ⟨o, e, hd⟩
    · refine ⟨⟨o, I.kIn p o hk, hc⟩, fun a e => ?_⟩
      cases e
      exact ⟨o, I.kIn _ o hk, hd⟩
    · have z : ∃ o, s.heap.get? p = some o ∧ o.ExactDict := by
        rcases hk with ⟨kvs, hk⟩ | ⟨kvs, hk⟩
        · obtain ⟨_, _, _, _, o, _, _, e, ex, _⟩ := I.hok p _ hk
          exact ⟨o, e, ex⟩
        · obtain ⟨_, _, _, _, o, _, _, e, ex, _⟩ := I.hok p _ hk
          exact ⟨o, e, ex⟩
      obtain ⟨o, e, ex⟩ := z
      refine ⟨⟨o, e, ex.1⟩, fun a e2 => ?_⟩
      cases e2
      exact ⟨o, e, ex.2.1⟩
    · obtain ⟨o, _, _, _, e, ex, _⟩ := I.hok p _ hk
      refine ⟨⟨o, e, ex.1⟩, fun a e2 => ?_⟩
      cases e2
      exact ⟨o, e, ex.2.1⟩
  | _ => exact False.elim ty

def tBM (K : PySem.W.Frag) (T : String) (r : V → List V → Hp → VK → Prop) (to : TE) (t : TA) : TE := fun σ H Q => to σ H fun x H1 => tyV K T x H1 ∧ t σ H1 fun xs H2 => r x xs H2 Q
variable {o e : Expr} {es : List Expr} {to : TE} {t : TA} {name : Str} {apos cpos : Pos} {T id : String} {r : V → List V → Hp → VK → Prop}

theorem pe_bm (pa : PlainAttrs T) (slot : Slot T name id) (hty : typeOf (.builtin id) = pure (.type "method_descriptor")) (hm : MtR X id r) (ho : PE X o to) (ha : PA X (e :: es) t)
    (hbase : attributeBase o name X.env (eval o X.env) = eval o X.env := by rfl)
    (hfew : ((backTo cpos (starEach (e :: es) X.env)).all (fun x => !x.1) && (backToKw cpos (keywordEach [] X.env)).all (fun x => x.1.isSome)
      && decide ((e :: es).length + ([] : List Keyword).length + (if ([] : List Keyword).isEmpty then 0 else 1) < 30)) = true := by rfl)
    (hline : (apos.endLine == cpos.line) = true := by rfl) (hs : starEach (e :: es) X.env = (false, eval e X.env) :: starEach es X.env := by rfl) (hplain : (backTo cpos (starEach es X.env)).any (·.1) = false := by rfl) :
    PE X (.Call (.Attribute o name apos) (e :: es) [] cpos) (tBM X.K T r to t) := by
  intro pins s σ H Q I h
  refine wpAny_Call_method_late hbase hfew hline rfl (thn (ho pins s σ H _ I h) fun v s1 ⟨x, H1, I1, r1, ty, q1⟩ => ?_)
  obtain ⟨h1, h2⟩ := tyV_is I1 r1 ty
  refine ⟨T, id, pa, slot, hty, h1, h2, ?_⟩
  have hA := ha cpos pins s1 σ H1 _ I1 q1
  rw [hs] at hA ⊢
  refine Calls.callWith_builtin (by show (false || (backTo cpos (starEach es X.env)).any (·.1)) = false; rw [hplain] <;> rfl) (Calls.evalArgs_plain ?_)
  exact thn hA fun us s2 ⟨vs, H2, I2, r2, q2⟩ => hm pins s2 σ H2 x vs v us Q I2 r1 r2 q2
/- xs.append(e), list.index on a module's tuple .. are MtR facts of 06m -/
end
end L2

namespace L2
open PySem PySem.Spec PyProof.Rows

def MtM (X : Cx) (id : String) (r : V → List V → Hp → VK → Prop) : Prop :=
  ∀ (pins : List (Addr × Obj)) (s : Shared) (σ : St) (H : Hp) (x : V) (xs : List V) (v : Value) (us : List Value) (Q : VK), Inv X pins σ H s → RelV x v → Vals xs us → r x xs H Q →
    wpAny (model X.prog X.w) X.A (call (.builtin id) (v :: us)) (EP X pins σ Q) X.xe s

/-! ### lists of values -/
theorem Vals.one : ∀ {x : V} {us : List Value}, Vals [x] us → ∃ u, us = [u] ∧ RelV x u
  | _, _, .cons r .nil => ⟨_, rfl, r⟩

theorem Vals.rep {xs : List V} {us : List Value} (h : Vals xs us) : ∀ k : Nat, Vals (List.replicate k xs).flatten (List.replicate k us).flatten
  | 0 => .nil
  | k + 1 => by
    rw [List.replicate_succ, List.replicate_succ, List.flatten_cons, List.flatten_cons]
    exact Vals.append h (Vals.rep h k)

theorem foldl_rep (its : List Value) : ∀ (k : Nat) (acc : List Value),
    List.foldl (fun x1 x2 => x1 ++ x2) acc.toArray (List.replicate k its.toArray) = (acc ++ (List.replicate k its).flatten).toArray
  | 0, acc => by simp
  | k + 1, acc => by
    have e : acc.toArray ++ its.toArray = (acc ++ its).toArray := by simp
    have e2 : (acc ++ its) ++ (List.replicate k its).flatten = acc ++ (List.replicate (k + 1) its).flatten := by
      rw [List.replicate_succ, List.flatten_cons, List.append_assoc]
    rw [← e2, ← foldl_rep its k (acc ++ its), ← e, List.replicate_succ, List.foldl_cons]

section
variable {X : Cx} {pins : List (Addr × Obj)} {σ : St} {H : Hp} {s : Shared} {l b : Addr} {xs ys zs : List V}

/-! ### the two steps: a tracked list is rewritten, a new list is laid -/
theorem Inv.lset {its its' : List Value} {n : Nat} {f : Array Value → Array Value} {t' : Nat} (I : Inv X pins σ H s) (hH : H l = some (.lst xs))
    (e : s.heap.get? l = some { cls := .type "list", data := .seq its.toArray n }) (hf : f its.toArray = its'.toArray) (hv : Vals ys its') (hz : ys.length ≤ sizeLine) :
    Inv X pins σ (upd H l (.lst ys)) { s with heap := s.heap.update l (Obj.mapSeq f), toks := t' } := by
  have q := PySem.IsL.update e f
  rw [hf] at q
  refine I.write (x := l) (e := l) (by rw [hH]; exact trivial) (.inl rfl) (fun b' u hb hu => (Heap.get?_update_other s.heap (Obj.mapSeq f) (Ne.symm hb)).trans hu) ⟨_, q⟩ ?_
  exact ⟨hz, its', _, hv, q⟩
theorem Inv.lnew {its : List Value} {t' : Nat} (I : Inv X pins σ H s) (hv : Vals ys its) (hz : ys.length ≤ sizeLine) :
    Inv X pins σ (upd H s.heap.objs.size (.lst ys)) { s with heap := s.heap.push { cls := .type "list", data := .seq its.toArray }, toks := t' } :=
  I.laid (fun _ _ q => Heap.get?_push_of_some _ q) (Nat.le_refl _) ⟨hz, its, 0, hv, Heap.get?_push_size _ rfl⟩
theorem Inv.fresh (I : Inv X pins σ H s) : H s.heap.objs.size = none := I.hok.fresh (Nat.le_refl _)
theorem Inv.lstM (I : Inv X pins σ H s) (hH : H l = some (.lst xs)) : xs.length ≤ sizeLine ∧ ∃ (its : List Value) (n : Nat), Vals xs its ∧ xs.length = its.length ∧ s.heap.get? l = some { cls := .type "list", data := .seq its.toArray n } := by
  obtain ⟨z, its, n, r, e⟩ := I.hok l _ hH
  exact ⟨z, its, n, r, r.length, e⟩

theorem notLongL {n : Nat} (h : n ≤ sizeLine) : Builtin.List.listTooLong n = false := by
  unfold Builtin.List.listTooLong
  exact decide_eq_false (by omega)
end

section
variable {X : Cx}

/-! ### methods -/
def rAppend : V → List V → Hp → VK → Prop := fun x vs H Q => ∃ l xs y, x = .ref l ∧ vs = [y] ∧ H l = some (.lst xs) ∧ xs.length < sizeLine ∧ Q .non (upd H l (.lst (xs ++ [y])))
theorem mt_append : MtM X "list.append" rAppend := by
  intro pins s σ H x vs v us Q I rx rv h
  obtain ⟨l, xs, y, rfl, rfl, hH, hz, q⟩ := h
  cases rx
  obtain ⟨u, rfl, ru⟩ := rv.one
  obtain ⟨z, its, n, r, hl, e⟩ := I.lstM hH
  refine call_meets F.slot_list_append ⟨_, e, rfl⟩ F.entry_list_append (F.args_list_append_2 _ _) (PySem.list_append l its.toArray n u (by rw [List.size_toArray]; omega)) ⟨e, ?_⟩
  refine ⟨.non, _, I.lset (its' := its ++ [u]) hH e (by simp) (r.append (.cons ru .nil)) ?_, rfl, q⟩
  rw [List.length_append, List.length_singleton]
  omega

/-! ### list + list, list += list, list * int -/
def rCat : R2 := fun x y H Q => ∃ l b xs zs, x = .ref l ∧ y = .ref b ∧ H l = some (.lst xs) ∧ H b = some (.lst zs) ∧ xs.length + zs.length ≤ sizeLine ∧ ∀ p, H p = none → Q (.ref p) (upd H p (.lst (xs ++ zs)))
theorem op_cat : OpR X (binaryOp .Add) rCat := by
  intro pins s σ H x y v u Q I rx ry h
  obtain ⟨l, b, xs, zs, rfl, rfl, hH, hB, hz, q⟩ := h
  cases rx
  cases ry
  obtain ⟨z, its, n, r, hl, e⟩ := I.lstM hH
  obtain ⟨z2, its2, n2, r2, hl2, e2⟩ := I.lstM hB
  refine PySem.P.add_list e e2 ?_ (by rw [List.size_toArray, List.size_toArray]; omega)
  have ea : its.toArray ++ its2.toArray = (its ++ its2).toArray := by simp
  rw [ea]
  exact ⟨.ref _, _, I.lnew (t' := s.toks) (r.append r2) (by rw [List.length_append]; omega), rfl, q _ I.fresh⟩
/-- a list times an int (a negative one is nothing) -/
def rRep : R2 := fun x y H Q => ∃ l k xs, x = .ref l ∧ y = .int k ∧ H l = some (.lst xs) ∧ -(2 ^ 63) ≤ k ∧ k < 2 ^ 63 ∧ xs.length * k.toNat ≤ sizeLine ∧
  ∀ p, H p = none → Q (.ref p) (upd H p (.lst (List.replicate k.toNat xs).flatten))
theorem len_rep {α : Type} (xs : List α) (k : Nat) : (List.replicate k xs).flatten.length = k * xs.length := by
  induction k with
  | zero => simp
  | succ k ih => rw [List.replicate_succ, List.flatten_cons, List.length_append, ih, Nat.succ_mul, Nat.add_comm]
theorem op_rep : OpR X (binaryOp .Mult) rRep := by
  intro pins s σ H x y v u Q I rx ry h
  obtain ⟨l, k, xs, rfl, rfl, hH, h1, h2, hz, q⟩ := h
  cases rx
  obtain ⟨t, rfl⟩ := ry
  obtain ⟨z, its, n, r, hl, e⟩ := I.lstM hH
  have hlen : its.toArray.size * k.toNat ≤ sizeLine := by rw [List.size_toArray, ← hl]; exact hz
  have hcap : ¬ its.toArray.size * k.toNat > (2 ^ 63 - 1) / 8 := by
    have : (sizeLine : Nat) ≤ (2 ^ 63 - 1) / 8 := by decide
    omega
  have hfit : ¬ (!Builtin.List.listFitsIndex k) = true := by
    rw [fitsIndex_both h1 h2]
    exact Bool.false_ne_true
  have hlong : ¬ Builtin.List.listTooLong (its.toArray.size * k.toNat) = true := by
    rw [notLongL hlen]
    exact Bool.false_ne_true
  have hnew : List.foldl (fun x1 x2 => x1 ++ x2) #[] (List.replicate (if its.toArray.isEmpty = true then 0 else k.toNat) its.toArray) = (List.replicate k.toNat its).flatten.toArray := by
    have f0 : ∀ m : Nat, List.foldl (fun x1 x2 => x1 ++ x2) #[] (List.replicate m its.toArray) = (List.replicate m its).flatten.toArray := fun m => by
      have := foldl_rep its m []
      rw [List.nil_append] at this
      exact this
    rw [f0]
    cases its with
    | nil => simp
    | cons a r' => rw [if_neg (by simp)]
  refine wpAny_binaryOp_repeat_ref (T := "list") (U := "int") (by decide) ⟨_, e, rfl⟩ (fun s' => typeIs_int s' k t) noFill_list_mul F.fills_int_mul F.slot_int_rmul repeat_list F.slot_int_index.lookup
    (call_meets F.slot_int_rmul (typeIs_int s k t) F.entry_int_rmul (F.args_int_rmul_2 _ _) (int___rmul___int_list k t l its.toArray n)
      ⟨e, rfl, ⟨_, e, rfl⟩, call_meets F.slot_list_mul ⟨_, e, rfl⟩ F.entry_list_mul (F.args_list_mul_2 _ _) (AutoListH.list___mul___list_int_3 l its.toArray n k t hfit hcap hlong) ⟨e, ?_⟩⟩)
  rw [hnew]
  exact ⟨.ref _, _, I.lnew (t' := s.toks) (r.rep k.toNat) (by rw [len_rep, Nat.mul_comm]; exact hz), rfl, q _ I.fresh⟩

/-! ### del xs[i] -/

end

/-! ### xs[a:b] = ys -/
section
variable {prog : Program} {w : World} {A : Around} {E : Value → Shared → Prop} {s : Shared}

end

section
variable {X : Cx}

end
end L2

namespace L2
open PySem PySem.Spec PyProof.Rows

theorem Vals.ints : ∀ {ns : List Int} {us : List Value}, Vals (ns.map V.int) us → IntsAre us ns
  | [], us, h => by
    rw [List.map_nil] at h
    cases h
    exact IntsAre.nil
  | n :: ns, us, h => by
    rw [List.map_cons] at h
    cases h with
    | cons r t =>
      obtain ⟨k, rfl⟩ := r
      exact IntsAre.cons n k (Vals.ints t)
theorem vals_of_ints : ∀ {us : List Value} {ns : List Int}, IntsAre us ns → Vals (ns.map V.int) us
  | _, _, .nil => by rw [List.map_nil]; exact Paired.nil
  | _, _, .cons n t h => by rw [List.map_cons]; exact Paired.cons (show RelV (V.int n) (Value.int n t) from ⟨t, rfl⟩) (vals_of_ints h)

theorem Vals.ref1 {a : Addr} {us : List Value} (r : Vals [V.ref a] us) : us = [Value.ref a] := by
  cases r with
  | cons r t =>
    cases t
    cases r
    rfl

/-! ### the library's walks over a list of ints, kept objects alone -/
section
variable {prog : Program} {w : World} {A : Around} {E : Value → Shared → Prop} {s : Shared} {l : Addr} {its : List Value} {ns : List Int} {Q : Value → Shared → Prop}
theorem sum_raw (hh : A.handled = none) (hl : s.heap.IsList l its.toArray) (hi : IntsAre its ns)
    (h : ∀ h' tk t', (∀ b o, s.heap.get? b = some o → h'.get? b = some o) → Q (.int ns.sum t') { s with heap := h', toks := tk }) : wpAny (model prog w) A (call (.builtin "sum") [.ref l]) Q E s := by
  obtain ⟨xs, e⟩ := hi.allInts.items
  have hn : numsOf (intItems xs).toList = ns := by rw [← e]; exact hi.numsOf
  rw [nums_intItems] at hn
  rw [e] at hl
  refine PySem.sum_intListG hh hl fun h' tk t' hk => ?_
  have := h h' tk t' hk
  rw [preSum_eq, List.take_of_length_le (by simp), hn]; exact this
theorem max_raw (hh : A.handled = none) (hl : s.heap.IsList l its.toArray) (hi : IntsAre its ns) (hne : 0 < ns.length)
    (h : ∀ h' tk M t', (∀ b o, s.heap.get? b = some o → h'.get? b = some o) → M ∈ ns → (∀ a, a ∈ ns → a ≤ M) → Q (.int M t') { s with heap := h', toks := tk }) : wpAny (model prog w) A (call (.builtin "max") [.ref l]) Q E s := by
  obtain ⟨xs, e⟩ := hi.allInts.items
  have hn : numsOf (intItems xs).toList = ns := by rw [← e]; exact hi.numsOf
  rw [nums_intItems] at hn
  subst hn
  rw [e] at hl
  have hsz : 0 < xs.size := by simpa using hne
  refine PySem.max_intList hh hl hsz fun v h' tk hv hk => ?_
  obtain ⟨t, rfl⟩ := intItems_at hv
  obtain ⟨h1, h2⟩ := argBest_gt (numAt xs) (xs.size - 1)
  refine h h' tk _ t hk ?_ fun a ha => ?_
  · rw [numAt_eq]; exact PySem.getD_mem (by rw [List.length_map, Array.length_toList]; omega)
  · obtain ⟨j, hj, rfl⟩ := mem_getD ha
    rw [List.length_map, Array.length_toList] at hj
    rw [← numAt_eq]; exact h2 j (by omega)

end

/-! ### the calls, by values (CallR of 03t; MtR of 06l) -/
section
variable {X : Cx}
/-- sum(xs) of a list of ints -/
def rSum (K : PySem.W.Frag) : List V → Hp → VK → Prop := fun vs H Q => ∃ (a : Addr) (ns : List Int), vs = [V.ref a] ∧ SqL K H a (ns.map V.int) ∧ Q (.int ns.sum) H
/-- max(xs), min(xs) of a list of ints -/
def rMax (K : PySem.W.Frag) : List V → Hp → VK → Prop := fun vs H Q => ∃ (a : Addr) (ns : List Int), vs = [V.ref a] ∧ SqL K H a (ns.map V.int) ∧ 0 < ns.length ∧ ∀ m, m ∈ ns → (∀ y, y ∈ ns → y ≤ m) → Q (.int m) H

theorem cr_sum (hc : X.calm = true) : CallR X (.builtin "sum") (rSum X.K) := by
  intro pins s σ H vs us Q I r h
  obtain ⟨a, ns, rfl, hs, q⟩ := h
  obtain ⟨its, rv, hl, _⟩ := I.list hs
  rw [Vals.ref1 r]
  exact sum_raw (I.ok.hd hc) hl.isList rv.ints fun h' tk t' hk => ⟨.int _, H, I.kept hk, ⟨_, rfl⟩, q⟩
theorem cr_max (hc : X.calm = true) : CallR X (.builtin "max") (rMax X.K) := by
  intro pins s σ H vs us Q I r h
  obtain ⟨a, ns, rfl, hs, hne, q⟩ := h
  obtain ⟨its, rv, hl, _⟩ := I.list hs
  rw [Vals.ref1 r]
  exact max_raw (I.ok.hd hc) hl.isList rv.ints hne fun h' tk m t' hk h1 h2 => ⟨.int _, H, I.kept hk, ⟨_, rfl⟩, q m h1 h2⟩

/-! sorted, sort (fewer than 64 items: the library's own bound) -/

theorem small64 {n : Nat} (h : n < 64) : n ≤ sizeLine := by rw [sizeLine_eq]; omega

end

/-! ### list.index, flat items -/
section
variable {X : Cx}

theorem flat_at {ys : List V} (f : ys.all flatV = true) {j : Nat} {z : V} (h : ys[j]? = some z) : flatV z = true := List.all_eq_true.mp f z (List.mem_of_getElem? h)

end

/-! ### type(x) of an own instance; is, is not of a module's class -/
section
variable {X : Cx}

end

/-! ### any(xs), all(xs) of a list of bools -/

section
variable {X : Cx}

end

/-! ### == and != of data at any depth: none, bools, ints, texts, lists, tuples -/

section
variable {X : Cx} {pins : List (Addr × Obj)} {σ : St} {H : Hp} {s : Shared}

end
section
variable {X : Cx}

end
end L2

namespace L2
open PySem PySem.Spec PyProof.Rows
abbrev CellAt (h : Heap) (c : Addr) (v : Option Value) : Prop := h.IsCell c v
def relS (scope sc : Scope) : Scope :=
  { scope with names := scope.names.map fun (n, k) => if (k == .free && sc.kind == .function && sc.names.lookup n == some .cell) then (n, .cell) else (n, k) }

def cloFrom (cells : List (Str × Addr)) : List (Str × NameKind) → List (Str × Addr) → List (Str × Addr)
  | [], acc => acc
  | (n, k) :: r, acc => if k == .free then cloFrom cells r ((n, (cells.lookup n).getD 0) :: acc) else cloFrom cells r acc

theorem closure_loop (env : Env) (f : Str × NameKind → List (Str × Addr) → Sem (ForInStep (List (Str × Addr))))
    (hf : ∀ n k c, f (n, k) c = if k == .free then (do let a ← cellOf env n; pure (.yield ((n, a) :: c))) else pure (.yield c)) :
    ∀ (names : List (Str × NameKind)) (acc : List (Str × Addr)), (∀ y ∈ names, y.2 = .free → ∃ c, env.cells.lookup y.1 = some c) → forIn names acc f = pure (cloFrom env.cells names acc)
  | [], acc, _ => by rw [List.forIn_nil]; rfl
  | (n, k) :: r, acc, h => by
    rw [List.forIn_cons, hf]
    have ih := fun acc => closure_loop env f hf r acc fun y hy => h y (List.mem_cons_of_mem _ hy)
    unfold cloFrom
    by_cases hk : (k == NameKind.free) = true
    · rw [if_pos hk, if_pos hk]
      obtain ⟨c, hc⟩ := h (n, k) List.mem_cons_self (by simpa using hk)
      have e : cellOf env n = pure c := by unfold cellOf; rw [hc]
      rw [e]
      have e2 : (env.cells.lookup n).getD 0 = c := by rw [hc]; rfl
      rw [e2]
      exact ih _
    · rw [if_neg hk, if_neg hk]
      exact ih _
theorem closure_ok {scope : Scope} {env : Env} (h : ∀ y ∈ scope.names, y.2 = .free → ∃ c, env.cells.lookup y.1 = some c) : closureFor scope env = pure (cloFrom env.cells scope.names []) := by
  simp only [closureFor]
  rw [closure_loop env _ (fun n k c => rfl) scope.names [] h]
  rfl

theorem mem_lookup {α : Type} : ∀ {l : List (Str × α)} {n : Str} {c : α}, (n, c) ∈ l → ∃ c', l.lookup n = some c'
  | (k, v) :: r, n, c, h => by
    rw [List.lookup_cons]
    cases hb : n == k with
    | true => exact ⟨_, rfl⟩
    | false =>
      rcases List.mem_cons.mp h with e | h
      · cases e; simp at hb
      · exact mem_lookup h

theorem cloFrom_mem {cells : List (Str × Addr)} : ∀ {names : List (Str × NameKind)} {acc : List (Str × Addr)} {n : Str} {c : Addr}, (n, c) ∈ cloFrom cells names acc → (n, c) ∈ acc ∨ ((n, .free) ∈ names ∧ c = (cells.lookup n).getD 0)
  | [], _, _, _, h => .inl h
  | (m, k) :: r, acc, n, c, h => by
    unfold cloFrom at h
    split at h
    · rename_i hk
      have hk : k = .free := by simpa using hk
      rcases cloFrom_mem h with h | ⟨h1, h2⟩
      · rcases List.mem_cons.mp h with e | h
        · cases e; exact .inr ⟨hk ▸ List.mem_cons_self, rfl⟩
        · exact .inl h
      · exact .inr ⟨List.mem_cons_of_mem _ h1, h2⟩
    · rcases cloFrom_mem h with h | ⟨h1, h2⟩
      · exact .inl h
      · exact .inr ⟨List.mem_cons_of_mem _ h1, h2⟩
theorem cloFrom_acc {cells : List (Str × Addr)} : ∀ {names : List (Str × NameKind)} {acc : List (Str × Addr)} {p : Str × Addr}, p ∈ acc → p ∈ cloFrom cells names acc
  | [], _, _, h => h
  | (m, k) :: r, acc, p, h => by
    unfold cloFrom
    split
    · exact cloFrom_acc (List.mem_cons_of_mem _ h)
    · exact cloFrom_acc h
theorem cloFrom_has {cells : List (Str × Addr)} : ∀ {names : List (Str × NameKind)} {acc : List (Str × Addr)} {n : Str}, (n, .free) ∈ names → (n, (cells.lookup n).getD 0) ∈ cloFrom cells names acc
  | (m, k) :: r, acc, n, h => by
    unfold cloFrom
    rcases List.mem_cons.mp h with e | h
    · cases e
      exact cloFrom_acc List.mem_cons_self
    · split
      · exact cloFrom_has h
      · exact cloFrom_has h

theorem cells_mem : ∀ {names : List (Str × NameKind)} {h : Heap} {acc : List (Str × Addr)} {x : Str} {c : Addr}, (x, c) ∈ cellsFrom h.objs.size names acc →
    (x, c) ∈ acc ∨ ((x, .cell) ∈ names ∧ h.objs.size ≤ c ∧ CellAt (pushCells h names) c none)
  | [], _, _, _, _, h => .inl h
  | (n, k) :: r, h, acc, x, c, hm => by
    unfold cellsFrom at hm
    unfold pushCells
    split at hm
    · rename_i hk
      rw [if_pos hk]
      have hk : k = .cell := by simpa using hk
      rw [← Heap.size_push h { cls := .type "cell", data := .cell none }] at hm
      rcases cells_mem hm with hm | ⟨h1, h2, h3⟩
      · rcases List.mem_cons.mp hm with e | hm
        · cases e
          exact .inr ⟨hk ▸ List.mem_cons_self, Nat.le_refl _, _, pushCells_keeps r _ _ _ (Heap.get?_push_size _ rfl), rfl⟩
        · exact .inl hm
      · rw [Heap.size_push] at h2
        exact .inr ⟨List.mem_cons_of_mem _ h1, Nat.le_of_succ_le h2, h3⟩
    · rename_i hk
      rw [if_neg hk]
      rcases cells_mem hm with hm | ⟨h1, h2, h3⟩
      · exact .inl hm
      · exact .inr ⟨List.mem_cons_of_mem _ h1, h2, h3⟩
theorem cells_acc : ∀ {names : List (Str × NameKind)} {n : Nat} {acc : List (Str × Addr)} {p : Str × Addr}, p ∈ acc → p ∈ cellsFrom n names acc
  | [], _, _, _, h => h
  | (m, k) :: r, n, acc, p, h => by
    unfold cellsFrom
    split
    · exact cells_acc (List.mem_cons_of_mem _ h)
    · exact cells_acc h
theorem cells_has : ∀ {names : List (Str × NameKind)} {n : Nat} {acc : List (Str × Addr)} {x : Str}, (x, .cell) ∈ names → ∃ c, (x, c) ∈ cellsFrom n names acc
  | (m, k) :: r, n, acc, x, h => by
    unfold cellsFrom
    rcases List.mem_cons.mp h with e | h
    · cases e
      exact ⟨n, cells_acc List.mem_cons_self⟩
    · split
      · exact cells_has h
      · exact cells_has h
theorem cells_inj : ∀ {names : List (Str × NameKind)} {h : Heap} {acc : List (Str × Addr)} {x y : Str} {c : Addr}, (∀ p ∈ acc, p.2 < h.objs.size) → (∀ x y c, (x, c) ∈ acc → (y, c) ∈ acc → x = y) →
    (x, c) ∈ cellsFrom h.objs.size names acc → (y, c) ∈ cellsFrom h.objs.size names acc → x = y
  | [], _, _, _, _, _, _, hi, h1, h2 => hi _ _ _ h1 h2
  | (n, k) :: r, h, acc, x, y, c, hl, hi, h1, h2 => by
    unfold cellsFrom at h1 h2
    split at h1
    · rename_i hk
      rw [if_pos hk] at h2
      rw [← Heap.size_push h { cls := .type "cell", data := .cell none }] at h1 h2
      refine cells_inj (h := h.push _) (fun p hp => ?_) (fun x y c a b => ?_) h1 h2
      · rw [Heap.size_push]
        rcases List.mem_cons.mp hp with rfl | hp
        · exact Nat.lt_succ_self _
        · exact Nat.lt_succ_of_lt (hl p hp)
      · rcases List.mem_cons.mp a with e | a <;> rcases List.mem_cons.mp b with e' | b
        · cases e; cases e'; rfl
        · cases e; exact absurd (hl _ b) (Nat.lt_irrefl _)
        · cases e'; exact absurd (hl _ a) (Nat.lt_irrefl _)
        · exact hi _ _ _ a b
    · rename_i hk
      rw [if_neg hk] at h2
      exact cells_inj hl hi h1 h2

theorem newEnv_comp {M : Model} {A : Around} {E : Value → Shared → Prop} {s : Shared} {scope : Scope} {globals : Addr} {closure : List (Str × Addr)} {qual : Str} {func : Option Addr} {code : Value} {around : Env} {builtins : Addr} {Q : Env → Shared → Prop}
    (h : Q (newEnv scope s.heap.objs.size globals (cellsFrom (s.heap.objs.size + 1) scope.names closure) qual func code (some around) builtins)
      { s with heap := pushCells (s.heap.push { cls := .type "dict", data := .dict #[] }) scope.names }) :
    wpAny M A (newFunctionEnv scope globals closure [] qual func code (some around) builtins) Q E s := by
  simp only [newFunctionEnv, Option.isSome_some, if_true]
  refine wpAny_bind (wpAny_alloc ?_)
  refine wpAny_bind (wpAny_layCells _ (fun n k c => rfl) scope.names closure _ _ ?_)
  rw [show ({ s with heap := s.heap.push { cls := .type "dict", data := .dict #[] } } : Shared).heap.objs.size = s.heap.objs.size + 1 from Heap.size_push ..]
  rw [List.forIn_nil]
  exact wpAny_bind (wpAny_pure (wpAny_pure h))

/-- every name of the written scope, in the scope that runs -/
theorem lookup_relS {sc : Scope} : ∀ {names : List (Str × NameKind)} {x : Str} {k : NameKind},
    (names.map fun (n, k) => if (k == NameKind.free && sc.kind == .function && sc.names.lookup n == some .cell) then (n, NameKind.cell) else (n, k)).lookup x = some k →
    ∃ k', names.lookup x = some k' ∧ (k = k' ∨ (k' = .free ∧ k = .cell))
  | [], _, _, h => by simp at h
  | (n, k₀) :: r, x, k, h => by
    have ih := @lookup_relS sc r x k
    have h' : List.lookup x ((if (k₀ == NameKind.free && sc.kind == .function && sc.names.lookup n == some .cell) = true then (n, NameKind.cell) else (n, k₀)) :: (r.map _)) = some k := h
    cases hx : x == n with
    | true =>
      simp only [List.lookup_cons, hx]
      by_cases hc : (k₀ == NameKind.free && sc.kind == .function && sc.names.lookup n == some .cell) = true
      · rw [if_pos hc] at h'
        simp only [List.lookup_cons, hx] at h'
        cases h'
        simp only [Bool.and_eq_true, beq_iff_eq] at hc
        exact ⟨k₀, rfl, .inr ⟨hc.1.1, rfl⟩⟩
      · rw [if_neg hc] at h'
        simp only [List.lookup_cons, hx] at h'
        cases h'
        exact ⟨_, rfl, .inl rfl⟩
    | false =>
      simp only [List.lookup_cons, hx]
      by_cases hc : (k₀ == NameKind.free && sc.kind == .function && sc.names.lookup n == some .cell) = true
      · rw [if_pos hc] at h'
        simp only [List.lookup_cons, hx] at h'
        exact ih h'
      · rw [if_neg hc] at h'
        simp only [List.lookup_cons, hx] at h'
        exact ih h'

/-- the names of a comprehension's block: its own (with their places in N), or captured -/
structure BlkOk (N : List Str) (sc scope : Scope) (own : List (Str × Nat)) : Prop where
  kind : scope.kind = .function
  uniq : ∀ y ∈ scope.names, scope.names.lookup y.1 = some y.2
  ix : ∀ p ∈ own, N[p.2]? = some p.1
  free : ∀ y ∈ scope.names, y.2 = .free → sc.names.lookup y.1 = some .cell ∨ sc.names.lookup y.1 = some .free
  own : ∀ y ∈ scope.names, y.2 = .local ∨ y.2 = .cell → y.1 ∈ own.map (·.1) ∨ y.1 ∉ N
/-- the slots of the block's own names forgotten -/
def wipe (σ : St) : List Nat → St
  | [] => σ
  | v :: vs => (wipe σ vs).set v none
theorem wipe_length (σ : St) : ∀ vs : List Nat, (wipe σ vs).length = σ.length
  | [] => rfl
  | v :: vs => by unfold wipe; rw [List.length_set, wipe_length σ vs]
theorem wipe_some {σ : St} {i : Nat} {x : V} : ∀ {vs : List Nat}, (wipe σ vs)[i]? = some (some x) → σ[i]? = some (some x) ∧ i ∉ vs
  | [], h => ⟨h, by simp⟩
  | v :: vs, h => by
    unfold wipe at h
    by_cases hi : v = i
    · subst hi
      by_cases hv : v < (wipe σ vs).length
      · rw [List.getElem?_set_self hv] at h; cases h
      · rw [List.getElem?_eq_none (by simpa using hv)] at h; cases h
    · rw [List.getElem?_set_ne hi] at h
      obtain ⟨h1, h2⟩ := wipe_some h
      exact ⟨h1, by simp only [List.mem_cons, not_or]; exact ⟨fun e => hi e.symm, h2⟩⟩

/-- the context of a block that starts at s, its iterator's objects at fp -/
abbrev Cx.blk (X : Cx) (s : Shared) (H : Hp) (scope : Scope) (cenv : Env) (fp : List Addr) : Cx := { X with s_0 := s, H_0 := H, env := cenv, outer := X.stack, ex := fp, fn := fun x => scope.names.lookup x == some .cell, pn := [], xe := fun _ _ => False }
section
variable {X : Cx} {pins : List (Addr × Obj)} {σ : St} {H : Hp} {s : Shared}
theorem block_start {scope : Scope} {own : List (Str × Nat)} {fp : List Addr} (I : Inv X pins σ H s) (ok : BlkOk X.N X.env.scope scope own) (hN : X.N.Nodup) (hfp : ∀ b ∈ fp, FpOk X pins H b ∧ b < s.heap.objs.size) :
    Inv (X.blk s H scope (compEnvC scope (cellsFrom (s.heap.objs.size + 1) scope.names (cloFrom X.env.cells scope.names [])) s.heap.objs.size X.env) fp) [] (wipe σ (own.map (·.2))) H { s with heap := pushCells (s.heap.push { cls := .type "dict", data := .dict #[] }) scope.names } := by
  have hfree : ∀ y ∈ scope.names, y.2 = .free → ∃ c, X.env.cells.lookup y.1 = some c := fun y hy e => by
    rcases ok.free y hy e with k | k
    · exact I.ok.has _ (.inl k)
    · exact I.ok.has _ (.inr k)
  generalize hcenv : compEnvC scope (cellsFrom (s.heap.objs.size + 1) scope.names (cloFrom X.env.cells scope.names [])) s.heap.objs.size X.env = cenv
  have kp : ∀ b o, s.heap.get? b = some o → (pushCells (s.heap.push { cls := .type "dict", data := .dict #[] }) scope.names).get? b = some o := fun b o e => pushCells_keeps _ _ _ _ (Heap.get?_push_of_some _ e)
  have hL : cenv.locals = s.heap.objs.size := by rw [← hcenv]; rfl
  have hcl : cenv.cells = cellsFrom (s.heap.objs.size + 1) scope.names (cloFrom X.env.cells scope.names []) := by rw [← hcenv]; rfl
  have hsc : cenv.scope = relS scope X.env.scope := by rw [← hcenv]; rfl
  rw [← Heap.size_push s.heap { cls := .type "dict", data := .dict #[] }] at hcl
  have cm : ∀ {y c}, (y, c) ∈ cloFrom X.env.cells scope.names [] → X.env.cells.lookup y = some c ∧ c < s.heap.objs.size := fun {y c} hm => by
    rcases cloFrom_mem hm with hm | ⟨h1, rfl⟩
    · cases hm
    · obtain ⟨c, hc⟩ := hfree _ h1 rfl
      rw [hc]
      obtain ⟨w, z⟩ := I.cell _ _ hc
      exact ⟨rfl, z.lt⟩
  have mem : ∀ {y c}, cenv.cells.lookup y = some c → (X.env.cells.lookup y = some c ∧ c < s.heap.objs.size) ∨ (s.heap.objs.size + 1 ≤ c ∧ CellAt (pushCells (s.heap.push { cls := .type "dict", data := .dict #[] }) scope.names) c none) := fun {y c} e => by
    rw [hcl] at e
    rcases cells_mem (PySem.mem_of_lookup e) with hm | ⟨_, h2, h3⟩
    · exact .inl (cm hm)
    · rw [Heap.size_push] at h2; exact .inr ⟨h2, h3⟩
  have look : ∀ {y}, scope.names.lookup y = some .free → ∃ c, cenv.cells.lookup y = some c ∧ X.env.cells.lookup y = some c := fun {y} hl => by
    have hy : (y, NameKind.free) ∈ scope.names := PySem.mem_of_lookup hl
    obtain ⟨c', e'⟩ := mem_lookup (cells_acc (names := scope.names) (n := (s.heap.push { cls := .type "dict", data := .dict #[] }).objs.size) (cloFrom_has (cells := X.env.cells) (acc := []) hy))
    rw [← hcl] at e'
    refine ⟨c', e', ?_⟩
    rw [hcl] at e'
    rcases cells_mem (PySem.mem_of_lookup e') with hm | ⟨h1, _, _⟩
    · exact (cm hm).1
    · have := ok.uniq _ h1
      rw [hl] at this; cases this
  have okB : (X.blk s H scope cenv fp).Ok := by
    refine ⟨I.ok.mod, by show cenv.scope.kind = _; rw [hsc]; exact ok.kind, by show cenv.globals = _; rw [← hcenv]; exact I.ok.glob, by show cenv.builtins = _; rw [← hcenv]; exact I.ok.blt, by show s.heap.objs.size ≤ cenv.locals; rw [hL]; exact Nat.le_refl _,
      fun y z c e1 e2 => ?_, fun y hy => ?_, fun y c z e => ?_, I.ok.hd, I.ok.frames, .inl rfl, fun b hb => ⟨?_, fun y c e z => ?_⟩, I.bs, Nat.le_trans I.ok.bsz I.sz, fun b o e hb => ?_, fun b hb z => ?_, I.stack, I.stkFree⟩
    · have e1 : cenv.cells.lookup y = some c := e1
      have e2 : cenv.cells.lookup z = some c := e2
      rw [hcl] at e1 e2
      refine cells_inj (fun p hp => ?_) (fun y z c a b => I.ok.inj y z c (cm a).1 (cm b).1) (PySem.mem_of_lookup e1) (PySem.mem_of_lookup e2)
      rw [Heap.size_push]
      exact Nat.lt_succ_of_lt (cm (y := p.1) (c := p.2) hp).2
    · show ∃ c, cenv.cells.lookup y = some c
      have key : ∀ k, cenv.kindOf y = some k → (k = .cell ∨ k = .free) → ∃ c, cenv.cells.lookup y = some c := fun k hk hk' => by
        unfold Env.kindOf at hk
        rw [hsc] at hk
        obtain ⟨k', e, r⟩ := lookup_relS hk
        have : k' = .cell ∨ k' = .free := by
          rcases r with rfl | ⟨rfl, _⟩
          · exact hk'
          · exact .inr rfl
        rcases this with rfl | rfl
        · obtain ⟨c, hm⟩ := cells_has (n := (s.heap.push { cls := .type "dict", data := .dict #[] }).objs.size) (acc := cloFrom X.env.cells scope.names []) (PySem.mem_of_lookup e)
          obtain ⟨c', e'⟩ := mem_lookup hm
          exact ⟨c', by rw [hcl]; exact e'⟩
        · obtain ⟨c, h1, _⟩ := look e
          exact ⟨c, h1⟩
      rcases hy with hy | hy
      · exact key _ hy (.inl rfl)
      · exact key _ hy (.inr rfl)
    · have z : (scope.names.lookup y == some NameKind.cell) = true := z
      have z : scope.names.lookup y = some .cell := by simpa using z
      have e : cenv.cells.lookup y = some c := e
      rw [hcl] at e
      rcases cells_mem (PySem.mem_of_lookup e) with hm | ⟨_, h2, _⟩
      · rcases cloFrom_mem hm with hm | ⟨h1, _⟩
        · cases hm
        · have q := ok.uniq _ h1
          rw [z] at q; cases q
      · rw [Heap.size_push] at h2
        exact Nat.le_of_succ_le h2
    · show b ≠ cenv.locals
      rw [hL]; exact Nat.ne_of_lt (hfp b hb).2
    · have e : cenv.cells.lookup y = some c := e
      rcases mem e with ⟨h1, _⟩ | ⟨h1, _⟩
      · exact (hfp b hb).1.2.2.2.2.1 y c h1 z
      · have h2 : s.heap.objs.size + 1 ≤ b := by rw [← z]; exact h1
        exact absurd (Nat.lt_of_lt_of_le (hfp b hb).2 (Nat.le_of_succ_le h2)) (Nat.lt_irrefl _)
    · rcases (hfp b hb).1.2.2.2.1 with z | z
      · exact I.ok.noex b o e z
      · exact absurd (Nat.lt_of_lt_of_le (Heap.lt_size e) (Nat.le_trans I.ok.bsz z)) (Nat.lt_irrefl _)
    · rcases List.mem_cons.mp (I.stkSub b z) with z | z
      · exact (hfp b hb).1.2.1 z
      · exact (hfp b hb).1.2.2.1 z
  refine ⟨okB, rfl, I.bare, Un.kept kp, ⟨fun _ => none, ?_, fun i y av e1 e2 e3 => ?_⟩, fun y c e => ?_, ?_, fun y c e => ?_, fun p hp => ?_, I.hok.kept kp, by rw [wipe_length]; exact I.len⟩
  · show Heap.Ns _ cenv.locals _
    rw [hL]
    exact Heap.Ns.keeps (Heap.Ns.new ..) fun b o e => pushCells_keeps _ _ _ _ e
  · obtain ⟨e2, hne⟩ := wipe_some e2
    have hfr : scope.names.lookup y = some .free ∧ (cenv.kindOf y = some .cell ∨ cenv.kindOf y = some .free) := by
      have key : ∀ k, cenv.scope.names.lookup y = some k → k = .local ∨ k = .cell ∨ k = .free → scope.names.lookup y = some .free ∧ (cenv.kindOf y = some .cell ∨ cenv.kindOf y = some .free) := fun k hk hk' => by
        have hk0 := hk
        rw [hsc] at hk
        obtain ⟨k', e, r⟩ := lookup_relS hk
        have no : ¬ (k' = .local ∨ k' = .cell) := fun hh => by
          rcases ok.own _ (PySem.mem_of_lookup e) hh with e' | e'
          · obtain ⟨p, hp, hpy⟩ := List.mem_map.mp e'
            have e3 := ok.ix p hp
            have : p.1 = y := hpy
            rw [this] at e3
            exact hne (List.mem_map.mpr ⟨p, hp, nodup_ix hN e3 e1⟩)
          · exact e' (List.mem_of_getElem? e1)
        rcases r with rfl | ⟨rfl, rfl⟩
        · rcases hk' with rfl | rfl | rfl
          · exact absurd (.inl rfl) no
          · exact absurd (.inr rfl) no
          · exact ⟨e, .inr hk0⟩
        · exact ⟨e, .inl hk0⟩
      have e3 : Vis cenv.scope y := e3
      rcases e3 with e3 | e3 | e3
      · exact key _ e3 (.inl rfl)
      · exact key _ e3 (.inr (.inl rfl))
      · exact key _ e3 (.inr (.inr rfl))
    obtain ⟨m, hn, hl⟩ := I.loc
    have hvis : Vis X.env.scope y := (ok.free _ (PySem.mem_of_lookup hfr.1) rfl).elim (fun k => .inr (.inl k)) (fun k => .inr (.inr k))
    obtain ⟨w, r, q⟩ := hl i y av e1 e2 hvis
    refine ⟨w, r, .inr ⟨hfr.2, ?_⟩⟩
    obtain ⟨c, h1, h2⟩ := look hfr.1
    rcases q with ⟨k, _⟩ | ⟨_, c', e', z⟩
    · have k : X.env.scope.names.lookup y = some .local := k
      rcases ok.free _ (PySem.mem_of_lookup hfr.1) rfl with k' | k' <;> rw [show X.env.scope.names.lookup y = _ from k'] at k <;> cases k
    · rw [h2] at e'; cases e'
      exact ⟨c, h1, z.keeps kp⟩
  · have e : cenv.cells.lookup y = some c := e
    rcases mem e with ⟨h1, _⟩ | ⟨_, z⟩
    · obtain ⟨w, z⟩ := I.cell y c h1
      exact ⟨w, z.keeps kp⟩
    · exact ⟨_, z⟩
  · show H cenv.locals = none
    rw [hL]; exact I.hok.fresh (Nat.le_refl _)
  · have e : cenv.cells.lookup y = some c := e
    rcases mem e with ⟨h1, _⟩ | ⟨h1, _⟩
    · exact I.freeC y c h1
    · exact I.hok.fresh (Nat.le_of_succ_le h1)
  · exact absurd (show p ∈ ([] : List (Addr × Obj)) ++ [] from hp) (by simp)

/-- an item appended to a tracked list -/
theorem app_ok {E : Value → Shared → Prop} {D : Addr} {xs : List V} {y : V} {v : Value} {Q : Value → Shared → Prop} (I : Inv X pins σ H s) (hD : H D = some (.lst xs)) (hz : xs.length < sizeLine) (r : RelV y v)
    (h : ∀ s', Inv X pins σ (upd H D (.lst (xs ++ [y]))) s' → Q .none s') : wpAny (model X.prog X.w) X.A (call (.builtin "list.append") [.ref D, v]) Q E s := by
  obtain ⟨hz', its, n, ri, e⟩ := I.hok D _ hD
  have hl := ri.length
  refine append_at (hsz := by rw [List.size_toArray]; omega) e fun h' sb ho' => ?_
  refine h { s with heap := h' } (I.write (t' := s.toks) (by rw [hD]; trivial) (.inl rfl) (fun b u hb q => (sb.2 b hb).trans q) ⟨_, ho'⟩ ⟨by rw [List.length_append]; exact hz, its ++ [v], n + 1, ri.append (.cons r .nil), ?_⟩)
  rw [ho']
  simp

/-- a clause's tests -/
def PTs (X : Cx) (ifs : List Expr) (t : TT) : Prop :=
  ∀ (pins : List (Addr × Obj)) (s : Shared) (σ : St) (H : Hp) (Q : Bool → Hp → Prop), Inv X pins σ H s → t σ H Q →
    wpAny (model X.prog X.w) X.A (forIn ifs true fun c r => if r = true then do let ok ← isTrue c X.env (eval c X.env); pure (ForInStep.yield ok) else pure (ForInStep.yield r)) (TP X pins σ Q) X.xe s
def tYes : TT := fun _ H Q => Q true H
theorem pts_nil : PTs X [] tYes := fun _ _ _ H _ I h => wpAny_tests_nil ⟨H, I, h⟩
theorem pts_one {c : Expr} {t : TT} (h : PT X c t) : PTs X [c] t := fun pins s σ H Q I hw => wpAny_tests_one (h pins s σ H Q I hw)
end

theorem thnF {α : Type} {t : Sem α} {Q Q' : α → Shared → Prop} {M : Model} {A : Around} {E : Value → Shared → Prop} {s : Shared} (h : wpAny M A t Q (fun _ _ => False) s) (hQ : ∀ a s, Q a s → Q' a s) : wpAny M A t Q' E s := wpAny_mono h hQ fun _ _ z => False.elim z

/-- the loop of a list comprehension's block, the target of any form (codeAny_compLoop_tests asks a target that no tuple goes to; statement and proof follow it, PyProof/CompMap.lean:41-61, with the step letOwnedTupleGo kept) -/
theorem compLoop_any {prog : Program} {w : World} {A : Around} {R : Result → Shared → Prop} {s : Shared} {elt target iter : Expr} {ifs : List Expr} {scope : Scope} {pos : Pos} {it acc : Value} {env : Env} (I : Nat → Shared → Prop)
    (turn : ∀ n s, I n s → wpAny (model prog w) A (pyNext it) (fun r s₁ => match r with
      | none => R (.ok .next) s₁
      | some v => wpAny (model prog w) A (letOwnedTupleGo target it v) (fun _ s₁' => wpAny (model prog w) A (assign target env v) (fun _ s₂ =>
          wpAny (model prog w) A (forIn ifs true fun c r => if r = true then do let ok ← isTrue c env (eval c env); pure (ForInStep.yield ok) else pure (ForInStep.yield r)) (fun ok s₃ =>
            if ok = true then wpAny (model prog w) A (eval elt env) (fun x s₄ =>
              wpAny (model prog w) A (call (.builtin "list.append") [acc, x]) (fun _ s₅ => ∃ m, m < n ∧ I m s₅) (notedBy (model prog w) A env fun e s' => R (.error e) s') s₄) (notedBy (model prog w) A env fun e s' => R (.error e) s') s₃
            else ∃ m, m < n ∧ I m s₃) (notedBy (model prog w) A env fun e s' => R (.error e) s') s₂) (notedBy (model prog w) A env fun e s' => R (.error e) s') s₁') (notedBy (model prog w) A env fun e s' => R (.error e) s') s₁) (notedBy (model prog w) A env fun e s' => R (.error e) s') s)
    (n : Nat) (h : I n s) :
    codeAny (model prog w) A (.compLoop (.ListComp elt [⟨target, iter, ifs, 0⟩] scope pos) 0 it acc env) R s := by
  refine codeAny_loop rfl I (fun n s hI => ?_) n h
  show wpAny _ A ((compTurn (.ListComp elt [⟨target, iter, ifs, 0⟩] scope pos) 0 it acc env).onRaise (fun x => do noteFrame x env; theTreesLotGoes x)) _ _ s
  refine wpAny_noted ?_
  rw [compTurn_list]
  refine wpAny_bind (wpAny_standAt (wpAny_bind (wpAny_mono (turn n s hI) (fun r s₁ h₁ => ?_) fun _ _ h' => h')))
  cases r with
  | none => exact wpAny_pure h₁
  | some v =>
    refine wpAny_bind (wpAny_mono h₁ (fun _ s₁' h₁' => ?_) fun _ _ h' => h')
    refine wpAny_bind (wpAny_mono h₁' (fun _ s₂ h₂ => wpAny_bind (wpAny_mono h₂ (fun ok s₃ h₃ => ?_) fun _ _ h' => h')) fun _ _ h' => h')
    cases ok with
    | false => exact wpAny_pure ⟨rfl, h₃⟩
    | true =>
      exact wpAny_bind (wpAny_bind (wpAny_mono h₃ (fun x s₄ h₄ => wpAny_bind (wpAny_mono h₄ (fun _ s₅ h₅ => wpAny_pure (wpAny_pure ⟨rfl, h₅⟩)) fun _ _ h' => h')) fun _ _ h' => h'))

section
variable {X : Cx}
/-- [elt for target in iter if ..]: D the new list; W by the turn and a measure, Nx what a turn is to reach -/
def tLc (wi : TI) (g : TG) (tt : TT) (te : TE) (vs : List Nat) : TE := fun σ H Q => wi σ H fun J H1 => ∀ D, H1 D = none → ∃ W : Nat → Nat → Hp → Prop, (∃ m, W 0 m (upd H1 D (.lst []))) ∧ ∀ i m H, W i m H →
  (J.stop i H ∧ Q (.ref D) H) ∨ (J.go i H ∧ ∃ Nx : Hp → Prop, (∀ H', Nx H' → ∃ m', m' < m ∧ W (i + 1) m' H') ∧ ∀ x H', J.yld i H x H' → g x (wipe σ vs) H' fun σ2 H2 => wipe σ2 vs = wipe σ vs ∧ tt σ2 H2 fun b H3 =>
    if b = true then te σ2 H3 fun y H4 => ∃ acc, H4 D = some (.lst acc) ∧ acc.length < sizeLine ∧ Nx (upd H4 D (.lst (acc ++ [y]))) else Nx H3)
theorem lc_core {pins : List (Addr × Obj)} {s : Shared} {σ : St} {H : Hp} {Q : VK} {elt tg iter : Expr} {ifs : List Expr} {scope : Scope} {own : List (Str × Nat)} {pos pos' : Pos} {wi : TI} {g : TG} {tt : TT} {te : TE} {use : Option (Value → Sem Unit)} {Qf : Value → Shared → Prop}
    (hc : X.calm = true) (hN : X.N.Nodup) (I : Inv X pins σ H s) (hi : PI X tg iter wi) (ok : BlkOk X.N X.env.scope scope own)
    (hg : ∀ (s : Shared) (H : Hp) (C : Addr) (cl : List (Str × Addr)) (fp : List Addr), PG (X.blk s H scope (compEnvC scope cl C X.env) fp) tg g) (ht : ∀ (s : Shared) (H : Hp) (C : Addr) (cl : List (Str × Addr)) (fp : List Addr), PTs (X.blk s H scope (compEnvC scope cl C X.env) fp) ifs tt)
    (he : ∀ (s : Shared) (H : Hp) (C : Addr) (cl : List (Str × Addr)) (fp : List Addr), PE (X.blk s H scope (compEnvC scope cl C X.env) fp) elt te) (hs : ∀ x, foldedSetIterable iter X.env x = pure x)
    (h : tLc wi g tt te (own.map (·.2)) σ H Q)
    (hRR : ∀ D C s' m H', Inv X pins σ H' s' → Q (.ref D) H' → s'.heap.Ns C m → FpOk X pins H' C → compPost (model X.prog X.w) X.A X.xe use Qf (.ref D) C (.ok .next) s') :
    wpAny (model X.prog X.w) X.A (comprehension (.ListComp elt [⟨tg, iter, ifs, 0⟩] scope pos) scope X.env pos' (newList []) false (eval iter X.env) use) Qf X.xe s := by
  have hfree : ∀ y ∈ scope.names, y.2 = .free → ∃ c, X.env.cells.lookup y.1 = some c := fun y hy e => by
    rcases ok.free y hy e with k | k
    · exact I.ok.has _ (.inl k)
    · exact I.ok.has _ (.inr k)
  refine wpAny_comprehension_free (use := use) rfl hs (closure_ok hfree) ok.kind (fun y hy e => by rw [ok.uniq y hy, e])
    (thn (hi pins s σ H _ I h) fun xv s1 hx => thn hx fun itv s2 h2 => ?_)
  obtain ⟨it, fp, tn, J, H2, e, I2, T, st2, f2, q⟩ := h2
  subst e
  refine wpAny_newObj_type (newEnv_comp ?_) (by show 0 ≤ sizeLine; decide)
  generalize hD : s2.heap.objs.size = D
  have hDn : H2 D = none := I2.hok.fresh (Nat.le_of_eq hD)
  obtain ⟨W, ⟨m0, w0⟩, turn⟩ := q D hDn
  -- the new list
  generalize hs3 : ({ s2 with heap := s2.heap.push { cls := .type "list", data := .seq ([] : List Value).toArray } } : Shared) = s3
  have I3 : Inv X pins σ (upd H2 D (.lst [])) s3 := by
    rw [← hs3]
    refine I2.laid (t' := s2.toks) (fun b o e => Heap.get?_push_of_some _ e) (Nat.le_of_eq hD) ⟨Nat.zero_le _, [], 0, .nil, ?_⟩
    rw [← hD]
    exact Heap.get?_push_size _ rfl
  have h3 : s3.heap = s2.heap.push { cls := .type "list", data := .seq ([] : List Value).toArray } := by rw [← hs3]
  have sz : ∀ b ∈ fp, b < s2.heap.objs.size := fun b hb => by
    obtain ⟨o, e, _⟩ := T.obj _ _ st2 b hb
    exact Heap.lt_size e
  have f3 : ∀ b ∈ fp, FpOk X pins (upd H2 D (.lst [])) b ∧ b < s3.heap.objs.size := fun b hb => by
    have hlt := sz b hb
    refine ⟨⟨?_, (f2 b hb).2⟩, by rw [h3, Heap.size_push]; exact Nat.lt_succ_of_lt hlt⟩
    rw [upd_ne (by rw [← hD]; exact Nat.ne_of_lt hlt)]
    exact (f2 b hb).1
  have st3 : tn 0 s3.heap := T.keep _ _ _ st2 fun b _ o e => by rw [h3]; exact Heap.get?_push_of_some _ e
  have I4 := block_start I3 ok hN f3
  have pg := hg s3 (upd H2 D (.lst [])) s3.heap.objs.size (cellsFrom (s3.heap.objs.size + 1) scope.names (cloFrom X.env.cells scope.names [])) fp
  have pt := ht s3 (upd H2 D (.lst [])) s3.heap.objs.size (cellsFrom (s3.heap.objs.size + 1) scope.names (cloFrom X.env.cells scope.names [])) fp
  have pe := he s3 (upd H2 D (.lst [])) s3.heap.objs.size (cellsFrom (s3.heap.objs.size + 1) scope.names (cloFrom X.env.cells scope.names [])) fp
  show codeAny _ _ (.compStart (.ListComp elt [⟨tg, iter, ifs, 0⟩] scope pos) 0 (.ref it) (.ref D) (compEnvC scope (cellsFrom (s3.heap.objs.size + 1) scope.names (cloFrom X.env.cells scope.names [])) s3.heap.objs.size X.env)) (compPost (model X.prog X.w) X.A X.xe use Qf (.ref D) s3.heap.objs.size) { s3 with heap := pushCells (s3.heap.push { cls := .type "dict", data := .dict #[] }) scope.names }
  have nfp : ∀ b ∈ fp, (upd H2 D (.lst [])) b = none := fun b hb => (f3 b hb).1.1
  generalize hce : compEnvC scope (cellsFrom (s3.heap.objs.size + 1) scope.names (cloFrom X.env.cells scope.names [])) s3.heap.objs.size X.env = ce at I4 pg pt pe ⊢
  have cL : ce.locals = s3.heap.objs.size := by subst hce; rfl
  generalize hH3 : upd H2 D (.lst []) = H3 at I3 I4 pg pt pe w0 nfp f3
  generalize hs4 : ({ s3 with heap := pushCells (s3.heap.push { cls := .type "dict", data := .dict #[] }) scope.names } : Shared) = s4 at I4 ⊢
  have st4 : tn 0 s4.heap := T.keep _ _ _ st3 fun b _ o e => by rw [← hs4]; exact pushCells_keeps _ _ _ _ (Heap.get?_push_of_some _ e)
  have stat : ∀ {σ' : St} {H' : Hp} {s' : Shared}, Inv (X.blk s3 H3 scope ce fp) [] σ' H' s' → (∀ b ∈ fp, H' b = none) → ∀ b ∈ fp, FpOk (X.blk s3 H3 scope ce fp) [] H' b := fun {σ' H' s'} I' hn b hb =>
    ⟨hn b hb, (I'.ok.exf b hb).1, I'.ok.exfs b hb, .inl hb, fun x c e => (I'.ok.exf b hb).2 x c e, fun p hp => absurd (show p ∈ ([] : List (Addr × Obj)) ++ [] from hp) (by simp)⟩
  have loop : codeAny (model X.prog X.w) X.A (.compLoop (.ListComp elt [⟨tg, iter, ifs, 0⟩] scope pos) 0 (.ref it) (.ref D) ce) (compPost (model X.prog X.w) X.A X.xe use Qf (.ref D) s3.heap.objs.size) s4 := by
    refine compLoop_any (fun n s' => ∃ i H', Inv (X.blk s3 H3 scope ce fp) [] (wipe σ (own.map (·.2))) H' s' ∧ tn i s'.heap ∧ (∀ b ∈ fp, H' b = none) ∧ W i n H') ?_ m0 ⟨0, H3, I4, st4, nfp, w0⟩
    rintro n s5 ⟨i, H5, I5, st5, n5, w5⟩
    rcases turn i n H5 w5 with ⟨stop, qq⟩ | ⟨go, Nx, hNx, step⟩
    · have td := T.done (X.blk s3 H3 scope ce fp) rfl rfl rfl hc i [] s5 _ H5 (fun _ _ => False) I5 (stat I5 n5) st5 stop
      refine thnF td fun r s6 ⟨hr, I6⟩ => ?_
      subst hr
      -- back in the def's context
      have I7 : Inv X pins σ H5 s6 := I3.call' (ch := fp) I6.os I6.base I6.hok I6.bare fun b hb => ⟨(f3 b hb).1.2.2.2.1, (f3 b hb).1.2.1, (f3 b hb).1.2.2.2.2.1, (f3 b hb).1.2.2.2.2.2⟩
      have nC : H5 s3.heap.objs.size = none := by
        have z : H5 ce.locals = none := I6.free
        rw [cL] at z
        exact z
      obtain ⟨m, hn, _⟩ := I6.loc
      have hn : s6.heap.Ns ce.locals m := hn
      rw [cL] at hn
      exact hRR D s3.heap.objs.size s6 m H5 I7 qq hn (I3.fpOk (Nat.le_refl _) nC)
    · have ti := T.item (X.blk s3 H3 scope ce fp) rfl rfl rfl hc i [] s5 _ H5 (fun _ _ => False) I5 (stat I5 n5) st5 go
      refine thnF ti fun r s6 ⟨u, hr, h6⟩ => ?_
      subst hr
      refine thnF h6 fun _ s7 ⟨x, H7, I7, r7, y7, st7, n7⟩ => ?_
      have I7' := I7.pinned (stat I7 n7) (T.obj _ _ st7)
      refine thnF (pg _ s7 _ H7 x u _ I7' r7 (step x H7 y7)) fun _ s8 ⟨σ8, H8, I8, hw8, q8⟩ => ?_
      refine thnF (pt _ s8 σ8 H8 _ I8 q8) fun b s9 ⟨H9, I9, q9⟩ => ?_
      -- the turn's end
      have fin : ∀ {s' : Shared} {H' : Hp}, Inv (X.blk s3 H3 scope ce fp) ([] ++ pinsAt fp s7.heap) σ8 H' s' → Nx H' → ∃ m, m < n ∧ ∃ i H', Inv (X.blk s3 H3 scope ce fp) [] (wipe σ (own.map (·.2))) H' s' ∧ tn i s'.heap ∧ (∀ b ∈ fp, H' b = none) ∧ W i m H' := fun {s' H'} I' nx => by
        obtain ⟨m', hm, w'⟩ := hNx H' nx
        have pin' : ∀ b ∈ fp, ∀ o, s7.heap.get? b = some o → s'.heap.get? b = some o ∧ H' b = none := fun b hb o e =>
          let z := I'.pin (b, o) (List.mem_append_right _ (List.mem_append_right _ (mem_pinsAt hb e)))
          ⟨z.1, z.2.1⟩
        have hl : (wipe σ (own.map (·.2))).length = σ8.length := by rw [← hw8, wipe_length]
        refine ⟨m', hm, i + 1, H', (I'.unpinned (pins := [])).weak hl (fun j v e => ?_), T.keep _ _ _ st7 fun b hb o e => (pin' b hb o e).1, fun b hb => ?_, w'⟩
        · rw [← hw8] at e
          exact (wipe_some e).1
        · obtain ⟨o, e, _⟩ := T.obj _ _ st7 b hb
          exact (pin' b hb o e).2
      cases b with
      | false =>
        simp only [Bool.false_eq_true, if_false] at q9 ⊢
        exact fin I9 q9
      | true =>
        simp only [if_true] at q9 ⊢
        refine thnF (pe _ s9 σ8 H9 _ I9 q9) fun z s10 ⟨yv, H10, I10, r10, acc, hD10, hz10, nx⟩ => ?_
        exact app_ok (X := X.blk s3 H3 scope ce fp) I10 hD10 hz10 r10 fun s11 I11 => fin I11 nx
  exact codeAny_compStart_list loop (T.self X.A 0 _ _ _ st4 loop)
/-- as a value -/
theorem pe_lc {elt tg iter : Expr} {ifs : List Expr} {scope : Scope} {own : List (Str × Nat)} {pos : Pos} {wi : TI} {g : TG} {tt : TT} {te : TE} (hc : X.calm = true) (hN : X.N.Nodup) (hi : PI X tg iter wi) (ok : BlkOk X.N X.env.scope scope own)
    (hg : ∀ (s : Shared) (H : Hp) (C : Addr) (cl : List (Str × Addr)) (fp : List Addr), PG (X.blk s H scope (compEnvC scope cl C X.env) fp) tg g) (ht : ∀ (s : Shared) (H : Hp) (C : Addr) (cl : List (Str × Addr)) (fp : List Addr), PTs (X.blk s H scope (compEnvC scope cl C X.env) fp) ifs tt)
    (he : ∀ (s : Shared) (H : Hp) (C : Addr) (cl : List (Str × Addr)) (fp : List Addr), PE (X.blk s H scope (compEnvC scope cl C X.env) fp) elt te) (hs : ∀ x, foldedSetIterable iter X.env x = pure x := by intro _; rfl) :
    PE X (.ListComp elt [⟨tg, iter, ifs, 0⟩] scope pos) (tLc wi g tt te (own.map (·.2))) := by
  intro pins s σ H Q I h
  rw [eval_ListComp]
  refine lc_core hc hN I hi ok hg ht he hs h fun D C s' m H' I' q hn f => ⟨m, hn, fun h'' sb => ?_⟩
  obtain ⟨f0, f1, f2, f3, f4, f5⟩ := f
  exact ⟨.ref D, H', I'.turned (t' := s'.toks) (fun b o hb e => (sb.2 b hb).trans e) f0 f1 f3 f4 f5, rfl, q⟩
/-- name = [..] on one line, the name a local -/
theorem ps_setLc {i : Nat} {y : Str} {py : Pos} {elt tg iter : Expr} {ifs : List Expr} {scope : Scope} {own : List (Str × Nat)} {pos spos : Pos} {wi : TI} {g : TG} {tt : TT} {te : TE} (hc : X.calm = true) (hN : X.N.Nodup) (hy : X.N[i]? = some y) (hyl : X.env.scope.names.lookup y = some .local)
    (hsw : swapsWith (.ListComp elt [⟨tg, iter, ifs, 0⟩] scope pos) (some (.Name y py)) spos.line X.env = pure true) (hi : PI X tg iter wi) (ok : BlkOk X.N X.env.scope scope own)
    (hg : ∀ (s : Shared) (H : Hp) (C : Addr) (cl : List (Str × Addr)) (fp : List Addr), PG (X.blk s H scope (compEnvC scope cl C X.env) fp) tg g) (ht : ∀ (s : Shared) (H : Hp) (C : Addr) (cl : List (Str × Addr)) (fp : List Addr), PTs (X.blk s H scope (compEnvC scope cl C X.env) fp) ifs tt)
    (he : ∀ (s : Shared) (H : Hp) (C : Addr) (cl : List (Str × Addr)) (fp : List Addr), PE (X.blk s H scope (compEnvC scope cl C X.env) fp) elt te) (hs : ∀ x, foldedSetIterable iter X.env x = pure x := by intro _; rfl) :
    PS X (.Assign [.Name y py] (.ListComp elt [⟨tg, iter, ifs, 0⟩] scope pos) spos) (tAsg (tLc wi g tt te (own.map (·.2))) (gName i)) := by
  intro pins s σ H D I h
  rw [exec_Assign_Name_used _ _ _ _ hsw]
  refine wpAny_bind (wpAny_standAt (wpAny_bind ?_))
  show wpAny _ X.A (do let _ ← comprehension (.ListComp elt [⟨tg, iter, ifs, 0⟩] scope pos) scope X.env (firstIterPos [⟨tg, iter, ifs, 0⟩] pos) (newList []) false (eval iter X.env) (some (assign (.Name y py) X.env))) _ _ s
  have h : tLc wi g tt te (own.map (·.2)) σ H (fun x H1 => gName i x σ H1 D.nx) := h
  refine wpAny_bind (thn (lc_core (Qf := fun _ s' => SP X pins D .next s') hc hN I hi ok hg ht he hs h fun L C s' m H' I' q hn f => ?_) fun _ s' hq => wpAny_pure (wpAny_pure hq))
  show wpAny _ _ (assign (.Name y py) X.env (.ref L)) _ _ _
  refine wpAny_assign_Name (store_ok2 (v := V.ref L) I' hN hy (.inl hyl) rfl (fun s2 I2 ⟨a, sb, ha⟩ => ?_) (.inr hyl))
  obtain ⟨f0, f1, f2, f3, f4, f5⟩ := f
  have haC : C ≠ a := by
    rcases ha with z | z
    · rw [z]; exact f1
    · exact fun e => f4 y a z e.symm
  refine ⟨m, hn.sameBut sb haC, fun h3 sb3 => ?_⟩
  exact ⟨_, H', I2.turned (t' := s2.toks) (fun b o hb e => (sb3.2 b hb).trans e) f0 f1 f3 f4 f5, q⟩
theorem sw_true {elt : Expr} {gs : List Comprehension} {scope : Scope} {pos py : Pos} {y : Str} {l : Nat} {env : Env} (hk : env.scope.kind = .function) (hy : env.scope.names.lookup y = some .local) (hl : (py.line == pos.line) = true)
    (ha : (scope.names.any fun (n, k) => n == y && (k == .local || k == .cell)) = false) : swapsWith (.ListComp elt gs scope pos) (some (.Name y py)) l env = pure true := by
  have ky : env.kindOf y = some .local := hy
  have hb : env.blockKind = .function := by unfold Env.blockKind; rw [hk]; rfl
  unfold swapsWith
  simp only [hb, ky, ha, Expr.pos, hl]
  rfl
end

/-! ### the forms one uses -/

/-- over a list that the block leaves as it is -/
theorem lc_list {K : PySem.W.Frag} {a : Addr} {xs : List V} {g : TG} {tt : TT} {te : TE} {vs : List Nat} {σ : St} {H1 : Hp} {D : Addr} {Qd : Hp → Prop} (Pv : Nat → Hp → Prop) (h0 : Pv 0 (upd H1 D (.lst []))) (hl : ∀ i H, i ≤ xs.length → Pv i H → SqL K H a xs)
    (hs : ∀ i x H, xs[i]? = some x → Pv i H → g x (wipe σ vs) H fun σ2 H2 => wipe σ2 vs = wipe σ vs ∧ tt σ2 H2 fun b H3 =>
      if b = true then te σ2 H3 fun y H4 => ∃ acc, H4 D = some (.lst acc) ∧ acc.length < sizeLine ∧ Pv (i + 1) (upd H4 D (.lst (acc ++ [y]))) else Pv (i + 1) H3) (hd : ∀ H, Pv xs.length H → Qd H) :
    ∃ W : Nat → Nat → Hp → Prop, (∃ m, W 0 m (upd H1 D (.lst []))) ∧ ∀ i m H, W i m H →
      ((Itl K a).stop i H ∧ Qd H) ∨ ((Itl K a).go i H ∧ ∃ Nx : Hp → Prop, (∀ H', Nx H' → ∃ m', m' < m ∧ W (i + 1) m' H') ∧ ∀ x H', (Itl K a).yld i H x H' → g x (wipe σ vs) H' fun σ2 H2 => wipe σ2 vs = wipe σ vs ∧ tt σ2 H2 fun b H3 =>
        if b = true then te σ2 H3 fun y H4 => ∃ acc, H4 D = some (.lst acc) ∧ acc.length < sizeLine ∧ Nx (upd H4 D (.lst (acc ++ [y]))) else Nx H3) := by
  refine ⟨fun i m H => m = xs.length - i ∧ i ≤ xs.length ∧ Pv i H, ⟨xs.length, by simp, Nat.zero_le _, h0⟩, ?_⟩
  rintro i m H ⟨rfl, hi, p⟩
  have q := hl i H hi p
  by_cases hlt : i < xs.length
  · refine .inr ⟨⟨xs, xs[i], q, by simp [hlt]⟩, Pv (i + 1), fun H' p' => ⟨xs.length - (i + 1), by omega, rfl, hlt, p'⟩, fun x H' y => ?_⟩
    obtain ⟨e, y⟩ := y
    subst e
    exact hs i x _ (y xs q) p
  · have e : i = xs.length := by omega
    subst e
    exact .inl ⟨⟨xs, q, Nat.le_refl _⟩, hd H p⟩

def blkC (N : List Str) (sc scope : Scope) (own : List (Str × Nat)) : Bool :=
  (match scope.kind with | .function => true | _ => false) && (scope.names.all fun y => decide (scope.names.lookup y.1 = some y.2)) && (own.all fun p => decide (N[p.2]? = some p.1)) &&
    (scope.names.all fun y => match y.2 with
      | .free => (match sc.names.lookup y.1 with | some .cell => true | some .free => true | _ => false)
      | .local => decide (y.1 ∈ own.map (·.1)) || decide (y.1 ∉ N)
      | .cell => decide (y.1 ∈ own.map (·.1)) || decide (y.1 ∉ N)
      | _ => true)
theorem blkOk_by {N : List Str} {sc scope : Scope} {own : List (Str × Nat)} (h : blkC N sc scope own = true) : BlkOk N sc scope own := by
  unfold blkC at h
  simp only [Bool.and_eq_true, List.all_eq_true, decide_eq_true_eq] at h
  obtain ⟨⟨⟨h1, h2⟩, h3⟩, h4⟩ := h
  refine ⟨?_, h2, h3, fun y hy e => ?_, fun y hy e => ?_⟩
  · split at h1
    · assumption
    · cases h1
  · have q := h4 y hy
    simp only [e] at q
    split at q <;> first | exact .inl (by assumption) | exact .inr (by assumption) | cases q
  · have q := h4 y hy
    rcases e with e | e <;> (simp only [e, Bool.or_eq_true, decide_eq_true_eq] at q; exact q)
end L2

namespace L2
open PySem PySem.Spec PyProof.Rows

section
variable {prog : Program} {w : World} {A : Around} {R : Result → Shared → Prop} {s : Shared} {elt t0 i0 t1 i1 : Expr} {ifs0 ifs1 : List Expr} {scope : Scope} {pos : Pos} {it acc : Value} {env : Env}

end

section
variable {X : Cx}

end
end L2

namespace L2
open PySem PySem.Spec PyProof.Rows

/-! ### lists of pairs as tables -/
section
variable {κ : Type} [DecidableEq κ]
def valV (kvs : List (κ × V)) (k : κ) : Option V := (kvs.find? fun kv => decide (kv.1 = k)).map (·.2)
/-- in its place, or at the end -/
def putK (kvs : List (κ × V)) (k : κ) (v : V) : List (κ × V) :=
  if (kvs.any fun kv => decide (kv.1 = k)) = true then kvs.map (fun kv => if kv.1 = k then (kv.1, v) else kv) else kvs ++ [(k, v)]

theorem valV_pos {p : κ × V} {r : List (κ × V)} {k : κ} (e : p.1 = k) : valV (p :: r) k = some p.2 := by simp [valV, List.find?_cons, e]
theorem valV_neg {p : κ × V} {r : List (κ × V)} {k : κ} (e : ¬ p.1 = k) : valV (p :: r) k = valV r k := by simp [valV, List.find?_cons, e]
theorem valV_any (k : κ) : ∀ kvs : List (κ × V), (kvs.any fun kv => decide (kv.1 = k)) = (valV kvs k).isSome
  | [] => rfl
  | p :: r => by
    rw [List.any_cons]
    by_cases e : p.1 = k
    · simp only [valV_pos e, decide_eq_true e, Bool.true_or, Option.isSome_some]
    · rw [valV_neg e, decide_eq_false e, Bool.false_or]; exact valV_any k r

theorem length_putK (kvs : List (κ × V)) (k : κ) (v : V) : (putK kvs k v).length ≤ kvs.length + 1 := by
  unfold putK
  split
  · rw [List.length_map]; omega
  · rw [List.length_append, List.length_cons, List.length_nil]; omega

theorem RelO.isSome_eq {o : Option V} {u : Option Value} (r : RelO o u) : o.isSome = u.isSome := by
  cases o with
  | none => cases u with
    | none => rfl
    | some _ => exact (show False from r).elim
  | some _ => cases u with
    | none => exact (show False from r).elim
    | some _ => rfl
theorem RelO.getD {o : Option V} {u : Option Value} {d : V} {d' : Value} (r : RelO o u) (rd : RelV d d') : RelV (o.getD d) (u.getD d') := by
  cases o with
  | none => cases u with
    | none => exact rd
    | some _ => exact (show False from r).elim
  | some _ => cases u with
    | none => exact (show False from r).elim
    | some _ => exact r

/-- raw tables of the same keys -/
theorem KV.val {kvs : List (κ × V)} {vs : List (κ × Value)} (r : KV kvs vs) (k : κ) : RelO (valV kvs k) (valueAt vs k) := by
  unfold KV at r
  induction r with
  | nil => exact True.intro
  | @cons p q ps qs h t ih =>
    obtain ⟨h1, h2⟩ := h
    by_cases e : p.1 = k
    · have e' : q.1 = k := h1.symm.trans e
      have b : valueAt (q :: qs) k = some q.2 := by simp [valueAt, List.find?_cons, e']
      rw [valV_pos e, b]; exact h2
    · have e' : ¬ q.1 = k := fun z => e (h1.trans z)
      have b : valueAt (q :: qs) k = valueAt qs k := by simp [valueAt, List.find?_cons, e']
      rw [valV_neg e, b]; exact ih
theorem KV.any {kvs : List (κ × V)} {vs : List (κ × Value)} (r : KV kvs vs) (k : κ) : (kvs.any fun kv => decide (kv.1 = k)) = vs.any fun kv => decide (kv.1 = k) := by
  unfold KV at r
  induction r with
  | nil => rfl
  | cons h t ih => rw [List.any_cons, List.any_cons, ih, h.1]
theorem KV.repl {kvs : List (κ × V)} {vs : List (κ × Value)} (r : KV kvs vs) (k : κ) {y : V} {u : Value} (ry : RelV y u) :
    KV (kvs.map fun kv => if kv.1 = k then (kv.1, y) else kv) (vs.map fun kv => if kv.1 = k then (kv.1, u) else kv) := by
  unfold KV at r ⊢
  induction r with
  | nil => exact .nil
  | @cons p q ps qs h t ih =>
    rw [List.map_cons, List.map_cons]
    refine .cons ?_ ih
    obtain ⟨h1, h2⟩ := h
    by_cases e : p.1 = k
    · rw [if_pos e, if_pos (h1.symm.trans e)]; exact ⟨h1, ry⟩
    · rw [if_neg e, if_neg (fun z => e (h1.trans z))]; exact ⟨h1, h2⟩
theorem KV.put {kvs : List (κ × V)} {vs : List (κ × Value)} (r : KV kvs vs) (k : κ) {y : V} {u : Value} (ry : RelV y u) : KV (putK kvs k y) (stored vs k u) := by
  unfold putK stored
  rw [r.any k]
  by_cases e : (vs.any fun kv => decide (kv.1 = k)) = true
  · rw [if_pos e, if_pos e]; exact r.repl k ry
  · rw [if_neg e, if_neg e]; exact Paired.snoc r ⟨rfl, ry⟩

theorem KV.length {kvs : List (κ × V)} {vs : List (κ × Value)} (r : KV kvs vs) : kvs.length = vs.length := Paired.length r

end

/-! ### a tracked dict, its keys ints and texts or tuples of these -/
theorem kV_is {P : Program} {w : World} {k : Key} {u : Value} (r : RelV (kV k) u) : (mixKind P w).is k u = true := by
  cases k with
  | inl i => obtain ⟨t, e⟩ := (show ∃ t, u = Value.int i t from r); subst e; exact mixKind_int P w i t
  | inr x => obtain ⟨t, e⟩ := (show ∃ t, u = Value.str x t from r); subst e; exact mixKind_str P w x t

theorem items_are {P : Program} {w : World} : ∀ {ks : List Key} {us : List Value}, Vals (ks.map kV) us → ItemsAre (mixKind P w) ks us
  | [], _, r => by rw [List.map_nil] at r; cases r; exact .nil
  | k :: ks, _, r => by
    rw [List.map_cons] at r
    cases r with
    | cons h t => exact .cons (kV_is h) (items_are t)

/-- raw entries of a dict with tuple keys -/
abbrev KT (H : Hp) : List (List Key × V) → List (List Key × Addr × Value) → Prop := Paired fun p q => p.1 = q.1 ∧ H q.2.1 = some (.tup (p.1.map kV)) ∧ RelV p.2 q.2.2
theorem KT.val {H : Hp} {kvs : List (List Key × V)} {xs : List (List Key × Addr × Value)} (r : KT H kvs xs) (k : List Key) : RelO (valV kvs k) ((atKey xs k).map (·.2)) := by
  induction r with
  | nil => exact True.intro
  | @cons p q ps qs h t ih =>
    obtain ⟨h1, _, h2⟩ := h
    by_cases e : p.1 = k
    · have e' : q.1 = k := h1.symm.trans e
      have b : atKey (q :: qs) k = some q.2 := by simp [atKey, List.find?_cons, e']
      rw [valV_pos e, b]; exact h2
    · have e' : ¬ q.1 = k := fun z => e (h1.trans z)
      have b : atKey (q :: qs) k = atKey qs k := by simp [atKey, List.find?_cons, e']
      rw [valV_neg e, b]; exact ih
theorem KT.repl {H : Hp} {kvs : List (List Key × V)} {xs : List (List Key × Addr × Value)} (r : KT H kvs xs) (k : List Key) {y : V} {u : Value} (ry : RelV y u) :
    KT H (kvs.map fun kv => if kv.1 = k then (kv.1, y) else kv) (xs.map (putAt k u)) := by
  induction r with
  | nil => exact .nil
  | @cons p q ps qs h t ih =>
    rw [List.map_cons, List.map_cons]
    refine .cons ?_ ih
    obtain ⟨h1, h2, h3⟩ := h
    unfold putAt
    by_cases e : p.1 = k
    · rw [if_pos e, if_pos (h1.symm.trans e)]; exact ⟨h1, h2, ry⟩
    · rw [if_neg e, if_neg (fun z => e (h1.trans z))]; exact ⟨h1, h2, h3⟩
theorem KT.put {H : Hp} {kvs : List (List Key × V)} {xs : List (List Key × Addr × Value)} (r : KT H kvs xs) (k : List Key) {b : Addr} {y : V} {u : Value} (hb : H b = some (.tup (k.map kV))) (ry : RelV y u) :
    KT H (putK kvs k y) (storedH xs k b u) := by
  have e : (kvs.any fun kv => decide (kv.1 = k)) = (atKey xs k).isSome := by
    rw [valV_any, (r.val k).isSome_eq, Option.isSome_map]
  unfold putK storedH
  rw [e]
  by_cases q : (atKey xs k).isSome = true
  · rw [if_pos q, if_pos q]; exact r.repl k ry
  · rw [if_neg q, if_neg q]; exact Paired.snoc r ⟨rfl, hb, ry⟩
theorem KT.keeps {H H' : Hp} {kvs : List (List Key × V)} {xs : List (List Key × Addr × Value)} (r : KT H kvs xs) (ht : ∀ b ys, H b = some (.tup ys) → H' b = some (.tup ys)) : KT H' kvs xs :=
  Paired.mapP r fun _ _ z => ⟨z.1, ht _ _ z.2.1, z.2.2⟩

section
variable {P : Program} {w : World} {H : Hp} {h : Heap} {a : Addr}
theorem rd_of {u : HO} (ok : HOk P w H h) (e : Rd H a u) : ObjOk P w H h a u := e.ok ok
theorem dk_rd {kvs : List (Key × V)} (ok : HOk P w H h) (e : Rd H a (.dK kvs)) : kvs.length ≤ sizeLine ∧ (a == sysModules) = false ∧ ∃ vs, KV kvs vs ∧ h.DictOf (mixKind P w) a vs :=
  show ObjOk P w H h a (.dK kvs) from rd_of ok e
theorem dk_of {kvs : List (Key × V)} (ok : HOk P w H h) (e : H a = some (.dK kvs)) : kvs.length ≤ sizeLine ∧ (a == sysModules) = false ∧ ∃ vs, KV kvs vs ∧ h.DictOf (mixKind P w) a vs := dk_rd ok (.inl e)
/-- a tracked tuple of ints and texts is a key -/
theorem key_of {ks : List Key} (ok : HOk P w H h) (e : H a = some (.tup (ks.map kV))) : (tupleKind (mixKind P w)).is h ks a := by
  obtain ⟨_, its, r, o, h1, h2, n, h3⟩ := (show ObjOk P w H h a (.tup (ks.map kV)) from ok a _ e)
  exact ⟨o, its.toArray, n, h1, h2, h3, by simpa using items_are r⟩
theorem dt_rd {kvs : List (List Key × V)} (ok : HOk P w H h) (e : Rd H a (.dT kvs)) : kvs.length ≤ sizeLine ∧ (a == sysModules) = false ∧
    ∃ xs, KT H kvs xs ∧ h.DictOfH (tupleKind (mixKind P w)) a xs := by
  obtain ⟨z, y, xs, r, o, es, ep, h1, h2, h3, h4, h5⟩ := (show ObjOk P w H h a (.dT kvs) from rd_of ok e)
  refine ⟨z, y, xs, r, o, es, ep, h1, h2, h3, h4, fun x hx => ?_, h5⟩
  have all : ∀ {l : List (List Key × V)} {m : List (List Key × Addr × Value)}, KT H l m → ∀ x ∈ m, (tupleKind (mixKind P w)).is h x.1 x.2.1 := by
    intro l m q
    induction q with
    | nil => intro x hx; exact nomatch hx
    | @cons p q ps qs hq t ih =>
      intro x hx
      rcases List.mem_cons.mp hx with e | hx
      · subst e
        exact key_of ok (by rw [← hq.1]; exact hq.2.1)
      · exact ih x hx
  exact all r x hx
theorem dt_of {kvs : List (List Key × V)} (ok : HOk P w H h) (e : H a = some (.dT kvs)) : kvs.length ≤ sizeLine ∧ (a == sysModules) = false ∧
    ∃ xs, KT H kvs xs ∧ h.DictOfH (tupleKind (mixKind P w)) a xs := dt_rd ok (.inl e)
end

/-- what the dict at a holds at the key y -/
def DGet (H : Hp) (a : Addr) (y : V) (r : Option V) : Prop :=
  (∃ kvs k, Rd H a (.dK kvs) ∧ y = kV k ∧ r = valV kvs k) ∨ ∃ kvs k b, Rd H a (.dT kvs) ∧ y = .ref b ∧ H b = some (.tup (k.map kV)) ∧ r = valV kvs k
/-- the heap behind a[y] = v -/
def DPut (H : Hp) (a : Addr) (y v : V) (H' : Hp) : Prop :=
  (∃ kvs k, H a = some (.dK kvs) ∧ y = kV k ∧ kvs.length < sizeLine ∧ H' = upd H a (.dK (putK kvs k v))) ∨
  ∃ kvs k b, H a = some (.dT kvs) ∧ y = .ref b ∧ H b = some (.tup (k.map kV)) ∧ kvs.length < sizeLine ∧ H' = upd H a (.dT (putK kvs k v))

theorem DGet.t {H : Hp} {a b : Addr} {kvs : List (List Key × V)} {k : List Key} (e : H a = some (.dT kvs)) (eb : H b = some (.tup (k.map kV))) : DGet H a (.ref b) (valV kvs k) := .inr ⟨kvs, k, b, .inl e, rfl, eb, rfl⟩

theorem DPut.t {H : Hp} {a b : Addr} {kvs : List (List Key × V)} {k : List Key} {v : V} (e : H a = some (.dT kvs)) (eb : H b = some (.tup (k.map kV))) (hl : kvs.length < sizeLine) :
    DPut H a (.ref b) v (upd H a (.dT (putK kvs k v))) := .inr ⟨kvs, k, b, e, rfl, eb, hl, rfl⟩

section
variable {X : Cx} {pins : List (Addr × Obj)} {σ : St} {H : Hp} {s : Shared} {a : Addr} {y v : V} {u r : Value} {o : Option V} {A : Around} {E : Value → Shared → Prop}

theorem Inv.big (I : Inv X pins σ H s) : sysModules < s.heap.objs.size := by
  have h : mainGlobals < s.heap.objs.size := (I.mod.glob.keeps I.bk).lt
  exact Nat.lt_trans (by decide) h

/-- d[y], there -/
theorem d_getItem {Q : Value → Shared → Prop} (hu : A.units + 1 < cLine) (I : Inv X pins σ H s) (g : DGet H a y (some v)) (ry : RelV y u) (h : ∀ w' s', Inv X pins σ H s' → RelV v w' → Q w' s') :
    wpAny (model X.prog X.w) A (getItem (.ref a) u) Q E s := by
  rcases g with ⟨kvs, k, e, ey, l⟩ | ⟨kvs, k, b, e, ey, eb, l⟩
  · subst ey
    obtain ⟨z, hd, vs, rel, dd⟩ := dk_rd I.hok e
    obtain ⟨w', hw, rw'⟩ := RelO.some_of (v := v) (o := valueAt vs k) (by rw [l]; exact rel.val k)
    exact wpAny_getItem_of (kV_is ry) dd.mapOf hw (h w' _ (I.tok _) rw')
  · subst ey
    cases (show u = Value.ref b from ry)
    obtain ⟨z, hd, xs, rel, dd⟩ := dt_rd I.hok e
    obtain ⟨w', hw, rw'⟩ := RelO.some_of (v := v) (o := (atKey xs k).map (·.2)) (by rw [l]; exact rel.val k)
    obtain ⟨p, hp, hp2⟩ := Option.map_eq_some_iff.mp hw
    refine wpAny_getItem_heap (tupleKind_room_in1 hu) (key_of I.hok eb) dd hp ?_
    rw [hp2]
    exact h w' _ (I.tok _) rw'

/-- a dict's object is replaced -/
theorem d_write {h' : Heap} {t' : Nat} {ob : HO} (I : Inv X pins σ H s) (mu : Mut (H a)) (hs : Heap.SameBut a s.heap h') (he : ∃ q, h'.get? a = some q) (new : ObjOk X.prog X.w (upd H a ob) h' a ob) :
    Inv X pins σ (upd H a ob) { s with heap := h', toks := t' } :=
  I.write (x := a) (e := a) mu (.inl rfl) (fun b q hb z => (hs.2 b hb).trans z) he new
theorem dk_new {P : Program} {w : World} {H' : Hp} {h' : Heap} {kvs : List (Key × V)} {vs : List (Key × Value)} (z : kvs.length ≤ sizeLine) (hd : (a == sysModules) = false) (rel : KV kvs vs) (dd : h'.DictOf (mixKind P w) a vs) :
    ObjOk P w H' h' a (.dK kvs) := ⟨z, hd, vs, rel, dd⟩
/-- d[y] = v -/
theorem d_setItem {H' : Hp} {Q : Unit → Shared → Prop} (hu : A.units + 1 < cLine) (I : Inv X pins σ H s) (g : DPut H a y v H') (ry : RelV y u) (rv : RelV v r) (h : ∀ s', Inv X pins σ H' s' → Q () s') :
    wpAny (model X.prog X.w) A (setItem (.ref a) u r) Q E s := by
  rcases g with ⟨kvs, k, e, ey, l, eH⟩ | ⟨kvs, k, b, e, ey, eb, l, eH⟩
  · subst ey eH
    obtain ⟨z, hd, vs, rel, dd⟩ := dk_of I.hok e
    have hz : vs.length ≤ sizeLine := by rw [← rel.length]; exact z
    have hl : (putK kvs k v).length ≤ sizeLine := by have := length_putK kvs k v; omega
    refine wpAny_setItem_pairs (hsz := hz) (kV_is ry) dd fun h' dd' hs => h _ ?_
    have he : ∃ q, h'.get? a = some q := let ⟨q, _, _, hq, _⟩ := dd'; ⟨q, hq⟩
    exact d_write I (by rw [e]; exact True.intro) hs he (dk_new hl hd (rel.put k rv) dd')
  · subst ey eH
    cases (show u = Value.ref b from ry)
    obtain ⟨z, hd, xs, rel, dd⟩ := dt_of I.hok e
    have hz : xs.length ≤ sizeLine := by rw [← Paired.length rel]; exact z
    have hl : (putK kvs k v).length ≤ sizeLine := by have := length_putK kvs k v; omega
    refine wpAny_setItem_heap (hsz := hz) (tupleKind_room_in1 hu) (key_of I.hok eb) dd fun h' dd' hs => h _ ?_
    obtain ⟨q, es, ep, hq, h2, h3, h4, _, h5⟩ := dd'
    refine d_write I (by rw [e]; exact True.intro) hs ⟨q, hq⟩ ⟨hl, hd, _, (rel.put k eb rv).keeps fun c ys ec => ?_, q, es, ep, hq, h2, h3, h4, h5⟩
    rw [upd_ne (ne_of ec e (fun z => nomatch z))]
    exact ec
end

section
variable {X : Cx} {pins : List (Addr × Obj)} {σ : St} {H : Hp} {s : Shared} {a : Addr} {kvs : List (Key × V)} {k : Key} {u : Value} {A : Around} {E : Value → Shared → Prop}

end

/-! ### readings and rules -/
/-- the element of a subscription, not a slice -/
def NoSl (i : Expr) : Prop := ∀ ov iv, subscripted i false ov iv = operate [ov, iv] (getItem ov iv)
theorem subD_of {prog : Program} {w : World} {A : Around} {E : Value → Shared → Prop} {s : Shared} {env : Env} {value slice : Expr} {pos : Pos} {T id : String} {Q : Value → Shared → Prop}
    (hl : typeLookup (.type T) "__getitem__" = pure (some (.builtin id))) (hs : NoSl slice)
    (h : wpAny (model prog w) A (eval value env) (fun o s₁ => wpAny (model prog w) A (eval slice env) (fun i s₂ => s₂.TypeIs o T ∧ wpAny (model prog w) A (getItem o i) Q E s₂) E s₁) E s) :
    wpAny (model prog w) A (eval (.Subscript value slice pos) env) Q E s := by
  refine Subscript_ (wpAny_mono h (fun o s₁ h₁ => wpAny_mono h₁ (fun i s₂ h₂ => ?_) fun _ _ x => x) fun _ _ x => x)
  obtain ⟨hT, h₂⟩ := h₂
  unfold subscriptTail
  refine wpAny_bind ?_
  rw [getitemInPython_of_ne hT.not_modules]
  refine wpAny_bind (wpAny_specialOf hT hl ?_)
  have fin : wpAny (model prog w) A (subscripted slice false o i) (fun r s₃ => wpAny (model prog w) A (letTemporaryGo value o r >>= fun _ => pure r) Q E s₃) E s₂ := by
    rw [hs o i]
    exact wpAny_operating (wpAny_mono h₂ (fun r s₃ h₃ => wpAny_bind (wpAny_letTemporaryGo (wpAny_pure h₃))) fun _ _ x => x)
  first
    | exact wpAny_pure (wpAny_bind fin)
    | exact wpAny_bind (wpAny_pure (wpAny_bind fin))
    | exact wpAny_bind fin

theorem dict_typeIs {X : Cx} {pins : List (Addr × Obj)} {σ : St} {H : Hp} {s : Shared} {a : Addr} {y : V} {o : Option V} (I : Inv X pins σ H s) (g : DGet H a y o) : s.TypeIs (.ref a) "dict" := by
  rcases g with ⟨kvs, k, e, _, _⟩ | ⟨kvs, k, b, e, _, _, _⟩
  · obtain ⟨_, _, vs, _, dd⟩ := dk_rd I.hok e
    exact dd.typeIs
  · obtain ⟨_, _, xs, _, dd⟩ := dt_rd I.hok e
    exact dd.typeIs

/-- d[y] -/
def tDGet (td ty : TE) : TE := fun σ H Q => td σ H fun x H1 => ty σ H1 fun y H2 => ∃ a v, x = .ref a ∧ DGet H2 a y (some v) ∧ Q v H2

/-- d[y] = v -/
def sDPut (td ty tv : TE) : TS := fun D σ H => tv σ H fun v H1 => td σ H1 fun x H2 => ty σ H2 fun y H3 => ∃ a H4, x = .ref a ∧ DPut H3 a y v H4 ∧ D.nx σ H4

section
variable {X : Cx} {o i e value : Expr} {pos pos' tpos : Pos} {td ty tv : TE}
theorem pe_dget (hu : X.A.units + 1 < cLine) (ho : PE X o td) (hi : PE X i ty) (hs : NoSl i) : PE X (.Subscript o i pos) (tDGet td ty) := by
  intro pins s σ H Q I h
  refine subD_of PySem.F.slot_dict_getitem.lookup hs (thn (ho pins s σ H _ I h) fun u s1 ⟨x, H1, I1, rx, q1⟩ => thn (hi pins s1 σ H1 _ I1 q1) fun iv s2 ⟨y, H2, I2, ry, a, v, ex, g, q2⟩ => ?_)
  subst ex
  obtain rfl : u = Value.ref a := rx
  exact ⟨dict_typeIs I2 g, d_getItem hu I2 g ry fun w' s3 I3 rw' => ⟨v, H2, I3, rw', q2⟩⟩

theorem ps_dput (hu : X.A.units + 1 < cLine) (ho : PE X o td) (hi : PE X i ty) (hv : PE X value tv) (hs : swapsWith value (some (.Subscript o i pos')) pos.line X.env = pure false) :
    PS X (.Assign [.Subscript o i pos'] value pos) (sDPut td ty tv) := by
  intro pins s σ H D I h
  refine wpAny_Assign_Subscript (thn (hv pins s σ H _ I h) fun r s1 ⟨v, H1, I1, rv, q1⟩ => thn (ho pins s1 σ H1 _ I1 q1) fun u s2 ⟨x, H2, I2, rx, q2⟩ => thn (hi pins s2 σ H2 _ I2 q2) fun iv s3 ⟨y, H3, I3, ry, a, H4, ex, g, q3⟩ => ?_) hs
  subst ex
  obtain rfl : u = Value.ref a := rx
  exact d_setItem hu I3 g ry rv fun s4 I4 => ⟨σ, H4, I4, q3⟩

end

/-! ### displays -/

theorem dt_empty {P : Program} {w : World} {H : Hp} (h : Heap) (hb : sysModules < h.objs.size) : ObjOk P w H (h.push { cls := .type "dict", data := .dict #[] }) h.objs.size (.dT []) :=
  ⟨Nat.zero_le _, beq_eq_false_iff_ne.mpr (Ne.symm (Nat.ne_of_lt hb)), [], .nil, _, #[], 0, Heap.get?_push_size _ rfl, ⟨rfl, rfl, rfl⟩, rfl, rfl, List.nodup_nil⟩

def tDNewT : TE := fun _ H Q => ∀ p, H p = none → Q (.ref p) (upd H p (.dT []))
section
variable {X : Cx} {pos : Pos}

theorem pe_dnewT : PE X (.Dict [] [] pos) tDNewT := fun pins s σ H Q I h =>
  wpAny_Dict_empty ⟨.ref s.heap.objs.size, _, I.laid (a := s.heap.objs.size) (o := .dT []) (t' := s.toks) (fun _ _ q => Heap.get?_push_of_some _ q) (Nat.le_refl _) (dt_empty s.heap I.big), rfl, h _ (I.hok.fresh (Nat.le_refl _))⟩
end

/-! ### methods -/

structure M2 (X : Cx) (o : Expr) (m : Str) (apos : Pos) (e f : Expr) (cpos : Pos) : Prop where
  base : attributeBase o m X.env (eval o X.env) = eval o X.env
  few : ((backTo cpos (starEach [e, f] X.env)).all (fun x => !x.1) && (backToKw cpos (keywordEach [] X.env)).all (fun x => x.1.isSome)
    && decide (([e, f] : List Expr).length + ([] : List Keyword).length + (if ([] : List Keyword).isEmpty then 0 else 1) < 30)) = true
  line : (apos.endLine == cpos.line) = true
  trees : backTo cpos (starEach [e, f] X.env) = [(false, eval e X.env), (false, eval f X.env)]

/-- a is a dict, whatever its keys -/
def IsD (H : Hp) (a : Addr) : Prop := (∃ kvs, Rd H a (.dK kvs)) ∨ ∃ kvs, Rd H a (.dT kvs)
theorem isD_at {X : Cx} {pins : List (Addr × Obj)} {σ : St} {H : Hp} {s : Shared} {a : Addr} (I : Inv X pins σ H s) (d : IsD H a) :
    s.TypeIs (.ref a) "dict" ∧ (∀ b, Value.ref a = .ref b → ∃ ob, s.heap.get? b = some ob ∧ ob.dict = none) ∧ (a == sysModules) = false := by
  rcases d with ⟨kvs, e⟩ | ⟨kvs, e⟩
  · obtain ⟨_, hd, vs, _, dd⟩ := dk_rd I.hok e
    refine ⟨dd.typeIs, fun b q => ?_, hd⟩
    cases q
    obtain ⟨ob, _, _, h1, h2, _⟩ := dd
    exact ⟨ob, h1, h2.2.1⟩
  · obtain ⟨_, hd, xs, _, dd⟩ := dt_rd I.hok e
    refine ⟨dd.typeIs, fun b q => ?_, hd⟩
    cases q
    obtain ⟨ob, _, _, h1, h2, _⟩ := dd
    exact ⟨ob, h1, h2.2.1⟩

section
variable {X : Cx} {pins : List (Addr × Obj)} {σ : St} {H : Hp} {s : Shared} {a : Addr} {y d : V} {u r : Value} {o : Option V} {A : Around} {E : Value → Shared → Prop}

/-- d.get(y, x) -/
theorem d_get2 {Q : Value → Shared → Prop} (hu : A.units + 1 < cLine) (I : Inv X pins σ H s) (g : DGet H a y o) (ry : RelV y u) (rd : RelV d r) (h : ∀ w' s', Inv X pins σ H s' → RelV (o.getD d) w' → Q w' s') :
    wpAny (model X.prog X.w) A (call (.builtin "dict.get") [.ref a, u, r]) Q E s := by
  rcases g with ⟨kvs, k, e, ey, l⟩ | ⟨kvs, k, b, e, ey, eb, l⟩
  · subst ey
    obtain ⟨z, hd, vs, rel, dd⟩ := dk_rd I.hok e
    refine call_meetsIn PySem.F.slot_dict_get dd.typeIs PySem.F.entry_dict_get (PySem.F.args_dict_get_3 _ _ _) (meets_dict_get_default (mixKind X.prog X.w) a (kV_is ry) hd r) ⟨_, dd.mapOf, h _ _ (I.tok _) ?_⟩
    rw [l]
    exact (rel.val k).getD rd
  · subst ey
    cases (show u = Value.ref b from ry)
    obtain ⟨z, hd, xs, rel, dd⟩ := dt_rd I.hok e
    refine call_meetsIn PySem.F.slot_dict_get dd.typeIs PySem.F.entry_dict_get (PySem.F.args_dict_get_3 _ _ _) (meetsH_dict_get_default (tupleKind (mixKind X.prog X.w)) a b hd r) ⟨tupleKind_room_in1 hu, k, xs, key_of I.hok eb, dd, h _ _ (I.tok _) ?_⟩
    rw [l]
    exact (rel.val k).getD rd
end

def tDGet2 (td ty tx : TE) : TE := fun σ H Q => td σ H fun x H1 => ∃ a, x = .ref a ∧ IsD H1 a ∧ ty σ H1 fun y H2 => tx σ H2 fun z H3 => ∃ o, DGet H3 a y o ∧ Q (o.getD z) H3

section
variable {X : Cx} {o e f : Expr} {apos cpos : Pos} {td ty tx : TE}

theorem pe_dget2 (hu : X.A.units + 1 < cLine) (ho : PE X o td) (he : PE X e ty) (hf : PE X f tx) (m : M2 X o "get" apos e f cpos) : PE X (.Call (.Attribute o "get" apos) [e, f] [] cpos) (tDGet2 td ty tx) := by
  intro pins s σ H Q I h
  refine wpAny_Call_method m.base m.few m.line PySem.F.plainAttrs_dict PySem.F.slot_dict_get PySem.F.type_dict_get (thn (ho pins s σ H _ I h) fun u s1 ⟨x, H1, I1, rx, a, ex, d, q1⟩ => ?_)
  subst ex
  obtain rfl : u = Value.ref a := rx
  obtain ⟨t1, t2, _⟩ := isD_at I1 d
  refine ⟨t1, t2, ?_⟩
  rw [m.trees]
  refine Calls.callWith_builtin rfl (Calls.evalArgs_plain (Calls.spliced_cons (thn (he pins s1 σ H1 _ I1 q1) fun iv s2 ⟨y, H2, I2, ry, q2⟩ =>
    Calls.spliced_cons (thn (hf pins s2 σ H2 _ I2 q2) fun fv s3 ⟨z, H3, I3, rz, ov, g, q3⟩ => Calls.spliced_nil ?_))))
  exact d_get2 hu I3 g ry rz fun w' s4 I4 rw' => ⟨_, H3, I4, rw', q3⟩

end

/-! ### dict(d): a copy -/
section
variable {X : Cx} {pins : List (Addr × Obj)} {σ : St} {H : Hp} {s : Shared} {a : Addr} {kvs : List (Key × V)} {A : Around} {E : Value → Shared → Prop}

end

section
variable {X : Cx} {pins : List (Addr × Obj)} {σ : St} {H : Hp} {s : Shared} {a : Addr} {y : V} {u : Value} {A : Around} {E : Value → Shared → Prop}

end
end L2

namespace L2
open PySem PySem.Spec PyProof.Rows

section
variable {prog : Program} {w : World} {A : Around} {E : Value → Shared → Prop}

end

section
variable {X : Cx}

end
end L2

namespace L2
open PySem PySem.Spec PyProof.Rows

section
variable {X : Cx} {pins : List (Addr × Obj)} {σ : St} {H : Hp} {s : Shared} {h' : Heap}

/-! ### locking a thing while a statement runs -/
theorem Inv.lock {d : Addr} {u : HO} (I : Inv X pins σ H s) (h : H d = some u) (mu : Mut (some u)) : ∃ od, Inv X pins σ (upd H d (.frz od u)) s := by
  have x := I.hok d u h
  have ex : ∃ od, s.heap.get? d = some od := by
    cases u with
    | lst xs => obtain ⟨_, _, _, _, e⟩ := x; exact ⟨_, e⟩
    | dK kvs => obtain ⟨_, _, _, _, o, _, _, e, _⟩ := x; exact ⟨o, e⟩
    | dT kvs => obtain ⟨_, _, _, _, o, _, _, e, _⟩ := x; exact ⟨o, e⟩
    | set S n => obtain ⟨o, _, _, _, e, _⟩ := x; exact ⟨o, e⟩
    | ins C dx fs => obtain ⟨_, _, _, e, _⟩ := x; exact ⟨_, e⟩
    | ext φ => obtain ⟨_, ⟨_, e⟩, _⟩ := x; exact ⟨_, e⟩
    | _ => exact False.elim mu
  obtain ⟨od, e⟩ := ex
  have new : ObjOk X.prog X.w (upd H d (.frz od u)) s.heap d (.frz od u) := by
    refine ⟨e, x.stay (fun b v _ q => q) (fun b q => ?_) fun b xs q => ?_⟩
    · rw [upd_ne (fun z => by rw [z, h] at q; cases q; exact mu)]; exact q
    · rw [upd_ne (fun z => by rw [z, h] at q; cases q; exact mu)]; exact q
  exact ⟨od, I.write (x := d) (e := d) (t' := s.toks) (h' := s.heap) (by rw [h]; exact mu) (.inl rfl) (fun b v _ q => q) ⟨od, e⟩ new⟩
theorem Inv.nofrz {d : Addr} {u : HO} (I : Inv X pins σ H s) (h : H d = some u) (mu : Mut (some u)) : ∀ o' u', X.H_0 d ≠ some (.frz o' u') := fun o' u' e => by
  have q := I.base.frzs d o' u' e
  rw [h] at q
  cases q
  exact mu
theorem Inv.unlock {d : Addr} {od : Obj} {u : HO} (I : Inv X pins σ H s) (h : H d = some (.frz od u)) (hn : ∀ o' u', X.H_0 d ≠ some (.frz o' u')) : Inv X pins σ (upd H d u) s := by
  have neH : ∀ b o, H b = some o → (∀ o' u', o ≠ .frz o' u') → b ≠ d := fun b o e hne z => by
    rw [z, h] at e
    cases e
    exact hne _ _ rfl
  have neN : ∀ b, H b = none → b ≠ d := fun b e z => by rw [z, h] at e; cases e
  refine ⟨I.ok, I.os, I.bare, ⟨I.base.keep, I.base.slot, fun b o e n hx => ?_, I.base.there, fun b xs e => ?_, fun b o x e => ?_, fun b ps e => ?_⟩, I.loc, I.cell, ?_, fun x c e => ?_, fun p hp => ?_, fun b o e => ?_, I.len⟩
  · rw [upd_ne (neN b (I.base.free b o e n hx))]; exact I.base.free b o e n hx
  · have q := I.base.tups b xs e
    rw [upd_ne (neH b _ q (fun _ _ z => nomatch z))]; exact q
  · have q := I.base.frzs b o x e
    rw [upd_ne (fun z => by rw [z] at e; exact hn _ _ e)]; exact q
  · obtain ⟨m, q⟩ := I.base.tbls b ps e
    exact ⟨m, by rw [upd_ne (neH b _ q (fun _ _ z => nomatch z))]; exact q⟩
  · rw [upd_ne (neN _ I.free)]; exact I.free
  · rw [upd_ne (neN c (I.freeC x c e))]; exact I.freeC x c e
  · obtain ⟨e, n, r⟩ := I.pin p hp
    exact ⟨e, by rw [upd_ne (neN _ n)]; exact n, r⟩
  · by_cases hb : b = d
    · rw [hb, upd_same] at e
      cases e
      rw [hb]
      obtain ⟨_, x⟩ := I.hok d _ h
      exact x.stay (fun c v _ q => q) (fun c q => by rw [upd_ne (neH c _ q (fun _ _ z => nomatch z))]; exact q) fun c xs q => by rw [upd_ne (neH c _ q (fun _ _ z => nomatch z))]; exact q
    · rw [upd_ne hb] at e
      exact (I.hok b o e).stay (fun c v _ q => q) (fun c q => by rw [upd_ne (neH c _ q (fun _ _ z => nomatch z))]; exact q) fun c xs q => by rw [upd_ne (neH c _ q (fun _ _ z => nomatch z))]; exact q
end
/-- the statement runs while the thing at d is locked (read, not written); d and what stands there are the reading's choice -/
def tLock (t : TS) : TS := fun D σ H => ∃ d u, H d = some u ∧ Mut (some u) ∧ ∀ od, t ⟨fun σ' H' => H' d = some (.frz od u) ∧ D.nx σ' (upd H' d u), fun v H' => H' d = some (.frz od u) ∧ D.rt v (upd H' d u), fun σ' H' => H' d = some (.frz od u) ∧ D.bk σ' (upd H' d u), fun σ' H' => H' d = some (.frz od u) ∧ D.ct σ' (upd H' d u)⟩ σ (upd H d (.frz od u))

section
variable {X : Cx}
theorem ps_lock {st : Stmt} {t : TS} (h : PS X st t) : PS X st (tLock t) := by
  intro pins s σ H D I hw
  obtain ⟨d, u, hd, mu, hw⟩ := hw
  obtain ⟨od, I1⟩ := I.lock hd mu
  refine thn (h pins s σ _ _ I1 (hw od)) fun f s1 q => ?_
  cases f with
  | next => obtain ⟨σ', H', I2, e, q⟩ := q; exact ⟨σ', _, I2.unlock e (I.nofrz hd mu), q⟩
  | brk => obtain ⟨σ', H', I2, e, q⟩ := q; exact ⟨σ', _, I2.unlock e (I.nofrz hd mu), q⟩
  | cont => obtain ⟨σ', H', I2, e, q⟩ := q; exact ⟨σ', _, I2.unlock e (I.nofrz hd mu), q⟩
  | ret v => obtain ⟨x, σ', H', I2, r, e, q⟩ := q; exact ⟨x, σ', _, I2.unlock e (I.nofrz hd mu), r, q⟩

/-! ### one iterator just laid -/
theorem pi_one {tg : Expr} {pins : List (Addr × Obj)} {σ : St} {H : Hp} {s : Shared} {R : It → Hp → Prop} {J : It} {tn : Nat → Heap → Prop} {tk : Nat} (I : Inv X pins σ H s) (o : Obj)
    (T : Turn X.prog X.w X.K tg J [s.heap.objs.size] s.heap.objs.size tn) (st : tn 0 (s.heap.push o)) (q : R J H) : PIE X pins σ tg R (.ref s.heap.objs.size) { s with heap := s.heap.push o, toks := tk } := by
  refine ⟨s.heap.objs.size, [s.heap.objs.size], tn, J, H, rfl, I.kept fun b ob e => Heap.get?_push_of_some _ e, T, st, fun b hb => ?_, q⟩
  have e : b = s.heap.objs.size := by simpa using hb
  subst e
  exact I.fpOk (Nat.le_refl _) (I.hok.fresh (Nat.le_refl _))
end

/-! ### range with a step -/

section
variable {X : Cx} {tg : Expr}

end

/-! ### reversed(list) -/

section
variable {X : Cx} {tg : Expr}

end

/-! ### a str -/

/-! ### a dict's keys: any dict's entries -/
section
variable {prog : Program} {w : World} {A : Around} {E : Value → Shared → Prop} {s : Shared}
theorem iter_keys {d : Addr} {o : Obj} {es : Array DictEntry} {ep : Nat} {Q : Value → Shared → Prop} (hd : (d == sysModules) = false) (ho : s.heap.get? d = some o) (hc : o.ExactDict) (hdat : o.data = .dict es ep)
    (hQ : Q (.ref s.heap.objs.size) { s with heap := s.heap.push { cls := .type "dict_keyiterator", data := .fields #[.ref d, .int 0 0, .int es.size 0, .int ep 0] } }) :
    wpAny (model prog w) A (pyIter (.ref d)) Q E s := by
  have hT : s.TypeIs (.ref d) "dict" := ⟨o, ho, hc.1⟩
  refine wpAny_pyIter_slot hT F.slot_dict_iter (wpAny_call_entry F.slot_dict_iter hT F.entry_dict_iter ?_ (F.args_dict_iter_1 _))
  unfold Builtin.«dict.__iter__»
  refine wpAny_bind ?_
  unfold Builtin.Dict.dictSlotNone
  refine wpAny_bind (wpAny_notOrdered_dict hT ?_)
  show wpAny _ _ (pure (Value.ref d)) _ _ s
  refine wpAny_pure ?_
  show wpAny _ _ (Builtin.Dict.showsAll d >>= _) _ _ s
  unfold Builtin.Dict.showsAll
  rw [if_neg (by rw [hd]; exact Bool.false_ne_true)]
  refine wpAny_bind (wpAny_pure ?_)
  refine wpAny_bind (wpAny_dictEntries ho hdat ?_)
  refine wpAny_bind (wpAny_dictEpoch ho hdat ?_)
  refine wpAny_bind (wpAny_newObj_type (wpAny_pure ⟨_, rfl, "dict_keyiterator", _, ⟨_, Heap.get?_push_size _ rfl, rfl⟩, F.slot_dict_keyiterator_next.lookup, ?_⟩))
  simpa [rawInt] using hQ
theorem next_key_item {it d : Addr} {i n ep : Nat} {od : Obj} {es : Array DictEntry} {en : DictEntry} {Q : Option Value → Shared → Prop} (hit : s.heap.IsKeyIter it d i n ep) (hod : s.heap.get? d = some od) (hdd : od.data = .dict es ep)
    (hsz : es.size = n) (hx : es[i]? = some en) (hQ : ∀ h', h'.IsKeyIter it d (i + 1) n ep → Heap.SameBut it s.heap h' → Q (some en.key) { s with heap := h' }) : wpAny (model prog w) A (pyNext (.ref it)) Q E s := by
  obtain ⟨o, ho, hc, hd⟩ := id hit
  unfold pyNext
  refine wpAny_bind (wpAny_attempt (wpAny_callSpecial?_slot (name := Str.ofString "__next__") hit.typeIs F.slot_dict_keyiterator_next
    (wpAny_call_entry F.slot_dict_keyiterator_next hit.typeIs F.entry_dict_keyiterator_next ?_ (F.args_dict_keyiterator_next_1 _))))
  refine wpAny_bind (wpAny_pure ?_)
  refine wpAny_bind ?_
  refine wpAny_bind ?_
  first | refine wpAny_bind (wpAny_typeNameOfWhole_keyiter hit.typeIs (wpAny_pure ?_)) | refine wpAny_bind (wpAny_typeNameOf_keyiter hit.typeIs (wpAny_pure ?_))
  refine wpAny_bind (wpAny_fieldsOf ho hd ?_)
  have hown : Builtin.Dict_items.ownsTuple "dict_keyiterator" = false := by decide
  simp only [hown, Bool.false_eq_true, if_false]
  show wpAny _ _ (if (Value.ref d == Value.none) = true then _ else _) _ _ s
  rw [if_neg (show ¬ ((Value.ref d == Value.none) = true) from Bool.false_ne_true)]
  refine wpAny_bind (wpAny_pure ?_)
  refine wpAny_bind (wpAny_dictEntries hod hdd ?_)
  rw [if_neg (by rw [hsz]; simp)]
  refine wpAny_bind (wpAny_pure ?_)
  refine wpAny_bind (wpAny_dictEpoch hod hdd ?_)
  rw [if_neg (by simp)]
  refine wpAny_pure ?_
  obtain ⟨hlt', hen⟩ := Array.getElem?_eq_some_iff.mp hx
  simp only [show ¬ ((i : Int) < 0) from by omega, if_false, Int.toNat_natCast, Array.getElem?_eq_getElem hlt']
  refine wpAny_bind ?_
  first | refine wpAny_bind (wpAny_typeNameOfWhole_keyiter hit.typeIs (wpAny_pure ?_)) | refine wpAny_bind (wpAny_typeNameOf_keyiter hit.typeIs (wpAny_pure ?_))
  refine wpAny_bind (wpAny_isOneOf_keyiter hit.typeIs ?_)
  show wpAny _ _ (setField (.ref it) 1 (rawInt ((i : Int) + 1)) >>= _) _ _ s
  refine wpAny_bind (wpAny_setField ho hd (by simp) ?_)
  have hit' : (s.heap.update it (Obj.mapFields (·.setIfInBounds 1 (rawInt ((i : Int) + 1))))).IsKeyIter it d (i + 1) n ep :=
    ⟨_, Heap.get?_update_self _ ho (Obj.isFreed_of_fields (Obj.data_mapFields hd _)), (Obj.cls_mapFields ..).trans hc, by rw [Obj.data_mapFields hd]; simp [rawInt]⟩
  refine wpAny_bind (wpAny_holding ?_)
  refine wpAny_bind (wpAny_isOneOf_keyiter (s := { s with heap := s.heap.update it (Obj.mapFields (·.setIfInBounds 1 (rawInt ((i : Int) + 1)))) }) hit'.typeIs ?_)
  show wpAny _ _ (pure es[i].key) _ _ _
  rw [hen]
  exact wpAny_pure (wpAny_pure ⟨_, rfl, wpAny_pure (hQ _ hit' (Heap.SameBut.update ..))⟩)
theorem next_key_end {it d : Addr} {i n ep : Nat} {od : Obj} {es : Array DictEntry} {Q : Option Value → Shared → Prop} (hh : A.handled = none) (hit : s.heap.IsKeyIter it d i n ep) (hod : s.heap.get? d = some od) (hdd : od.data = .dict es ep)
    (hsz : es.size = n) (hge : n ≤ i) (hQ : ∀ h', Heap.ExtBut it s.heap h' → Q none { s with heap := h' }) : wpAny (model prog w) A (pyNext (.ref it)) Q E s := by
  obtain ⟨o, ho, hc, hd⟩ := id hit
  unfold pyNext
  refine wpAny_bind (wpAny_attempt (wpAny_callSpecial?_slot (name := Str.ofString "__next__") hit.typeIs F.slot_dict_keyiterator_next
    (wpAny_call_entry F.slot_dict_keyiterator_next hit.typeIs F.entry_dict_keyiterator_next ?_ (F.args_dict_keyiterator_next_1 _))))
  refine wpAny_bind (wpAny_pure ?_)
  refine wpAny_bind ?_
  refine wpAny_bind ?_
  first | refine wpAny_bind (wpAny_typeNameOfWhole_keyiter hit.typeIs (wpAny_pure ?_)) | refine wpAny_bind (wpAny_typeNameOf_keyiter hit.typeIs (wpAny_pure ?_))
  refine wpAny_bind (wpAny_fieldsOf ho hd ?_)
  have hown : Builtin.Dict_items.ownsTuple "dict_keyiterator" = false := by decide
  simp only [hown, Bool.false_eq_true, if_false]
  show wpAny _ _ (if (Value.ref d == Value.none) = true then _ else _) _ _ s
  rw [if_neg (show ¬ ((Value.ref d == Value.none) = true) from Bool.false_ne_true)]
  refine wpAny_bind (wpAny_pure ?_)
  refine wpAny_bind (wpAny_dictEntries hod hdd ?_)
  rw [if_neg (by rw [hsz]; simp)]
  refine wpAny_bind (wpAny_pure ?_)
  refine wpAny_bind (wpAny_dictEpoch hod hdd ?_)
  rw [if_neg (by simp)]
  refine wpAny_pure ?_
  have hge' : es.size ≤ i := by rw [hsz]; exact hge
  simp only [show ¬ ((i : Int) < 0) from by omega, if_false, Int.toNat_natCast, Array.getElem?_eq_none hge']
  refine wpAny_bind ?_
  first | refine wpAny_bind (wpAny_typeNameOfWhole_keyiter hit.typeIs (wpAny_pure ?_)) | refine wpAny_bind (wpAny_typeNameOf_keyiter hit.typeIs (wpAny_pure ?_))
  show wpAny _ _ (setField (.ref it) 0 .none >>= _) _ _ s
  refine wpAny_bind (wpAny_setField ho hd (by simp) ?_)
  show wpAny _ _ (newExc (.type "StopIteration") [] >>= _) _ _ _
  refine wpAny_bind ?_
  simp only [newExc, newTuple]
  refine wpAny_bind (wpAny_newObj_type ?_ (by size_fits))
  refine wpAny_bind (m := firstArgMember _ _) (wpAny_of_eq (a := Value.none) (by first | rfl | (simp only [firstArgMember]; rfl)) ?_)
  refine wpAny_newObj_type ?_ (by size_fits)
  simp only [raiseNew]
  refine wpAny_bind (wpAny_handled ?_)
  rw [show A.in1.handled = none from hh]
  refine wpAny_bind (wpAny_pure (wpAny_throw ?_))
  refine wpAny_bind (wpAny_isInstance (T := "StopIteration") (b := true) ⟨_, Heap.get?_push_size _ rfl, rfl⟩ isSubtype_stop ?_)
  exact wpAny_pure (hQ _ (((Heap.SameBut.update ..).extBut.push _).push _))
end

/-! ### a locked dict -/
theorem kv_get {κ : Type} {kvs : List (κ × V)} {vs : List (κ × Value)} (h : KV kvs vs) : ∀ {i : Nat} {k : κ} {v : V}, kvs[i]? = some (k, v) → ∃ u, vs[i]? = some (k, u) ∧ RelV v u := by
  unfold KV at h
  induction h with
  | nil => intro i k v e; simp at e
  | @cons a b l₁ l₂ r t ih =>
    intro i k v e
    cases i with
    | zero =>
      simp only [List.getElem?_cons_zero, Option.some.injEq] at e
      subst e
      refine ⟨b.2, ?_, r.2⟩
      simp only [List.getElem?_cons_zero]
      exact congrArg some (Prod.ext r.1.symm rfl)
    | succ j =>
      simp only [List.getElem?_cons_succ] at e ⊢
      exact ih e
theorem paired_get {α β : Type} {G : α → β → Prop} {l₁ : List α} {l₂ : List β} (h : Paired G l₁ l₂) : ∀ {i : Nat} {a : α}, l₁[i]? = some a → ∃ b, l₂[i]? = some b ∧ G a b := by
  induction h with
  | nil => intro i a e; simp at e
  | @cons a b l₁ l₂ r t ih =>
    intro i a' e
    cases i with
    | zero =>
      simp only [List.getElem?_cons_zero, Option.some.injEq] at e
      subst e
      exact ⟨b, rfl, r⟩
    | succ j =>
      simp only [List.getElem?_cons_succ] at e ⊢
      exact ih e
theorem relV_key {k : Key} {u : Value} (h : keyIs k u = true) : RelV (kV k) u := by
  rcases keyIs_shape h with ⟨i, t, rfl, rfl⟩ | ⟨x, t, rfl, rfl⟩
  · exact ⟨t, rfl⟩
  · exact ⟨t, rfl⟩
section
variable {X : Cx} {pins : List (Addr × Obj)} {σ : St} {H : Hp} {s : Shared} {d : Addr} {o : Obj}
theorem Inv.frzK {kvs : List (Key × V)} (I : Inv X pins σ H s) (h : H d = some (.frz o (.dK kvs))) :
    (d == sysModules) = false ∧ s.heap.get? d = some o ∧ o.ExactDict ∧ ∃ (es : Array DictEntry) (ep : Nat) (vs : List (Key × Value)), o.data = .dict es ep ∧ es.size = kvs.length ∧ KV kvs vs ∧ s.heap.DictAt (mixKind X.prog X.w) d vs ep := by
  obtain ⟨hd, z, hs, vs, kv, o', es, ep, ho, hx, hdt, r⟩ := I.hok d _ h
  rw [hd] at ho
  cases ho
  refine ⟨hs, hd, hx, es, ep, vs, hdt, ?_, kv, o, es, hd, hx, hdt, r⟩
  have l1 := r.2.1.length
  have l2 : kvs.length = vs.length := Paired.length kv
  rw [Array.length_toList] at l1
  omega
/-- the same for tuple keys -/
theorem Inv.frzT {kvs : List (List Key × V)} (I : Inv X pins σ H s) (h : H d = some (.frz o (.dT kvs))) :
    (d == sysModules) = false ∧ s.heap.get? d = some o ∧ o.ExactDict ∧ ∃ (es : Array DictEntry) (ep : Nat), o.data = .dict es ep ∧ es.size = kvs.length ∧
      ∀ (i : Nat) (k : List Key) (v : V), kvs[i]? = some (k, v) → ∃ (en : DictEntry) (q : Addr), es[i]? = some en ∧ en.key = .ref q ∧ H q = some (.tup (k.map kV)) := by
  obtain ⟨hd, z, hs, xs, pr, o', es, ep, ho, hx, hdt, he, _⟩ := I.hok d _ h
  rw [hd] at ho
  cases ho
  refine ⟨hs, hd, hx, es, ep, hdt, ?_, fun i k v e => ?_⟩
  · have l1 : es.size = xs.length := size_of_entries he
    have l2 : kvs.length = xs.length := Paired.length pr
    omega
  · obtain ⟨b, hb, e1, e2, _⟩ := paired_get pr e
    have q := entry_at he i
    rw [hb] at q
    exact ⟨_, b.2.1, q, rfl, e2⟩
end

/-- the keys of the locked dict at d, in their order -/
def Itk (d : Addr) (o : Obj) (kvs : List (Key × V)) : It :=
  ⟨fun i H => H d = some (.frz o (.dK kvs)) ∧ i < kvs.length, fun i H x H' => H' = H ∧ ∃ k v, kvs[i]? = some (k, v) ∧ x = kV k, fun i H => H d = some (.frz o (.dK kvs)) ∧ kvs.length ≤ i⟩
/-- .. of tuple keys: the key's own tuple -/
def Itkt (d : Addr) (o : Obj) (kvs : List (List Key × V)) : It :=
  ⟨fun i H => H d = some (.frz o (.dT kvs)) ∧ i < kvs.length, fun i H x H' => H' = H ∧ ∃ (k : List Key) (v : V) (q : Addr), kvs[i]? = some (k, v) ∧ x = .ref q ∧ H q = some (.tup (k.map kV)), fun i H => H d = some (.frz o (.dT kvs)) ∧ kvs.length ≤ i⟩

theorem dict_ep {o : Obj} {es es' : Array DictEntry} {ep ep' : Nat} (h : o.data = .dict es ep) (h' : o.data = .dict es' ep') : es' = es ∧ ep' = ep := by
  rw [h] at h'
  cases h'
  exact ⟨rfl, rfl⟩
section
variable {P : Program} {w : World} {K : PySem.W.Frag} {tg : Expr} {d : Addr} {o : Obj} {es : Array DictEntry} {ep : Nat}
theorem turn_keys {kvs : List (Key × V)} (it : Addr) (hod : o.data = .dict es ep) : Turn P w K tg (Itk d o kvs) [it] it (fun i h => h.IsKeyIter it d i kvs.length ep) where
  mem := by simp
  obj := fun i h st b hb => by
    have e : b = it := by simpa using hb
    subst e
    obtain ⟨oi, e, c, dd⟩ := st
    exact ⟨oi, e, fun v z => by rw [dd] at z; cases z⟩
  keep := fun i h h' st k => st.at fun oi e => k it (by simp) oi e
  item := by
    intro X hP hw hK hc i pins s σ H E I hf st hg
    subst hP hw hK
    obtain ⟨hd, hi⟩ := hg
    obtain ⟨f0, f1, f2, f3, f4, f5⟩ := hf it (by simp)
    obtain ⟨hs, hgd, hx, es', ep', vs, hdt, hsz, kv, hm⟩ := I.frzK hd
    obtain ⟨rfl, rfl⟩ := dict_ep hod hdt
    obtain ⟨⟨k, v⟩, hkv⟩ : ∃ p, kvs[i]? = some p := ⟨kvs[i], List.getElem?_eq_getElem hi⟩
    obtain ⟨u, hu, ru⟩ := kv_get kv hkv
    have hl : kvs.length = vs.length := Paired.length kv
    rw [hl] at st
    refine wpAny_pyNext_dict_item st hm hu fun key h' hkey st' sb => ?_
    have I1 : Inv X pins σ H { s with heap := h' } := I.turned (t' := s.toks) (fun b ob hb e => (sb.2 b hb).trans e) f0 f1 f3 f4 f5
    obtain ⟨oi, e, c, dd⟩ := id st'
    refine ⟨key, rfl, go_of (s := { s with heap := h' }) e c dd (by decide) ⟨kV k, H, I1, relV_key (show keyIs k key = true from hkey), ⟨rfl, k, v, hkv, rfl⟩, ?_, fun b hb => (hf b hb).1⟩⟩
    show h'.IsKeyIter it d (i + 1) kvs.length _
    rw [hl]
    exact st'
  done := by
    intro X hP hw hK hc i pins s σ H E I hf st hg
    subst hP hw hK
    obtain ⟨hd, hi⟩ := hg
    obtain ⟨f0, f1, f2, f3, f4, f5⟩ := hf it (by simp)
    obtain ⟨hs, hgd, hx, es', ep', vs, hdt, hsz, kv, hm⟩ := I.frzK hd
    obtain ⟨rfl, rfl⟩ := dict_ep hod hdt
    exact next_key_end (I.ok.hd hc) st hgd hdt hsz hi fun h' eb => ⟨rfl, I.turned (t' := s.toks) (fun b ob hb e => eb b ob hb e) f0 f1 f3 f4 f5⟩
  self := fun A i s Q E st h => wpAny_pyIter_keyiter st h
theorem turn_keysT {kvs : List (List Key × V)} (it : Addr) (hod : o.data = .dict es ep) : Turn P w K tg (Itkt d o kvs) [it] it (fun i h => h.IsKeyIter it d i kvs.length ep) where
  mem := by simp
  obj := fun i h st b hb => by
    have e : b = it := by simpa using hb
    subst e
    obtain ⟨oi, e, c, dd⟩ := st
    exact ⟨oi, e, fun v z => by rw [dd] at z; cases z⟩
  keep := fun i h h' st k => st.at fun oi e => k it (by simp) oi e
  item := by
    intro X hP hw hK hc i pins s σ H E I hf st hg
    subst hP hw hK
    obtain ⟨hd, hi⟩ := hg
    obtain ⟨f0, f1, f2, f3, f4, f5⟩ := hf it (by simp)
    obtain ⟨hs, hgd, hx, es', ep', hdt, hsz, ent⟩ := I.frzT hd
    obtain ⟨rfl, rfl⟩ := dict_ep hod hdt
    obtain ⟨⟨k, v⟩, hkv⟩ : ∃ p, kvs[i]? = some p := ⟨kvs[i], List.getElem?_eq_getElem hi⟩
    obtain ⟨en, q, hen, hkey, hq⟩ := ent i k v hkv
    refine next_key_item st hgd hdt hsz hen fun h' st' sb => ?_
    have I1 : Inv X pins σ H { s with heap := h' } := I.turned (t' := s.toks) (fun b ob hb e => (sb.2 b hb).trans e) f0 f1 f3 f4 f5
    obtain ⟨oi, e, c, dd⟩ := id st'
    exact ⟨en.key, rfl, go_of (s := { s with heap := h' }) e c dd (by decide) ⟨.ref q, H, I1, hkey, ⟨rfl, k, v, q, hkv, rfl, hq⟩, st', fun b hb => (hf b hb).1⟩⟩
  done := by
    intro X hP hw hK hc i pins s σ H E I hf st hg
    subst hP hw hK
    obtain ⟨hd, hi⟩ := hg
    obtain ⟨f0, f1, f2, f3, f4, f5⟩ := hf it (by simp)
    obtain ⟨hs, hgd, hx, es', ep', hdt, hsz, ent⟩ := I.frzT hd
    obtain ⟨rfl, rfl⟩ := dict_ep hod hdt
    exact next_key_end (I.ok.hd hc) st hgd hdt hsz hi fun h' eb => ⟨rfl, I.turned (t' := s.toks) (fun b ob hb e => eb b ob hb e) f0 f1 f3 f4 f5⟩
  self := fun A i s Q E st h => by
    refine wpAny_pyIter_slot st.typeIs F.slot_dict_keyiterator_iter (wpAny_call_entry F.slot_dict_keyiterator_iter st.typeIs F.entry_dict_keyiterator_iter ?_ (F.args_dict_keyiterator_iter_1 _))
    show wpAny _ _ (ret (.ref it)) _ _ s
    exact wpAny_pure ⟨_, rfl, "dict_keyiterator", _, st.typeIs, F.slot_dict_keyiterator_next.lookup, h⟩

end

/-! ### for k in d, d.keys(), d.values(), d.items() -/
/-- the dict is locked (tLock, or by the caller) -/
def iKeys (td : TE) : TI := fun σ H R => td σ H fun x H1 => ∃ d o, x = .ref d ∧ ((∃ kvs, H1 d = some (.frz o (.dK kvs)) ∧ R (Itk d o kvs) H1) ∨ ∃ kvs, H1 d = some (.frz o (.dT kvs)) ∧ R (Itkt d o kvs) H1)

section
variable {X : Cx} {tg e : Expr} {td : TE} {apos cpos : Pos}
theorem pi_keys (he : PE X e td) : PI X tg e (iKeys td) := by
  intro pins s σ H R I h
  refine thn (he pins s σ H _ I h) fun u s1 ⟨x, H1, I1, rx, d, o, ex, q⟩ => ?_
  subst ex
  obtain rfl : u = Value.ref d := rx
  rcases q with ⟨kvs, hd, q⟩ | ⟨kvs, hd, q⟩
  · obtain ⟨hs, hgd, hx, es, ep, vs, hdt, hsz, kv, hm⟩ := I1.frzK hd
    refine iter_keys hs hgd hx hdt (pi_one (tk := s1.toks) I1 _ (turn_keys _ hdt) ⟨_, Heap.get?_push_size _ rfl, rfl, ?_⟩ q)
    rw [hsz] <;> rfl
  · obtain ⟨hs, hgd, hx, es, ep, hdt, hsz, ent⟩ := I1.frzT hd
    refine iter_keys hs hgd hx hdt (pi_one (tk := s1.toks) I1 _ (turn_keysT _ hdt) ⟨_, Heap.get?_push_size _ rfl, rfl, ?_⟩ q)
    rw [hsz] <;> rfl

end

/-! ### enumerate(list) -/

/-! ### zip(list, list) -/

end L2

section 
namespace Bits
open PySem PyProof.Rows

end Bits
end 

section 
namespace TL
open PySem PySem.Builtin PySem.Builtin.Str PySem.StrLaws

/-! ### the list functions -/

/-! ### the model's split and partition are these -/

/-! ### computing spl and par -/

/-! ### digits -/

/-! ### words: x.split() -/

end TL
end 

namespace L2
open PySem PySem.Spec PyProof.Rows

section
variable {X : Cx} {pins : List (Addr × Obj)} {σ : St} {H : Hp} {s : Shared} {Q : VK}

end

section
variable {X : Cx}

/-! ### of a text alone -/

/-! ### of a text and a text -/

end

section
variable {X : Cx} {o e : Expr} {to te : TE}

end
end L2

namespace L2
open PySem PySem.Spec PyProof.Rows

section
variable {X : Cx}

end

/-! ### slices of a text -/

end L2

namespace Att
open PySem PySem.W PySem.Calls PyProof.Rows

/-! ### the script -/

/-! ### the attachment: holds_open's last premise (the goal 'hc' behind k_head) from a wpAny of the law's body -/

/-! ### rules over ANY heap (no ledger) from facts about the written part K: the library's own take a ledger (News) for what they write -/
section
variable {prog : Program} {w : World} {A : Around} {E : Value → Shared → Prop} {s : Shared} {K : Frag}

/-! the whole heap as the ledger: makes every rule that writes through a ledger a rule over any heap -/

end
end Att

namespace L2
open PySem PySem.Spec PyProof.Rows

end L2

namespace L2
open PySem PySem.Spec PyProof.Rows

end L2

/- THE LAST THEOREM (shape; LID, My.* are yours):
   My.Adr: a structure of the addresses that your layer names (classes, functions); My.Txt K t: a structure (Prop) of the equations over K;
   My.txt_mk : {K} {implicit addresses ..} (e1 : nsIn K mainGlobals "law" = some (some (.ref f))) (e2 : K.lookup f = some ⟨oc, od, .func (fnOf "law" "law" params body scope dV kV doc pm an cdv ct), sl⟩) (e3 : codeIn K cdv "law" = true) .. : ∃ t, My.Txt K t

set_option maxRecDepth 100000 in
set_option maxHeartbeats 0 in
theorem PySem.Challenge.cw_LID_holds : PySem.Challenge.rw_LID.Holds := by
  w_on; o_law; k_head; (case hw => w_witness2)
  k_fill
  refine L2.walk_of (l := PySem.Challenge.rw_LID) (n := 63) (k := 40) (x := "script") (CX := fun w => ..) (sp := fun _ => My.sp_law) rfl (by decide) rfl ⟨rfl, by decide, by decide⟩ (fun w h Y => PySem.W.kIn_of Y) ?F ?S ?C
  case F =>
    intro w mg fa h KX G hmg
    have T : ∃ t, My.Txt (L2.KOf KX) t := by
      dsimp only [L2.KOf]                          -- K must stand as «<heap const> w.params» for k_is
      refine' My.txt_mk ?e1 ?e2 ?e3 ..
      (case e1 => PySem.W.k_is)                    -- in the order: a name -> its address -> its object -> its parts
      (case e2 => PySem.W.k_is)
      ..
    obtain ⟨t, T⟩ := T
    have e0 := hmg.symm.trans (PySem.W.mg_of KX G T.law)
    cases e0                                       -- fa is the law's own address
    exact ⟨_, fun s u => .of_eq rfl, fun base kb nb => My.law_fn T kb nb⟩     -- if «.of_eq rfl» comes too early: refine' ⟨_, ?b, fun base kb nb => My.law_fn T kb nb⟩; exact fun s u => .of_eq rfl
  case S => exact fun w H a ns hl hO hS => ..
  case C => exact ..
(the tactic k_is has no namespace: write k_is) -/

/-! SHORT WORDS over the layer: a def of the text, its body, what a loop and a test want. -/
namespace L2
open PySem PySem.Spec PyProof.Rows

/-! ### the text by places -/

def defArgs (s : Stmt) : Arguments := match s with
  | .FunctionDef _ a _ _ _ _ _ _ _ _ => a
  | _ => { posonlyargs := [], args := [], vararg := none, kwonlyargs := [], kw_defaults := [], kwarg := none, defaults := [] }
def defBody (s : Stmt) : List Stmt := match s with
  | .FunctionDef _ _ b _ _ _ _ _ _ _ => b
  | _ => []
def defScope (s : Stmt) : Scope := match s with
  | .FunctionDef _ _ _ _ _ _ sc _ _ _ => sc
  | _ => { kind := .function, names := [], isGenerator := false, isCoroutine := false }

/-! ### no exception leaves a def -/
abbrev CX0 : CXT := fun _ _ _ _ _ _ => False
abbrev E0 : XK := fun _ _ _ => False
theorem pass0 {X : Cx} : Passes CX0 X E0 := fun _ _ _ _ _ _ _ h => h.elim

/-! ### a def (or method) of the text as it stands behind the top -/
structure Fun (K : PySem.W.Frag) (x qual : Str) (st : Stmt) (f : Addr) (fd : FuncData) : Prop where
  ex : ∃ (oc : Value) (od : Option Addr) (kV doc pm : Value) (an : Option Addr) (cdv ct : Value) (osl : Array (Option Value)),
    fd = PySem.W.fnOf x qual (defArgs st) (defBody st) (defScope st) .none kV doc pm an cdv ct ∧ K.lookup f = some ⟨oc, od, .func fd, osl⟩ ∧ PySem.W.codeIn K cdv qual = true
  kp : PySem.W.keepIn K (.ref f) = true
section
variable {P : Program} {w : World} {K : PySem.W.Frag} {mg : Str → Option Value} {base : Heap}
/-- THE RULE for a def: its body as a term of rules, and the reading of that term -/
theorem Fun.ok {x qual : Str} {st : Stmt} {f : Addr} {fd : FuncData} {N ps : List Str} {k : Nat} {sp : Sp} (F : Fun K x qual st f fd) (S : FnScope N ps (defScope st)) (len : ∀ vs H Q E, sp vs H Q E → vs.length = ps.length)
    (hbody : ∀ (cdv : Value) (A : Around) (outer : List Env) (s : Shared) (H : Hp) (vs : List V) (Q : VK) (E : XK), Room k (A.deeper (envOfC qual (defScope st) s.heap.objs.size f cdv)) → sp vs H Q E →
      ∃ t, PSs (cxOf CX0 P w K mg base N qual (defScope st) f cdv A outer s H E).nox (defBody st) t ∧ t { nx := fun _ H' => Q .non H', rt := Q } (start N vs) H) : FnOk P w K mg base CX0 (k + 1) f fd ps sp := by
  obtain ⟨oc, od, kV, doc, pm, an, cdv, ct, osl, rfl, lk, hcd⟩ := F.ex
  refine fn_of lk hcd S len fun A outer s H vs Q E hr hsp => ?_
  obtain ⟨t, h, q⟩ := hbody cdv A outer s H vs Q E hr hsp
  exact ⟨t, h.nox, q⟩
/-- how its arguments bind (no defaults): h is «fun _ _ _ _ _ _ us hl => match us, hl with | [_, _], _ => rfl», one _ a parameter -/
theorem Fun.binds {x qual : Str} {st : Stmt} {f : Addr} {fd : FuncData} {ps : List Str} (F : Fun K x qual st f fd)
    (h : ∀ (kV doc pm : Value) (an : Option Addr) (cdv ct : Value) (us : List Value), us.length = ps.length → bindArgs (PySem.W.fnOf x qual (defArgs st) (defBody st) (defScope st) .none kV doc pm an cdv ct) ⟨us, []⟩ = pure (ps.zip us)) : Binds K fd ps [] := by
  obtain ⟨oc, od, kV, doc, pm, an, cdv, ct, osl, rfl, lk, hcd⟩ := F.ex
  exact .all (h kV doc pm an cdv ct)
theorem fun_mk {x qual : Str} {st : Stmt} {f : Addr} {oc : Value} {od an : Option Addr} {osl : Array (Option Value)} {kV doc pm cdv ct : Value} (l : K.lookup f = some ⟨oc, od, .func (PySem.W.fnOf x qual (defArgs st) (defBody st) (defScope st) .none kV doc pm an cdv ct), osl⟩)
    (c : PySem.W.codeIn K cdv qual = true) (k : PySem.W.keepIn K (.ref f) = true) : Fun K x qual st f (PySem.W.fnOf x qual (defArgs st) (defBody st) (defScope st) .none kV doc pm an cdv ct) := ⟨⟨oc, od, kV, doc, pm, an, cdv, ct, osl, rfl, l, c⟩, k⟩
end
theorem hu_of {A : Around} {k : Nat} (hr : Room k A) : A.units + 1 < cLine := Nat.lt_of_le_of_lt (Nat.add_le_add_left (by decide : 1 ≤ 64) _) hr.units
theorem small1000 {n : Nat} (h : n ≤ 1000) : n < sizeLine := Nat.lt_of_le_of_lt h (by decide)

/-! ### expressions in short: the name that stands in the i-th slot -/
section
variable {X : Cx}
theorem pv (i : Nat) {x : Str} {pos : Pos} (hN : X.N[i]? = some x := by rfl) (hv : Vis X.env.scope x := by first | exact Or.inl rfl | exact Or.inr (Or.inl rfl) | exact Or.inr (Or.inr rfl)) (hd : (x == ("__debug__" : Str)) = false := by decide)
    (hcd : (x == ("__classdict__" : Str)) = false := by decide) : PE X (.Name x pos) (tVar i) := pe_var hN hv hd hcd

end

/-! ### tests -/
theorem iteF {A B : Prop} (h : B) : if false = true then A else B := by
  rw [if_neg Bool.false_ne_true]
  exact h
theorem iteT {A B : Prop} (h : A) : if true = true then A else B := by
  rw [if_pos rfl]
  exact h
theorem ite2 {c A B : Prop} [Decidable c] (h1 : c → A) (h2 : ¬ c → B) : if c then A else B := by
  by_cases h : c
  · rw [if_pos h]
    exact h1 h
  · rw [if_neg h]
    exact h2 h

/-! ### heaps -/
/-- all that was tracked is as it was -/
def Same (H H' : Hp) : Prop := ∀ b o, H b = some o → H' b = some o
theorem Same.refl (H : Hp) : Same H H := fun _ _ h => h
theorem Same.trans {H H1 H2 : Hp} (a : Same H H1) (b : Same H1 H2) : Same H H2 := fun c o h => b c o (a c o h)
theorem Same.free {H H' : Hp} (e : Same H H') {l : Addr} (h : H' l = Option.none) : H l = Option.none := by
  cases q : H l with
  | none => rfl
  | some o =>
    rw [e l o q] at h
    cases h
theorem Same.seq {K : PySem.W.Frag} {H H' : Hp} {a : Addr} {xs : List V} (e : Same H H') (h : SqL K H a xs) : SqL K H' a xs := by
  rcases h with (h | ⟨o, h⟩) | h
  · exact .inl (.inl (e _ _ h))
  · exact .inl (.inr ⟨o, e _ _ h⟩)
  · exact .inr h

/-! ### a dict's pairs: keys that differ -/
section
variable {κ : Type} [DecidableEq κ]

end
/-! ### lists -/
theorem at_of {xs : List V} {z : Int} {j : Nat} {v : V} (e : z = (j : Int)) (h : xs[j]? = some v) : atI xs z = some v := by
  rw [e]
  exact atI_nat h

end L2

section
set_option Elab.async false
set_option linter.all false
set_option maxRecDepth 100000
set_option maxHeartbeats 2000000
namespace L2
open PySem PySem.Spec PyProof.Rows
open PySem.W (WData Codec OpenSpec Well WellAll ReadsW ReadsAllW)
/-! ### an answer as data -/
mutual
/-- x stands for the datum d, lists and tuples all the way -/
inductive Dw (K : PySem.W.Frag) (H : Hp) : V → WData → Prop
  | non : Dw K H .non .none
  | bl (b : Bool) : Dw K H (.bl b) (.bool b)
  | int (i : Int) : Dw K H (.int i) (.int i)
  | str (x : Str) : Dw K H (.str x) (.str x)
  | byt (b : Array UInt8) : Dw K H (.byt b) (.bytes b.toList)
  | lst {a : Addr} {xs : List V} {ds : List WData} : SqL K H a xs → DwAll K H xs ds → Dw K H (.ref a) (.list ds)
  | tup {a : Addr} {xs : List V} {ds : List WData} : SqT K H a xs → DwAll K H xs ds → Dw K H (.ref a) (.tuple ds)
inductive DwAll (K : PySem.W.Frag) (H : Hp) : List V → List WData → Prop
  | nil : DwAll K H [] []
  | cons {v : V} {vs : List V} {d : WData} {ds : List WData} : Dw K H v d → DwAll K H vs ds → DwAll K H (v :: vs) (d :: ds)
end
theorem dw_ints {K : PySem.W.Frag} {H : Hp} : ∀ ns : List Int, DwAll K H (ns.map V.int) (ns.map WData.int)
  | [] => .nil
  | n :: r => .cons (.int n) (dw_ints r)
theorem ints_dw {K : PySem.W.Frag} {H : Hp} : ∀ (ns : List Int) (xs : List V), DwAll K H xs (ns.map WData.int) → xs = ns.map V.int
  | [], xs, h => by
    cases h
    rfl
  | n :: r, xs, h => by
    cases h with
    | cons h1 h2 =>
      cases h1
      rw [ints_dw r _ h2] <;> rfl
section
variable {P : Program} {w : World} {K : PySem.W.Frag} {H : Hp} {h : Heap} {R : PySem.W.WRecords} {cl : Str → Option Addr}
theorem sqL_at {a : Addr} {xs : List V} (hok : HOk P w H h) (KX : K.In h) (q : SqL K H a xs) : ∃ (its : List Value) (o : Obj) (n : Nat), Vals xs its ∧ h.get? a = some o ∧ o.cls = .type "list" ∧ o.data = .seq its.toArray n := by
  rcases q with q | ⟨o, its, n, e, hc, _, hd, _, hv⟩
  · obtain ⟨_, its, n, hv, e⟩ := (show ObjOk P w H h a (.lst xs) from q.ok hok)
    exact ⟨its, _, n, hv, e, rfl, rfl⟩
  · exact ⟨its.toList, o, n, hv, KX _ _ e, hc, by simp [hd]⟩
theorem sqT_at {a : Addr} {xs : List V} (hok : HOk P w H h) (KX : K.In h) (q : SqT K H a xs) : ∃ (its : List Value) (o : Obj) (n : Nat), Vals xs its ∧ h.get? a = some o ∧ o.cls = .type "tuple" ∧ o.data = .seq its.toArray n := by
  rcases q with q | ⟨o, its, n, e, hc, hd, _, hv⟩
  · obtain ⟨_, its, hv, o, e, hc, n, hd⟩ := (show ObjOk P w H h a (.tup xs) from q.ok hok)
    exact ⟨its, o, n, hv, e, hc, hd⟩
  · exact ⟨its.toList, o, n, hv, KX _ _ e, hc, by simp [hd]⟩
mutual
theorem Dw.reads (hok : HOk P w H h) (KX : K.In h) : ∀ (d : WData) (v : V) (u : Value), Dw K H v d → RelV v u → ∃ as, ReadsW R cl h u d as
  | .none, _, _, x, r => by
    cases x
    cases r
    exact ⟨_, ReadsW.none⟩
  | .bool b, _, _, x, r => by
    cases x
    cases r
    exact ⟨_, ReadsW.bool b⟩
  | .int i, _, _, x, r => by
    cases x
    obtain ⟨t, rfl⟩ := r
    exact ⟨_, ReadsW.int i t⟩
  | .str s, _, _, x, r => by
    cases x
    obtain ⟨t, rfl⟩ := r
    exact ⟨_, ReadsW.str s t⟩
  | .bytes b, _, _, x, r => by
    cases x
    obtain ⟨t, rfl⟩ := r
    exact ⟨_, ReadsW.bytes _ t⟩
  | .list ds, _, _, x, r => by
    cases x with
    | lst hs ha =>
      cases r
      obtain ⟨its, o, n, rv, ho, hc, hd⟩ := sqL_at hok KX hs
      obtain ⟨as, hr⟩ := Dw.readsAll hok KX ds _ its ha rv
      exact ⟨_, ReadsW.list ho hc hd hr⟩
  | .tuple ds, _, _, x, r => by
    cases x with
    | tup hs ha =>
      cases r
      obtain ⟨its, o, n, rv, ho, hc, hd⟩ := sqT_at hok KX hs
      obtain ⟨as, hr⟩ := Dw.readsAll hok KX ds _ its ha rv
      exact ⟨_, ReadsW.tuple ho hc hd hr⟩
  | .float _, _, _, x, _ => by cases x
  | .dict _, _, _, x, _ => by cases x
  | .bytearray _, _, _, x, _ => by cases x
  | .set _, _, _, x, _ => by cases x
  | .frozenset _, _, _, x, _ => by cases x
  | .obj _ _, _, _, x, _ => by cases x
theorem Dw.readsAll (hok : HOk P w H h) (KX : K.In h) : ∀ (ds : List WData) (vs : List V) (us : List Value), DwAll K H vs ds → Vals vs us → ∃ as, ReadsAllW R cl h us ds as
  | [], _, _, x, r => by
    cases x
    cases r
    exact ⟨_, ReadsAllW.nil⟩
  | d :: ds, _, _, x, r => by
    cases x with
    | cons h1 h2 =>
      cases r with
      | cons r1 r2 =>
        obtain ⟨as, q1⟩ := Dw.reads hok KX d _ _ h1 r1
        obtain ⟨bs, q2⟩ := Dw.readsAll hok KX ds _ _ h2 r2
        exact ⟨_, ReadsAllW.cons q1 q2⟩
end
end
/-! ### the arguments -/
mutual
/-- data that a codec tells -/
def plW : WData → Bool
  | .none => true
  | .bool _ => true
  | .int _ => true
  | .str _ => true
  | .bytes _ => true
  | .list xs => plWs xs
  | .tuple xs => plWs xs
  | _ => false
def plWs : List WData → Bool
  | [] => true
  | x :: r => plW x && plWs r
end
theorem plWs_map {α : Type} {f : α → WData} (h : ∀ a, plW (f a) = true) : ∀ l : List α, plWs (l.map f) = true
  | [] => rfl
  | x :: r => by
    show (plW (f x) && plWs (r.map f)) = true
    rw [h x, plWs_map h r] <;> rfl
theorem pl_enc : ∀ (c : Codec) (a : c.denote), plW (c.enc a) = true
  | .unit, _ => rfl
  | .bool, _ => rfl
  | .int _ _, _ => rfl
  | .nat _ _, _ => rfl
  | .u8, _ => rfl
  | .bytes _ _, _ => rfl
  | .text _ _ _ _, _ => rfl
  | .list _ _ c, a => plWs_map (fun x => pl_enc c x) a
  | .pair c d, a => by
    show (plW (c.enc a.1) && (plW (d.enc a.2) && true)) = true
    rw [pl_enc c a.1, pl_enc d a.2] <;> rfl
  | .triple c d e, a => by
    show (plW (c.enc a.1) && (plW (d.enc a.2.1) && (plW (e.enc a.2.2) && true))) = true
    rw [pl_enc c a.1, pl_enc d a.2.1, pl_enc e a.2.2] <;> rfl
  | .option c, none => rfl
  | .option c, some x => pl_enc c x
theorem pl_encAll : ∀ (cs : List Codec) (a : Codec.denoteAll cs), plWs (Codec.encAll cs a) = true
  | [], _ => rfl
  | c :: cs, a => by
    show (plW (c.enc a.1) && plWs (Codec.encAll cs a.2)) = true
    rw [pl_enc c a.1, pl_encAll cs a.2] <;> rfl
theorem weight_mem : ∀ {xs : List WData} {d : WData}, d ∈ xs → d.weight ≤ WData.weightAll xs
  | [], d, h => absurd h (by simp)
  | x :: r, d, h => by
    show d.weight ≤ x.weight + 1 + WData.weightAll r
    rcases List.mem_cons.mp h with e | m
    · rw [e]
      omega
    · have z := weight_mem m
      omega
def toV : Value → V
  | .none => .non
  | .bool b => .bl b
  | .int i _ => .int i
  | .str x _ => .str x
  | .bytes b _ => .byt b
  | .ref a => .ref a
  | _ => .non
/-- a value of the arguments, its objects among A -/
def OkU (A : List Addr) : Value → Prop
  | .none => True
  | .bool _ => True
  | .int _ _ => True
  | .str _ _ => True
  | .bytes _ _ => True
  | .ref a => a ∈ A
  | _ => False
theorem OkU.mono {A B : List Addr} (h : ∀ a ∈ A, a ∈ B) : ∀ {u : Value}, OkU A u → OkU B u := fun {u} x => by
  cases u with
  | ref a => exact h a x
  | none => trivial
  | bool b => trivial
  | int i t => trivial
  | str s t => trivial
  | bytes b t => trivial
  | _ => exact False.elim x
theorem relV_toV {A : List Addr} {u : Value} (x : OkU A u) : RelV (toV u) u := by
  cases u with
  | ref a => rfl
  | none => rfl
  | bool b => rfl
  | int i t => exact ⟨t, rfl⟩
  | str s t => exact ⟨t, rfl⟩
  | bytes b t => exact ⟨t, rfl⟩
  | _ => exact False.elim x
theorem vals_toV {A : List Addr} : ∀ {vs : List Value}, (∀ u ∈ vs, OkU A u) → Vals (vs.map toV) vs
  | [], _ => .nil
  | u :: r, h => .cons (relV_toV (h u (List.mem_cons_self ..))) (vals_toV fun x hx => h x (List.mem_cons_of_mem _ hx))
/-- an object of the arguments -/
def ArgOb (h : Heap) (A : List Addr) (a : Addr) : Prop := ∃ vs : List Value, vs.length ≤ sizeLine ∧ (∀ u ∈ vs, OkU A u) ∧
  (h.get? a = some { cls := .type "list", data := .seq vs.toArray } ∨ h.get? a = some { cls := .type "tuple", data := .seq vs.toArray })
theorem ArgOb.mono {h : Heap} {A B : List Addr} {a : Addr} (k : ∀ a ∈ A, a ∈ B) (x : ArgOb h A a) : ArgOb h B a := by
  obtain ⟨vs, h1, h2, h3⟩ := x
  exact ⟨vs, h1, fun u hu => (h2 u hu).mono k, h3⟩
theorem wellAll_len {P : Params} {h : Heap} : ∀ {vs : List Value} {ds : List WData}, WellAll P h vs ds → vs.length = ds.length
  | _, _, .nil => rfl
  | _, _, .cons _ b => by
    show _ + 1 = _ + 1
    rw [wellAll_len b]
theorem well_list {P : Params} {h : Heap} {v : Value} {ds : List WData} (x : Well P h v (.list ds)) : ∃ (a : Addr) (vs : List Value), v = .ref a ∧ h.get? a = some { cls := .type "list", data := .seq vs.toArray } ∧ WellAll P h vs ds := by
  cases x with
  | list ho hall => exact ⟨_, _, rfl, ho, hall⟩
theorem well_tuple {P : Params} {h : Heap} {v : Value} {ds : List WData} (x : Well P h v (.tuple ds)) : ∃ (a : Addr) (vs : List Value), v = .ref a ∧ h.get? a = some { cls := .type "tuple", data := .seq vs.toArray } ∧ WellAll P h vs ds := by
  cases x with
  | tuple ho hall => exact ⟨_, _, rfl, ho, hall⟩
theorem well_cons {P : Params} {h : Heap} {us : List Value} {d : WData} {ds : List WData} (x : WellAll P h us (d :: ds)) : ∃ (v : Value) (vs : List Value), us = v :: vs ∧ Well P h v d ∧ WellAll P h vs ds := by
  cases x with
  | cons a b => exact ⟨_, _, rfl, a, b⟩
theorem line_of {n : Nat} (h : n ≤ 1048576) : n ≤ sizeLine := Nat.le_trans h (by decide)
section
variable {P : Params} {h : Heap}
mutual
theorem area_one : ∀ (d : WData) (v : Value), Well P h v d → plW d = true → d.weight ≤ 1048576 → ∃ A : List Addr, OkU A v ∧ ∀ a ∈ A, ArgOb h A a
  | .none, _, x, _, _ => by
    cases x
    exact ⟨[], trivial, fun a m => absurd m (by simp)⟩
  | .bool b, _, x, _, _ => by
    cases x
    exact ⟨[], trivial, fun a m => absurd m (by simp)⟩
  | .int i, _, x, _, _ => by
    cases x
    exact ⟨[], trivial, fun a m => absurd m (by simp)⟩
  | .str s, _, x, _, _ => by
    cases x
    exact ⟨[], trivial, fun a m => absurd m (by simp)⟩
  | .bytes b, _, x, _, _ => by
    cases x
    exact ⟨[], trivial, fun a m => absurd m (by simp)⟩
  | .list ds, _, x, p, z => by
    obtain ⟨a, vs, rfl, ho, hall⟩ := well_list x
    have z2 : WData.weightAll ds ≤ 1048576 := z
    obtain ⟨A, h1, h2⟩ := area_all ds _ hall p fun d hd => Nat.le_trans (weight_mem hd) z2
    have k : ∀ b ∈ A, b ∈ a :: A := fun b hb => List.mem_cons_of_mem _ hb
    refine ⟨a :: A, List.mem_cons_self .., fun b hb => ?_⟩
    rcases List.mem_cons.mp hb with e | m
    · rw [e]
      exact ⟨vs, line_of (by rw [wellAll_len hall]; exact Nat.le_trans (PySem.W.length_le_weightAllW ds) z2), fun u hu => (h1 u hu).mono k, .inl ho⟩
    · exact (h2 b m).mono k
  | .tuple ds, _, x, p, z => by
    obtain ⟨a, vs, rfl, ho, hall⟩ := well_tuple x
    have z2 : WData.weightAll ds ≤ 1048576 := z
    obtain ⟨A, h1, h2⟩ := area_all ds _ hall p fun d hd => Nat.le_trans (weight_mem hd) z2
    have k : ∀ b ∈ A, b ∈ a :: A := fun b hb => List.mem_cons_of_mem _ hb
    refine ⟨a :: A, List.mem_cons_self .., fun b hb => ?_⟩
    rcases List.mem_cons.mp hb with e | m
    · rw [e]
      exact ⟨vs, line_of (by rw [wellAll_len hall]; exact Nat.le_trans (PySem.W.length_le_weightAllW ds) z2), fun u hu => (h1 u hu).mono k, .inr ho⟩
    · exact (h2 b m).mono k
  | .float _, _, _, p, _ => Bool.noConfusion (show false = true from p)
  | .dict _, _, _, p, _ => Bool.noConfusion (show false = true from p)
  | .bytearray _, _, _, p, _ => Bool.noConfusion (show false = true from p)
  | .set _, _, _, p, _ => Bool.noConfusion (show false = true from p)
  | .frozenset _, _, _, p, _ => Bool.noConfusion (show false = true from p)
  | .obj _ _, _, _, p, _ => Bool.noConfusion (show false = true from p)
theorem area_all : ∀ (ds : List WData) (vs : List Value), WellAll P h vs ds → plWs ds = true → (∀ d ∈ ds, d.weight ≤ 1048576) → ∃ A : List Addr, (∀ u ∈ vs, OkU A u) ∧ ∀ a ∈ A, ArgOb h A a
  | [], _, x, _, _ => by
    cases x
    exact ⟨[], fun u m => absurd m (by simp), fun a m => absurd m (by simp)⟩
  | d :: ds, _, x, p, z => by
    obtain ⟨v, vs, rfl, x1, x2⟩ := well_cons x
    have q : plW d = true ∧ plWs ds = true := Bool.and_eq_true_iff.mp p
    obtain ⟨A, a1, a2⟩ := area_one d v x1 q.1 (z d (List.mem_cons_self ..))
    obtain ⟨B, b1, b2⟩ := area_all ds vs x2 q.2 fun e he => z e (List.mem_cons_of_mem _ he)
    have kA : ∀ b ∈ A, b ∈ A ++ B := fun b hb => List.mem_append.mpr (.inl hb)
    have kB : ∀ b ∈ B, b ∈ A ++ B := fun b hb => List.mem_append.mpr (.inr hb)
    refine ⟨A ++ B, fun u hu => ?_, fun b hb => ?_⟩
    · rcases List.mem_cons.mp hu with e | m
      · rw [e]
        exact a1.mono kA
      · exact (b1 u m).mono kB
    · rcases List.mem_append.mp hb with m | m
      · exact (a2 b m).mono kA
      · exact (b2 b m).mono kB
end
end
/-- what is tracked of an argument's object -/
def hoOf (o : Obj) : Option HO := match o.data with
  | .seq vs _ => if (o.cls == Value.type "list") = true then some (.frz o (.lst (vs.toList.map toV))) else some (.frz o (.tup (vs.toList.map toV)))
  | _ => none
def argH (K : PySem.W.Frag) (h : Heap) (A : List Addr) : Hp := fun b => if b ∈ A then (if (K.lookup b).isNone = true then (h.get? b).bind hoOf else none) else none
/-- nothing is tracked but what is known to the object -/
def OnlyF (H : Hp) : Prop := ∀ b, H b = none ∨ ∃ o u, H b = some (.frz o u)
theorem hoOf_lst (vs : List Value) : hoOf { cls := .type "list", data := .seq vs.toArray } = some (.frz { cls := .type "list", data := .seq vs.toArray } (.lst (vs.map toV))) := by
  show (if (Value.type "list" == Value.type "list") = true then some (HO.frz { cls := .type "list", data := .seq vs.toArray } (.lst (vs.toArray.toList.map toV))) else some (HO.frz { cls := .type "list", data := .seq vs.toArray } (.tup (vs.toArray.toList.map toV)))) = _
  rw [if_pos (beq_self_eq_true _)]
theorem hoOf_tup (vs : List Value) : hoOf { cls := .type "tuple", data := .seq vs.toArray } = some (.frz { cls := .type "tuple", data := .seq vs.toArray } (.tup (vs.map toV))) := by
  show (if (Value.type "tuple" == Value.type "list") = true then some (HO.frz { cls := .type "tuple", data := .seq vs.toArray } (.lst (vs.toArray.toList.map toV))) else some (HO.frz { cls := .type "tuple", data := .seq vs.toArray } (.tup (vs.toArray.toList.map toV)))) = _
  rw [if_neg (by decide)]
section
variable {P : Program} {w : World} {K : PySem.W.Frag} {h : Heap} {A : List Addr}
theorem argH_at {b : Addr} {o : Obj} (hb : b ∈ A) (hk : K.lookup b = none) (e : h.get? b = some o) : argH K h A b = hoOf o := by
  unfold argH
  rw [if_pos hb, hk, if_pos (show (none : Option Obj).isNone = true from rfl), e] <;> rfl
theorem of_argH {b : Addr} {u : HO} (q : argH K h A b = some u) : b ∈ A ∧ K.lookup b = none := by
  unfold argH at q
  by_cases hb : b ∈ A
  · rw [if_pos hb] at q
    cases hk : K.lookup b with
    | none => exact ⟨hb, rfl⟩
    | some o =>
      rw [hk, if_neg (by simp)] at q
      cases q
  · rw [if_neg hb] at q
    cases q
/-- what stands tracked -/
theorem argH_is (ar : ∀ a ∈ A, ArgOb h A a) {b : Addr} {u : HO} (q : argH K h A b = some u) : K.lookup b = none ∧ ∃ vs : List Value, vs.length ≤ sizeLine ∧ (∀ u ∈ vs, OkU A u) ∧
    ((h.get? b = some { cls := .type "list", data := .seq vs.toArray } ∧ u = .frz { cls := .type "list", data := .seq vs.toArray } (.lst (vs.map toV))) ∨
     (h.get? b = some { cls := .type "tuple", data := .seq vs.toArray } ∧ u = .frz { cls := .type "tuple", data := .seq vs.toArray } (.tup (vs.map toV)))) := by
  obtain ⟨hb, hk⟩ := of_argH q
  obtain ⟨vs, h1, h2, h3⟩ := ar b hb
  refine ⟨hk, vs, h1, h2, ?_⟩
  rcases h3 with e | e
  · rw [argH_at hb hk e, hoOf_lst] at q
    exact .inl ⟨e, (Option.some.inj q).symm⟩
  · rw [argH_at hb hk e, hoOf_tup] at q
    exact .inr ⟨e, (Option.some.inj q).symm⟩
theorem argH_only (ar : ∀ a ∈ A, ArgOb h A a) : OnlyF (argH K h A) := fun b => by
  cases q : argH K h A b with
  | none => exact .inl rfl
  | some u =>
    obtain ⟨_, vs, _, _, ⟨_, e⟩ | ⟨_, e⟩⟩ := argH_is ar q
    · exact .inr ⟨_, _, by rw [e]⟩
    · exact .inr ⟨_, _, by rw [e]⟩
theorem argH_ok (ar : ∀ a ∈ A, ArgOb h A a) : HOk P w (argH K h A) h := fun b u q => by
  obtain ⟨_, vs, h1, h2, ⟨e, rfl⟩ | ⟨e, rfl⟩⟩ := argH_is ar q
  · exact ⟨e, by rw [List.length_map]; exact h1, vs, _, vals_toV h2, e⟩
  · exact ⟨e, by rw [List.length_map]; exact h1, vs, vals_toV h2, _, e, rfl, _, rfl⟩
theorem seq_inj {c c' : Value} {vs us : List Value} (e : (some { cls := c, data := .seq vs.toArray } : Option Obj) = some { cls := c', data := .seq us.toArray }) : c = c' ∧ vs = us := by
  have e1 := Option.some.inj e
  have e2 : c = c' := congrArg Obj.cls e1
  have e3 : Data.seq vs.toArray = Data.seq us.toArray := congrArg Obj.data e1
  injection e3 with e4
  refine ⟨e2, ?_⟩
  have e5 := congrArg Array.toList e4
  simpa using e5
/-- a list argument -/
theorem argL (KX : K.In h) (ar : ∀ a ∈ A, ArgOb h A a) {a : Addr} {vs : List Value} (ha : a ∈ A) (e : h.get? a = some { cls := .type "list", data := .seq vs.toArray }) : (∀ u ∈ vs, OkU A u) ∧ SqL K (argH K h A) a (vs.map toV) := by
  obtain ⟨us, h1, h2, h3⟩ := ar a ha
  have hu : us = vs := by
    rcases h3 with q | q
    · rw [e] at q
      exact (seq_inj q).2.symm
    · rw [e] at q
      exact absurd (Value.type.inj (seq_inj q).1) (by decide)
  subst hu
  refine ⟨h2, ?_⟩
  cases hk : K.lookup a with
  | none => exact .inl (.inr ⟨_, by rw [argH_at ha hk e, hoOf_lst]⟩)
  | some o =>
    have e2 := KX a o hk
    rw [e] at e2
    obtain rfl := Option.some.inj e2
    exact .inr ⟨_, us.toArray, _, hk, rfl, rfl, rfl, by rw [List.size_toArray]; exact h1, by simpa using vals_toV h2⟩
theorem argT (KX : K.In h) (ar : ∀ a ∈ A, ArgOb h A a) {a : Addr} {vs : List Value} (ha : a ∈ A) (e : h.get? a = some { cls := .type "tuple", data := .seq vs.toArray }) : (∀ u ∈ vs, OkU A u) ∧ SqT K (argH K h A) a (vs.map toV) := by
  obtain ⟨us, h1, h2, h3⟩ := ar a ha
  have hu : us = vs := by
    rcases h3 with q | q
    · rw [e] at q
      exact absurd (Value.type.inj (seq_inj q).1) (by decide)
    · rw [e] at q
      exact (seq_inj q).2.symm
  subst hu
  refine ⟨h2, ?_⟩
  cases hk : K.lookup a with
  | none => exact .inl (.inr ⟨_, by rw [argH_at ha hk e, hoOf_tup]⟩)
  | some o =>
    have e2 := KX a o hk
    rw [e] at e2
    obtain rfl := Option.some.inj e2
    exact .inr ⟨_, us.toArray, _, hk, rfl, rfl, by rw [List.size_toArray]; exact h1, by simpa using vals_toV h2⟩
mutual
theorem dw_one {Pm : Params} (KX : K.In h) (ar : ∀ a ∈ A, ArgOb h A a) : ∀ (d : WData) (v : Value), Well Pm h v d → plW d = true → OkU A v → Dw K (argH K h A) (toV v) d
  | .none, _, x, _, _ => by
    cases x
    exact .non
  | .bool b, _, x, _, _ => by
    cases x
    exact .bl b
  | .int i, _, x, _, _ => by
    cases x
    exact .int i
  | .str s, _, x, _, _ => by
    cases x
    exact .str s
  | .bytes b, _, x, _, _ => by
    cases x
    have z := Dw.byt (K := K) (H := argH K h A) b.toArray
    exact z
  | .list ds, _, x, p, hu => by
    obtain ⟨a, vs, rfl, ho, hall⟩ := well_list x
    obtain ⟨h2, hs⟩ := argL KX ar hu ho
    exact .lst hs (dw_all KX ar ds _ hall p h2)
  | .tuple ds, _, x, p, hu => by
    obtain ⟨a, vs, rfl, ho, hall⟩ := well_tuple x
    obtain ⟨h2, hs⟩ := argT KX ar hu ho
    exact .tup hs (dw_all KX ar ds _ hall p h2)
  | .float _, _, _, p, _ => Bool.noConfusion (show false = true from p)
  | .dict _, _, _, p, _ => Bool.noConfusion (show false = true from p)
  | .bytearray _, _, _, p, _ => Bool.noConfusion (show false = true from p)
  | .set _, _, _, p, _ => Bool.noConfusion (show false = true from p)
  | .frozenset _, _, _, p, _ => Bool.noConfusion (show false = true from p)
  | .obj _ _, _, _, p, _ => Bool.noConfusion (show false = true from p)
theorem dw_all {Pm : Params} (KX : K.In h) (ar : ∀ a ∈ A, ArgOb h A a) : ∀ (ds : List WData) (vs : List Value), WellAll Pm h vs ds → plWs ds = true → (∀ u ∈ vs, OkU A u) → DwAll K (argH K h A) (vs.map toV) ds
  | [], _, x, _, _ => by
    cases x
    exact .nil
  | d :: ds, _, x, p, hu => by
    obtain ⟨v, vs, rfl, x1, x2⟩ := well_cons x
    have q : plW d = true ∧ plWs ds = true := Bool.and_eq_true_iff.mp p
    exact .cons (dw_one KX ar d v x1 q.1 (hu _ (List.mem_cons_self ..))) (dw_all KX ar ds vs x2 q.2 fun u m => hu u (List.mem_cons_of_mem _ m))
end
end
/-! ### the call -/
theorem spec_call {P : Program} {w : World} {K : PySem.W.Frag} {mg mb : Str → Option Value} {CX : CXT} {k : Nat} {fa : Addr} {fd : FuncData} {ps : List Str} {sp : Sp} {s₁ : Shared} {vals : List Value} {ds : List WData} {R : PySem.W.WRecords} {cl : Str → Option Addr} {d0 : WData}
    (KX : K.In s₁.heap) (hns : s₁.heap.Ns mainGlobals mg) (hb : s₁.heap.Ns builtinsNs mb) (hbb : ∀ x : Str, x ≠ "__name__" → mb x = bootBuiltins x) (hlim : s₁.heap.NoLimit) (hg : s₁.gens = #[])
    (hwl : WellAll w.params s₁.heap vals ds) (hpl : plWs ds = true) (hwt : ∀ d ∈ ds, d.weight ≤ 1048576) (hr : Room k callerA)
    (F : ∀ base : Heap, K.In base → base.Ns mainGlobals mg → FnOk P w K mg base CX k fa fd ps sp) (hbind : ∀ (s : Shared) (us : List Value), us.length = ps.length → BindsTo s fd ⟨us, []⟩ (ps.zip us)) (hlen : ds.length = ps.length)
    (hsp : ∀ (H : Hp) (xs : List V), OnlyF H → DwAll K H xs ds → sp xs H (fun v H' => Dw K H' v d0) fun _ _ _ => False)
    (hCX : ∀ H e s', CX [] H s₁ (fun _ _ _ => False) e s' → False) :
    codeAny (model P w) callerA (.call (.ref fa) ⟨vals, []⟩) (fun r s' => ∃ u as, r = .ok (.ret u) ∧ ReadsW R cl s'.heap u d0 as ∧ OldK s₁.heap s'.heap ∧ s'.os = s₁.os ∧ AllBare s'.gens) s₁ := by
  obtain ⟨A, ho, ar⟩ := area_all ds vals hwl hpl hwt
  have hO : OnlyF (argH K s₁.heap A) := argH_only ar
  have hok : HOk P w (argH K s₁.heap A) s₁.heap := argH_ok ar
  have hS := dw_all KX ar ds vals hwl hpl ho
  have hV := vals_toV ho
  have hK : ∀ b u, argH K s₁.heap A b = some u → K.lookup b = none := fun b u q => (argH_is ar q).1
  have noA : ∀ {b : Addr} {o : Obj} {es : Array DictEntry} {ep : Nat}, s₁.heap.get? b = some o → o.data = .dict es ep → argH K s₁.heap A b = none := fun {b o es ep} e d => by
    cases q : argH K s₁.heap A b with
    | none => rfl
    | some u =>
      obtain ⟨_, vs, _, _, ⟨e2, _⟩ | ⟨e2, _⟩⟩ := argH_is ar q
      · rw [e2] at e
        cases e
        have d' : Data.seq vs.toArray _ = Data.dict es ep := d
        cases d'
      · rw [e2] at e
        cases e
        have d' : Data.seq vs.toArray _ = Data.dict es ep := d
        cases d'
  generalize argH K s₁.heap A = H at hO hok hS hK noA
  have base_of : ∀ {b : Addr} {o : Obj}, s₁.heap.get? b = some o → H b = none → (hidT s₁.heap H).get? b = some o := fun e n => hidT_get e n
  have nsK : ∀ {b : Addr} {m : Str → Option Value}, s₁.heap.Ns b m → (hidT s₁.heap H).Ns b m := fun {b m} ⟨o, es, ep, e, d, r⟩ => ⟨o, es, ep, base_of e (noA e d), d, r⟩
  have nK : ∀ b o, K.lookup b = some o → H b = none := fun b o e => by
    cases q : H b with
    | none => rfl
    | some u =>
      rw [hK b u q] at e
      cases e
  have hKb : K.In (hidT s₁.heap H) := fun b o e => base_of (KX b o e) (nK b o e)
  have hM : Mod K mg (hidT s₁.heap H) := ⟨hKb, nsK hns, ⟨mb, nsK hb, hbb⟩, let ⟨mc, h1, h2⟩ := hlim; ⟨mc, nsK h1, h2⟩⟩
  have e0 : Env0 P w K mg (hidT s₁.heap H) callerA [] s₁ H := ⟨rfl, hM, fun b o e => of_hidT e, Nat.le_of_eq (hidT_size _ _), trivial, fun b hb => absurd (show b ∈ ([] : List Addr) from hb) (by simp), hok, .of_eq hg⟩
  have hl : vals.length = ps.length := by rw [wellAll_len hwl]; exact hlen
  refine codeAny_mono ((F _ hKb (nsK hns)).run callerA [] s₁ H ⟨vals, []⟩ vals (vals.map toV) _ _ hr e0 (hbind s₁ vals hl) hV (hsp H _ hO hS)) fun r s' x => ?_
  cases r with
  | error e => exact (hCX H e s' x).elim
  | ok fl =>
    cases fl with
    | next => exact False.elim x
    | brk => exact False.elim x
    | cont => exact False.elim x
    | ret u =>
      obtain ⟨v, H', os, bare, un, hok', r', q⟩ := x
      have kept : ∀ b o, s₁.heap.get? b = some o → s'.heap.get? b = some o := fun b o e => by
        cases q2 : H b with
        | none => exact un.keep b o e q2 (by intro z; exact absurd (show b ∈ ([] : List Addr) from z) (by simp)) (by simp)
        | some u2 =>
          rcases hO b with z | ⟨ob, u3, z⟩
          · rw [q2] at z
            cases z
          · have z2 := un.frzs b ob _ z
            obtain ⟨e1, _⟩ := hok b _ z
            obtain ⟨e2, _⟩ := hok' b _ z2
            rw [e] at e1
            cases e1
            exact e2
      have KX' : K.In s'.heap := fun b o e => kept b o (KX b o e)
      obtain ⟨as, hrd⟩ := Dw.reads (R := R) (cl := cl) hok' KX' d0 v u q r'
      exact ⟨u, as, rfl, hrd, OldK.of_keep kept, os, bare⟩
/-! ### the row -/
theorem layable_weight {ds : List WData} (h : WData.layableAll ds = true) : ∀ d ∈ ds, d.weight ≤ 1048576 := fun d hd =>
  (PySem.W.layableW_iff.mp (List.all_eq_true.mp h d hd)).2.2
theorem encAll_len : ∀ (cs : List Codec) (a : Codec.denoteAll cs), (Codec.encAll cs a).length = cs.length
  | [], _ => rfl
  | c :: cs, a => by
    show (Codec.encAll cs a.2).length + 1 = cs.length + 1
    rw [encAll_len cs a.2]
/-- the goal that k_headS leaves (case hc), from the promise of the row's def: whatever the arguments that the codecs let and the row asks for, the def gives what stands for enc (f ..) -/
theorem walk_spec {r : OpenSpec} {k : Nat} {q : Program} {loose : List Str} {XP : (Str → Option Value) → Heap → Prop} {YP : World → Heap → Prop} {d : DefRec} {K : Params → PySem.W.Frag} {CX : World → CXT} {ps : List Str} {sp : World → Sp}
    (hwell : r.wellSaid = true) (hdf : d.params.defaults = []) (hlen : r.args.length = ps.length) (hr : Room k callerA)
    (hY : ∀ (w : World) (h : Heap), YP w h → (K w.params).In h)
    (F : ∀ (w : World) (mg : Str → Option Value) (fa : Addr) (h : Heap), YP w h → (K w.params).In h → h.Ns mainGlobals mg → mg d.name = some (.ref fa) →
      ∃ fd : FuncData, (∀ (s : Shared) (us : List Value), us.length = ps.length → BindsTo s fd ⟨us, []⟩ (ps.zip us)) ∧
        ∀ base : Heap, (K w.params).In base → base.Ns mainGlobals mg → FnOk r.prog w (K w.params) mg base (CX w) k fa fd ps (sp w))
    (hsp : ∀ (w : World) (H : Hp) (xs : List V) (a : Codec.denoteAll r.args), OnlyF H → Codec.withinAll r.args a = true → Codec.app r.args r.asked a = true → DwAll (K w.params) H xs (Codec.encAll r.args a) →
      sp w xs H (fun v H' => Dw (K w.params) H' v (r.ret.enc (Codec.app r.args r.f a))) fun _ _ _ => False)
    (hCX : ∀ (w : World) (H : Hp) (s : Shared) (e : Value) (s' : Shared), CX w [] H s (fun _ _ _ => False) e s' → False) :
    PySem.W.WalkOS q loose XP YP r d [] (fun f vs => PySem.call f vs) := by
  intro w s_0 s₁ mg mb G Y fa o pm cd doc dV kV ho hd hcd hD hmg hg args vals as hpre hlay hrd hwl hlo
  obtain ⟨a, e1, e2⟩ := PySem.W.os_pre_some hpre
  obtain ⟨e3, hwi⟩ := Codec.encAll_of_decAll r.args args a e1
  subst e3
  have KX := hY w _ Y
  obtain ⟨fd, hb, hF⟩ := F w mg fa _ Y KX G.T.g hmg
  refine PySem.W.enter_call (codeAny_mono (spec_call (R := []) (cl := classAt s_0.heap) (d0 := r.ret.enc (Codec.app r.args r.f a)) KX G.T.g G.T.b G.T.builtins G.T.nolimit hg hwl (pl_encAll _ _) (layable_weight hlay) hr hF hb (by rw [encAll_len]; exact hlen)
    (fun H xs hO hS => hsp w H xs a hO hwi e2 hS) fun H e s' => hCX w H s₁ e s') fun r' s' hq => ?_)
  obtain ⟨u, as', rfl, h1, h2, h3, h4⟩ := hq
  exact ⟨.inl ⟨u, _, as', rfl, fun _ => rfl, h1, (OpenSpec.post_iff hwell hwi _ _).mpr rfl, fun z => Bool.noConfusion (show false = true from z)⟩, h2, h3, h4⟩
/-- the same where the promise hangs on the written part alone -/
theorem walk_specK {r : OpenSpec} {k : Nat} {q : Program} {loose : List Str} {XP : (Str → Option Value) → Heap → Prop} {YP : World → Heap → Prop} {d : DefRec} {K : Params → PySem.W.Frag} {CX : CXT} {ps : List Str} {sp : PySem.W.Frag → Sp}
    (hwell : r.wellSaid = true) (hdf : d.params.defaults = []) (hlen : r.args.length = ps.length) (hr : Room k callerA)
    (hY : ∀ (w : World) (h : Heap), YP w h → (K w.params).In h)
    (F : ∀ (w : World) (mg : Str → Option Value) (fa : Addr) (h : Heap), YP w h → (K w.params).In h → h.Ns mainGlobals mg → mg d.name = some (.ref fa) →
      ∃ fd : FuncData, (∀ (s : Shared) (us : List Value), us.length = ps.length → BindsTo s fd ⟨us, []⟩ (ps.zip us)) ∧
        ∀ base : Heap, (K w.params).In base → base.Ns mainGlobals mg → FnOk r.prog w (K w.params) mg base CX k fa fd ps (sp (K w.params)))
    (hsp : ∀ (K : PySem.W.Frag) (H : Hp) (xs : List V) (a : Codec.denoteAll r.args), OnlyF H → Codec.withinAll r.args a = true → Codec.app r.args r.asked a = true → DwAll K H xs (Codec.encAll r.args a) →
      sp K xs H (fun v H' => Dw K H' v (r.ret.enc (Codec.app r.args r.f a))) fun _ _ _ => False)
    (hCX : ∀ (H : Hp) (s : Shared) (e : Value) (s' : Shared), CX [] H s (fun _ _ _ => False) e s' → False) :
    PySem.W.WalkOS q loose XP YP r d [] (fun f vs => PySem.call f vs) :=
  walk_spec (K := K) (CX := fun _ => CX) (sp := fun w => sp (K w.params)) hwell hdf hlen hr hY F (fun w H xs a h1 h2 h3 h4 => hsp (K w.params) H xs a h1 h2 h3 h4) fun _ H s e s' => hCX H s e s'
end L2
-- rests on (row put in by the clerk, for the bench that shows a file only what it spells): KE.SpHead KE.OsShapes
end

set_option Elab.async false
set_option linter.all false
set_option maxRecDepth 100000
set_option maxHeartbeats 2000000
namespace JX
open PySem PySem.Spec PyProof.Rows PySem.SeqAt
/-! list.index from a place on -/
theorem list_index3At (l : Addr) (items : Array Value) (n : Nat) (dd : Option Addr) (sl : Array (Option Value)) (x : Value) (e : Value → Bool) (a : Nat) (t : Tok) (j : Nat) (hj : j < items.size) (hsmall : (j : Int) < 2 ^ 63 - 1) (haj : a ≤ j)
    (hit : e items[j] = true) (hno : ∀ m (hm : m < items.size), a ≤ m → m < j → e items[m] = false) :
    Meets (Builtin.«list.index» ⟨[.ref l, x, .int (a : Nat) t], []⟩)
      (fun A R s => s.heap.get? l = some { cls := .type "list", dict := dd, data := .seq items n, slots := sl } ∧ (∀ y, y ∈ items → EqAt A.in1 s y x (e y)) ∧ R (.ok (.ret (.int j s.toks))) { s with toks := s.toks + 1 }) := by
  intro prog w A R s h
  obtain ⟨hp, g, d, tk, os⟩ := s; obtain ⟨hl, he, h⟩ := h
  wp_walk using AutoSeq1.wpAny_loadPart' hl
  have a1 : ((fun i : Int => if i < 0 then max 0 (i + (items.size : Int)) else i) ((some (a : Int) : Option Int).getD 0)) = ((a : Nat) : Int) := by
    show (if (a : Int) < 0 then max 0 ((a : Int) + (items.size : Int)) else (a : Int)) = (a : Int)
    rw [if_neg (by omega)]
  have a2 : ((fun i : Int => if i < 0 then max 0 (i + (items.size : Int)) else i) ((none : Option Int).getD (2 ^ 63 - 1))) = 2 ^ 63 - 1 := by simp
  rw [a1, a2]
  exact ⟨plainId_quiet MeetsSeq.plain_index_loop _, codeAny_builtin MeetsSeq.entry_index_loop (by
    rw [Around.under_plainId MeetsSeq.plain_index_loop _]
    exact index_loopAt l items n dd sl x e (2 ^ 63 - 1) j hj hsmall hit _ a rfl haj (fun m hm h1 h2 => hno m hm h1 h2) prog w A R _ ⟨hl, he, h⟩)⟩
end JX
namespace L2
open PySem PySem.Spec PyProof.Rows
section
variable {X : Cx}
def rIndex3 (K : PySem.W.Frag) : V → List V → Hp → VK → Prop := fun x xs H Q => ∃ (a : Addr) (ns : List Int) (k : Int) (b j : Nat), x = V.ref a ∧ xs = [.int k, .int (b : Nat)] ∧ SqL K H a (ns.map V.int) ∧ b ≤ j ∧ ns[j]? = some k ∧
  (∀ (m : Nat) (z : Int), b ≤ m → m < j → ns[m]? = some z → z ≠ k) ∧ Q (.int (j : Nat)) H
theorem mt_index3 : MtR X "list.index" (rIndex3 X.K) := by
  intro pins s σ H x xs v us Q I rx rxs h
  obtain ⟨a, ns, k, b, j, rfl, rfl, hs, hbj, hz, hno, q⟩ := h
  cases rx
  cases rxs with
  | cons ry rt =>
    rename_i uy ut
    cases rt with
    | cons rb rt =>
    cases rt
    obtain ⟨tb, rfl⟩ := rb
    obtain ⟨its, rv, ⟨⟨cls, dd, data, sl⟩, n, ho, hc, hdn, hd⟩, hlen⟩ := I.list hs
    simp only at hc hd
    subst hc hd
    have hz' : (ns.map V.int)[j]? = some (V.int k) := by rw [List.getElem?_map, hz]; rfl
    obtain ⟨u, hu, ru⟩ := rv.get hz'
    obtain ⟨hjl, hje⟩ := List.getElem?_eq_some_iff.mp hu
    have hvl := rv.length
    have hj : j < its.toArray.size := by simpa using hjl
    have hsl := sizeLine_eq
    have fys : (ns.map V.int).all flatV = true := by
      rw [List.all_map]
      exact List.all_eq_true.mpr fun _ _ => rfl
    have fy : flatV (V.int k) = true := rfl
    refine call_meets PySem.F.slot_list_index ⟨_, ho, rfl⟩ PySem.F.entry_list_index (PySem.F.args_list_index_3 _ _ _)
      (JX.list_index3At a its.toArray n dd sl uy (eqU (V.int k)) b tb j hj (by omega) hbj ?_ ?_) ⟨ho, fun u' hu' => mem_eqAt ry fy rv fys u' (by simpa using hu'), ?_⟩
    · have e1 : its.toArray[j] = u := by simpa using hje
      rw [e1, eqU_of ru (flat_at fys hz')]
      simp [eqV]
    · intro m hm hbm hmj
      have hml : m < its.length := by simpa using hm
      have hmy : m < ns.length := by rw [List.length_map] at hvl; omega
      have hy' : (ns.map V.int)[m]? = some (V.int ns[m]) := by rw [List.getElem?_map, List.getElem?_eq_getElem hmy]; rfl
      obtain ⟨u2, hu2, ru2⟩ := rv.get hy'
      obtain ⟨_, hme⟩ := List.getElem?_eq_some_iff.mp hu2
      have e1 : its.toArray[m] = u2 := by simpa using hme
      rw [e1, eqU_of ru2 (flat_at fys hy')]
      have := hno m ns[m] hbm hmj (List.getElem?_eq_getElem hmy)
      simp [eqV, this]
    · exact ⟨.int (j : Nat), H, I.tok _, ⟨_, rfl⟩, q⟩
/-- xs[i], by values -/
def rGetL (K : PySem.W.Frag) : V → V → Hp → VK → Prop := fun o i H Q => ∃ p xs, ∃ j : Nat, ∃ v, o = .ref p ∧ i = .int (j : Nat) ∧ SqL K H p xs ∧ xs[j]? = some v ∧ Q v H
theorem get_list : PGet X (rGetL X.K) := by
  intro pins s σ H o i ov iv Q I ro ri h
  obtain ⟨p, xs, j, v, rfl, rfl, hq, hv, q⟩ := h
  cases ro
  obtain ⟨t, rfl⟩ := ri
  obtain ⟨its, r, pl, hz⟩ := I.list hq
  obtain ⟨w, ew, rw'⟩ := r.get hv
  have hl := r.length
  have hn := line63
  have hj : j < xs.length := (List.getElem?_eq_some_iff.mp hv).1
  exact wpAny_getItem_list pl.isList (by omega) (by omega) (by simpa using ew) ⟨v, H, I, rw', q⟩
/-- sorted(xs, reverse=True), ints -/
def tSortedR (K : PySem.W.Frag) (ta : TA) : TE := fun σ H Q => ta σ H fun vs H1 => ∃ (a : Addr) (ns : List Int), vs = [V.ref a] ∧ SqL K H1 a (ns.map V.int) ∧ ns.length < 64 ∧
  ∀ (ns' : List Int) (p : Addr), ns'.Perm ns → ns'.Pairwise (· ≥ ·) → H1 p = none → Q (.ref p) (upd H1 p (.lst (ns'.map V.int)))
theorem pe_sortedR {e : Expr} {ta : TA} {p pos kp cp : Pos} {j : Nat} (hg : Gl X "sorted") (hm : X.mg "sorted" = none) (ha : PA X [e] ta)
    (hs : starEach [e] X.env = [(false, eval e X.env)] := by rfl) : PE X (.Call (.Name "sorted" p) [e] [⟨some "reverse", .Constant (.bool true) j cp, kp⟩] pos) (tSortedR X.K ta) := by
  intro pins s σ H Q I h
  refine wpAny_Call_Name_kw (ld_blt I hg hm PyProof.Rows.boot_sorted ?_)
  refine callWith_kw (he := by rw [hs]; rfl) (hplain := by rw [hs]; rfl) (thn (ha pos pins s σ H _ I h) fun us s1 ⟨vs, H1, I1, r1, q1⟩ => ?_)
  · obtain ⟨a, ns, rfl, hq, h64, q⟩ := q1
    have hk : PK X [⟨some "reverse", .Constant (.bool true) j cp, kp⟩] (tCons (tC (.bl true)) tNil) := pk_cons pe_bl pk_nil
    refine thn (hk pos pins s1 σ H1 (fun zs H2 => zs = [.bl true] ∧ H2 = H1) I1 ⟨rfl, rfl⟩) fun ws s2 ⟨zs, H2, I2, r2, e1, e2⟩ => ?_
    subst e1 e2
    cases r2 with
    | cons rb rt =>
      cases rt
      cases rb
      obtain ⟨its, rv, hl, _⟩ := I2.list hq
      rw [Vals.ref1 r1]
      have hi := rv.ints
      refine PyProof.Rows.sorted_ints_rev (b := true) hl.isList hi (by rw [hi.length]; exact h64) fun out ns' h1 h2 h3 => ?_
      obtain ⟨ep, he'⟩ := PyProof.Rows.sortedAll_at s2.heap its out
      have hlen : (ns'.map V.int).length ≤ sizeLine := by rw [List.length_map, h2.length_eq]; exact small64 h64
      exact ⟨.ref _, upd _ (s2.heap.objs.size + 1) (.lst (ns'.map V.int)), I2.laid (t' := s2.toks) (fun _ _ => PyProof.Rows.sortedAll_old) (Nat.le_succ _) ⟨hlen, out.toList, ep, vals_of_ints h1, he'⟩, rfl, q ns' _ h2 h3 (I2.hok.fresh (Nat.le_succ _))⟩
end
end L2

/-! The mathematics: the specification's reading of a text, step by step, over lists of ints. -/
namespace Jm
open Jug

def by8 (t : List Int) : Bytes := t.map fun z => UInt8.ofNat z.toNat
def hI (z : Int) : Int := if 48 ≤ z ∧ z ≤ 57 then z - 48 else if 97 ≤ z ∧ z ≤ 102 then z - 97 + 10 else -1
def Ok8 (t : List Int) : Prop := ∀ z ∈ t, 0 ≤ z ∧ z ≤ 255

theorem Ok8.drop {t : List Int} (h : Ok8 t) (n : Nat) : Ok8 (t.drop n) := fun z hz => h z (List.mem_of_mem_drop hz)
theorem by8_nil : by8 [] = [] := rfl
theorem by8_cons (z : Int) (r : List Int) : by8 (z :: r) = UInt8.ofNat z.toNat :: by8 r := rfl
theorem by8_length (t : List Int) : (by8 t).length = t.length := by simp [by8]
theorem u8_toNat {z : Int} (h0 : 0 ≤ z) (h1 : z ≤ 255) : (UInt8.ofNat z.toNat).toNat = z.toNat := by
  rw [UInt8.toNat_ofNat']
  have : z.toNat < 256 := by omega
  omega
theorem u8_eq {z : Int} (h0 : 0 ≤ z) (h1 : z ≤ 255) (c : UInt8) : UInt8.ofNat z.toNat = c ↔ z = (c.toNat : Int) := by
  constructor
  · intro h
    have := congrArg UInt8.toNat h
    rw [u8_toNat h0 h1] at this
    omega
  · intro h
    apply UInt8.toNat_inj.mp
    rw [u8_toNat h0 h1]
    omega
theorem u8_93 {z : Int} (h0 : 0 ≤ z) (h1 : z ≤ 255) : UInt8.ofNat z.toNat = 93 ↔ z = 93 := u8_eq h0 h1 93
theorem u8_91 {z : Int} (h0 : 0 ≤ z) (h1 : z ≤ 255) : UInt8.ofNat z.toNat = 91 ↔ z = 91 := u8_eq h0 h1 91
theorem hI_lt (z : Int) : hI z < 16 := by unfold hI; split <;> (try split) <;> omega

theorem digitIn_none {z : Int} (h0 : 0 ≤ z) (h1 : z ≤ 255) (h : hI z < 0) : digitIn (UInt8.ofNat z.toNat) = none := by
  unfold digitIn
  rw [u8_toNat h0 h1]
  unfold hI at h
  split at h
  · omega
  · split at h
    · omega
    · rw [if_neg (by omega), if_neg (by omega)]
theorem digitIn_some {z : Int} (h0 : 0 ≤ z) (h1 : z ≤ 255) (h : 0 ≤ hI z) : digitIn (UInt8.ofNat z.toNat) = some (hI z).toNat := by
  unfold digitIn
  rw [u8_toNat h0 h1]
  unfold hI at h ⊢
  split at h
  · rename_i q
    rw [if_pos (by omega), if_pos q]
    congr 1
    omega
  · rename_i q
    split at h
    · rename_i q'
      rw [if_neg (by omega), if_pos (by omega), if_neg q, if_pos q']
      congr 1
      omega
    · omega
/-! handIn, a byte at a time -/
theorem hand_nil (p : Nat) (l : List Nat) : handIn p (by8 []) l = .error p := by simp [by8, handIn]
theorem hand_close (p : Nat) {z : Int} (r : List Int) (l : List Nat) (h : z = 93) : handIn p (by8 (z :: r)) l = if l.length < 2 then .error p else .ok (falling l, p + 1, by8 r) := by
  subst h
  rw [by8_cons]
  show handIn p ((93 : UInt8) :: by8 r) l = _
  rw [handIn, if_pos rfl]
theorem hand_bad (p : Nat) {z : Int} (r : List Int) (l : List Nat) (h0 : 0 ≤ z) (h1 : z ≤ 255) (h : z ≠ 93) (hb : 3 ≤ l.length ∨ hI z < 1) : handIn p (by8 (z :: r)) l = .error p := by
  rw [by8_cons, handIn, if_neg (fun e => h ((u8_93 h0 h1).mp e))]
  by_cases hn : hI z < 0
  · rw [digitIn_none h0 h1 hn]
  · rw [digitIn_some h0 h1 (by omega)]
    show (if (hI z).toNat = 0 ∨ ATONCE ≤ l.length then _ else _) = _
    rw [if_pos]
    show (hI z).toNat = 0 ∨ 3 ≤ l.length
    omega
theorem hand_go (p : Nat) {z : Int} (r : List Int) (l : List Nat) (h0 : 0 ≤ z) (h1 : z ≤ 255) (h : z ≠ 93) (hl : l.length < 3) (hb : 1 ≤ hI z) :
    handIn p (by8 (z :: r)) l = handIn (p + 1) (by8 r) (l ++ [(hI z).toNat]) := by
  rw [by8_cons, handIn, if_neg (fun e => h ((u8_93 h0 h1).mp e)), digitIn_some h0 h1 (by omega)]
  show (if (hI z).toNat = 0 ∨ ATONCE ≤ l.length then _ else _) = _
  rw [if_neg]
  show ¬((hI z).toNat = 0 ∨ 3 ≤ l.length)
  omega
def dg (z : Int) : Nat := (hI z).toNat
theorem hand_ok : ∀ (r : List Int) (p : Nat) (l : List Nat) (x : Beat) (q : Nat) (s : Bytes), Ok8 r → handIn p (by8 r) l = .ok (x, q, s) →
    ∃ ds rest, r = ds ++ 93 :: rest ∧ q = p + ds.length + 1 ∧ s = by8 rest ∧ x = falling (l ++ ds.map dg) ∧ (∀ z ∈ ds, 1 ≤ hI z ∧ z ≠ 93) ∧ 2 ≤ (l ++ ds.map dg).length ∧ ((l ++ ds.map dg).length ≤ max 3 l.length)
  | [], p, l, x, q, s, _, h => by rw [hand_nil] at h; cases h
  | z :: r, p, l, x, q, s, h8, h => by
    obtain ⟨h0, h1⟩ := h8 z (List.mem_cons_self)
    by_cases hz : z = 93
    · rw [hand_close p r l hz] at h
      split at h
      · cases h
      · rename_i hl
        cases h
        refine ⟨[], r, by rw [hz]; rfl, rfl, rfl, by simp, by simp, by simp; omega, by simp; omega⟩
    · by_cases hb : 3 ≤ l.length ∨ hI z < 1
      · rw [hand_bad p r l h0 h1 hz hb] at h
        cases h
      · rw [hand_go p r l h0 h1 hz (by omega) (by omega)] at h
        obtain ⟨ds, rest, e1, e2, e3, e4, e5, e6, e7⟩ := hand_ok r (p + 1) _ x q s (fun y hy => h8 y (List.mem_cons_of_mem _ hy)) h
        refine ⟨z :: ds, rest, by rw [e1]; rfl, by rw [e2, List.length_cons]; omega, e3, by rw [e4]; simp [dg], ?_, ?_, ?_⟩
        · intro y hy
          rcases List.mem_cons.mp hy with rfl | hy
          · exact ⟨by omega, hz⟩
          · exact e5 y hy
        · simp at e6 ⊢; omega
        · simp at e7 ⊢; omega
/-! one beat -/
def stepIn (p : Nat) : Bytes → Except Nat (Beat × Nat × Bytes)
  | [] => .error p
  | c :: r => if c = 91 then handIn (p + 1) r [] else match digitIn c with
    | none => .error p
    | some n => .ok (if n = 0 then [] else [n], p + 1, r)
theorem beats_nil (f p : Nat) (l : Pattern) : beatsIn (f + 1) p [] l = if l.isEmpty = true then .error p else .ok l := by rw [beatsIn]
theorem beats_long (f p : Nat) (c : UInt8) (r : Bytes) (l : Pattern) (h : 16 ≤ l.length) : beatsIn (f + 1) p (c :: r) l = .error p := by
  rw [beatsIn, if_pos (show LONG ≤ l.length from h)]
theorem beats_err (f p : Nat) (c : UInt8) (r : Bytes) (l : Pattern) (h : l.length < 16) {e : Nat} (hs : stepIn p (c :: r) = .error e) : beatsIn (f + 1) p (c :: r) l = .error e := by
  rw [beatsIn, if_neg (show ¬ LONG ≤ l.length by show ¬ 16 ≤ l.length; omega)]
  unfold stepIn at hs
  dsimp only at hs
  by_cases hc : c = 91
  · rw [if_pos hc] at hs ⊢
    rw [hs]
  · rw [if_neg hc] at hs ⊢
    cases hd : digitIn c with
    | none => rw [hd] at hs; cases hs; rfl
    | some n => rw [hd] at hs; cases hs
theorem beats_go (f p : Nat) (c : UInt8) (r : Bytes) (l : Pattern) (h : l.length < 16) {x : Beat} {q : Nat} {s : Bytes} (hs : stepIn p (c :: r) = .ok (x, q, s)) : beatsIn (f + 1) p (c :: r) l = beatsIn f q s (l ++ [x]) := by
  rw [beatsIn, if_neg (show ¬ LONG ≤ l.length by show ¬ 16 ≤ l.length; omega)]
  unfold stepIn at hs
  dsimp only at hs
  by_cases hc : c = 91
  · rw [if_pos hc] at hs ⊢
    rw [hs]
  · rw [if_neg hc] at hs ⊢
    cases hd : digitIn c with
    | none => rw [hd] at hs; cases hs
    | some n => rw [hd] at hs; cases hs; rfl
/-- a beat without a fault: its bytes -/
theorem step_ok {t : List Int} {p : Nat} {x : Beat} {q : Nat} {s : Bytes} (h8 : Ok8 t) (h : stepIn p (by8 t) = .ok (x, q, s)) :
    ∃ seg rest, t = seg ++ rest ∧ q = p + seg.length ∧ s = by8 rest ∧ 1 ≤ seg.length ∧ seg.length ≤ 5 ∧ x = falling (((seg.map hI).filter (fun z => decide (0 < z))).map Int.toNat) ∧
      (x.length ≤ 3 ∧ ∀ n ∈ ((seg.map hI).filter (fun z => decide (0 < z))), 1 ≤ n ∧ n ≤ 15) ∧
      (∀ z r, t = z :: r → (z = 91 → ∃ ds, seg = 91 :: ds ++ [93] ∧ ∀ y ∈ ds, y ≠ 93) ∧ (z ≠ 91 → seg.length = 1)) := by
  have pos15 : ∀ seg : List Int, ∀ n ∈ ((seg.map hI).filter (fun z => decide (0 < z))), 1 ≤ n ∧ n ≤ 15 := by
    intro seg n hn
    obtain ⟨hm, hp⟩ := List.mem_filter.mp hn
    obtain ⟨z, _, rfl⟩ := List.mem_map.mp hm
    have := hI_lt z
    have : 0 < hI z := of_decide_eq_true hp
    omega
  cases t with
  | nil => cases h
  | cons z r =>
    obtain ⟨h0, h1⟩ := h8 z (List.mem_cons_self)
    rw [by8_cons] at h
    unfold stepIn at h
    dsimp only at h
    by_cases hz : z = 91
    · rw [if_pos ((u8_91 h0 h1).mpr hz)] at h
      obtain ⟨ds, rest, e1, e2, e3, e4, e5, e6, e7⟩ := hand_ok r (p + 1) [] x q s (fun y hy => h8 y (List.mem_cons_of_mem _ hy)) h
      have hf : ∀ ds : List Int, (∀ z ∈ ds, 1 ≤ hI z ∧ z ≠ 93) → (((91 :: ds ++ [93]).map hI).filter (fun z => decide (0 < z))).map Int.toNat = ds.map dg := by
        intro ds hd
        have h91 : hI 91 = -1 := rfl
        have h93 : hI 93 = -1 := rfl
        rw [List.map_append, List.map_cons, List.filter_append, List.filter_cons, h91]
        simp only [List.map_cons, List.map_nil, h93]
        rw [if_neg (by decide)]
        have e2 : List.filter (fun z => decide (0 < z)) [(-1 : Int)] = [] := by decide
        rw [e2, List.append_nil]
        induction ds with
        | nil => rfl
        | cons d ds ih =>
          obtain ⟨hd1, _⟩ := hd d (List.mem_cons_self)
          rw [List.map_cons, List.filter_cons, if_pos (by simp; omega), List.map_cons, ih (fun z hz => hd z (List.mem_cons_of_mem _ hz))]
          rfl
      have hlen : ∀ (n : Nat) (l : List Nat), (putIn n l).length = l.length + 1 := by
        intro n l
        induction l with
        | nil => rfl
        | cons m r ih => unfold putIn; split <;> simp [ih]
      have hfl : ∀ l : List Nat, (falling l).length = l.length := by
        intro l
        induction l with
        | nil => rfl
        | cons m r ih => show (putIn m (falling r)).length = _; rw [hlen, ih]; rfl
      simp at e6 e7
      refine ⟨91 :: ds ++ [93], rest, by rw [e1, hz]; simp, by rw [e2]; simp; omega, e3, by simp, by simp; omega, ?_, ⟨?_, pos15 _⟩, ?_⟩
      · rw [hf ds e5, e4]; rfl
      · rw [e4, hfl]; simp; omega
      · intro z' r' e
        cases e
        exact ⟨fun _ => ⟨ds, rfl, fun y hy => (e5 y hy).2⟩, fun hne => absurd hz hne⟩
    · rw [if_neg (fun e => hz ((u8_91 h0 h1).mp e))] at h
      by_cases hn : hI z < 0
      · rw [digitIn_none h0 h1 hn] at h; cases h
      · rw [digitIn_some h0 h1 (by omega)] at h
        cases h
        refine ⟨[z], r, rfl, rfl, rfl, by simp, by simp, ?_, ⟨?_, pos15 _⟩, ?_⟩
        · simp only [List.map_cons, List.map_nil, List.filter_cons, List.filter_nil]
          by_cases hzz : (hI z).toNat = 0
          · rw [if_pos hzz, if_neg (by simp; omega)]; rfl
          · rw [if_neg hzz, if_pos (by simp; omega)]; rfl
        · split <;> simp
        · intro z' r' e
          cases e
          exact ⟨fun e => absurd e hz, fun _ => rfl⟩
/-- the reading, from a place on: l is what has been read -/
def At (t : List Int) (place : Nat) (l : Pattern) : Prop :=
  place ≤ t.length ∧ l.length ≤ 16 ∧ (place = 0 ↔ l = []) ∧ ∃ f, t.length - place < f ∧ read (by8 t) = beatsIn f place (by8 (t.drop place)) l
theorem At.start (t : List Int) : At t 0 [] := ⟨Nat.zero_le _, Nat.zero_le _, by simp, t.length + 1, by omega, by rw [List.drop_zero]; unfold Jug.read; rw [by8_length]⟩
theorem drop_cons {t : List Int} {p : Nat} (h : p < t.length) : ∃ z r, t.drop p = z :: r ∧ t[p]? = some z := ⟨t[p], t.drop (p + 1), List.drop_eq_getElem_cons h, List.getElem?_eq_getElem h⟩
theorem At.long {t : List Int} {p : Nat} {l : Pattern} (a : At t p l) (hp : p < t.length) (hl : l.length = 16) : read (by8 t) = .error p := by
  obtain ⟨_, _, _, f, hf, e⟩ := a
  obtain ⟨z, r, ed, _⟩ := drop_cons hp
  obtain ⟨f', rfl⟩ : ∃ f', f = f' + 1 := ⟨f - 1, by omega⟩
  rw [e, ed, by8_cons, beats_long _ _ _ _ _ (by omega)]
theorem At.err {t : List Int} {p e : Nat} {l : Pattern} (a : At t p l) (hp : p < t.length) (hl : l.length ≠ 16) (hs : stepIn p (by8 (t.drop p)) = .error e) : read (by8 t) = .error e := by
  obtain ⟨_, h16, _, f, hf, er⟩ := a
  obtain ⟨z, r, ed, _⟩ := drop_cons hp
  obtain ⟨f', rfl⟩ : ∃ f', f = f' + 1 := ⟨f - 1, by omega⟩
  rw [ed, by8_cons] at hs
  rw [er, ed, by8_cons, beats_err _ _ _ _ _ (by omega) hs]
theorem At.next {t : List Int} (h8 : Ok8 t) {p q : Nat} {x : Beat} {s : Bytes} {l : Pattern} (a : At t p l) (hp : p < t.length) (hl : l.length ≠ 16) (hs : stepIn p (by8 (t.drop p)) = .ok (x, q, s)) : At t q (l ++ [x]) ∧ p < q := by
  obtain ⟨_, h16, hz, f, hf, er⟩ := a
  obtain ⟨z, r, ed, _⟩ := drop_cons hp
  obtain ⟨f', rfl⟩ : ∃ f', f = f' + 1 := ⟨f - 1, by omega⟩
  obtain ⟨seg, rest, e1, e2, e3, e4, _⟩ := step_ok (h8.drop p) hs
  have hlen : (t.drop p).length = seg.length + rest.length := by rw [e1, List.length_append]
  rw [List.length_drop] at hlen
  have erest : t.drop q = rest := by
    rw [e2, ← List.drop_drop, e1, List.drop_left]
  rw [ed, by8_cons] at hs
  refine ⟨⟨by omega, by simp; omega, ⟨by omega, by simp⟩, f', by omega, ?_⟩, by omega⟩
  rw [er, ed, by8_cons, beats_go _ _ _ _ _ (by omega) hs, e3, erest]
theorem At.last {t : List Int} {l : Pattern} (a : At t t.length l) : read (by8 t) = if l = [] then .error t.length else .ok l := by
  obtain ⟨_, _, _, f, hf, er⟩ := a
  obtain ⟨f', rfl⟩ : ∃ f', f = f' + 1 := ⟨f - 1, by omega⟩
  rw [er, List.drop_length, by8_nil, beats_nil]
  cases l with
  | nil => rfl
  | cons a b => rfl
/-! patterns that are read -/

theorem putIn_mem {n y : Nat} : ∀ {l : List Nat}, y ∈ putIn n l ↔ y = n ∨ y ∈ l
  | [] => by simp [putIn]
  | m :: r => by
    unfold putIn
    split
    · simp
    · simp only [List.mem_cons, putIn_mem (l := r)]
      constructor
      · rintro (h | h | h) <;> simp [h]
      · rintro (h | h | h) <;> simp [h]
theorem putIn_sorted {n : Nat} : ∀ {l : List Nat}, l.Pairwise (· ≥ ·) → (putIn n l).Pairwise (· ≥ ·)
  | [], _ => by simp [putIn]
  | m :: r, h => by
    obtain ⟨h1, h2⟩ := List.pairwise_cons.mp h
    unfold putIn
    split
    · rename_i hlt
      refine List.pairwise_cons.mpr ⟨fun y hy => ?_, h⟩
      rcases List.mem_cons.mp hy with rfl | hy
      · show n ≥ y; omega
      · have := h1 y hy; show n ≥ y; omega
    · refine List.pairwise_cons.mpr ⟨fun y hy => ?_, putIn_sorted h2⟩
      rcases putIn_mem.mp hy with rfl | hy
      · show m ≥ y; omega
      · exact h1 y hy
theorem putIn_perm {n : Nat} : ∀ {l : List Nat}, (putIn n l).Perm (n :: l)
  | [] => List.Perm.refl _
  | m :: r => by
    unfold putIn
    split
    · exact List.Perm.refl _
    · exact ((putIn_perm (l := r)).cons m).trans (List.Perm.swap n m r)
theorem falling_sorted : ∀ l : List Nat, (falling l).Pairwise (· ≥ ·)
  | [] => List.Pairwise.nil
  | _ :: r => putIn_sorted (falling_sorted r)
theorem falling_perm : ∀ l : List Nat, (falling l).Perm l
  | [] => List.Perm.refl _
  | n :: r => (putIn_perm (n := n)).trans ((falling_perm r).cons n)
/-- two falling lists of the same numbers are one -/
theorem falling_one {a b : List Nat} (hp : a.Perm b) (ha : a.Pairwise (· ≥ ·)) (hb : b.Pairwise (· ≥ ·)) : a = b :=
  hp.eq_of_pairwise (le := fun x y => x ≥ y) (fun _ _ _ _ h1 h2 => Nat.le_antisymm h2 h1) ha hb
theorem falling_ints {ns ms : List Int} (h0 : ∀ n ∈ ns, 0 ≤ n) (hp : ms.Perm ns) (hs : ms.Pairwise (· ≥ ·)) : ms = (falling (ns.map Int.toNat)).map Int.ofNat := by
  have back : ∀ l : List Int, (∀ n ∈ l, 0 ≤ n) → l = (l.map Int.toNat).map Int.ofNat := by
    intro l hl
    rw [List.map_map]
    induction l with
    | nil => rfl
    | cons a r ih =>
      rw [List.map_cons, ← ih (fun n hn => hl n (List.mem_cons_of_mem _ hn))]
      congr 1
      exact (Int.toNat_of_nonneg (hl a List.mem_cons_self)).symm
  have hm : ∀ n ∈ ms, 0 ≤ n := fun n hn => h0 n (hp.mem_iff.mp hn)
  have e := back ms hm
  have q : ms.map Int.toNat = falling (ns.map Int.toNat) := by
    refine falling_one ((hp.map Int.toNat).trans (falling_perm _).symm) ?_ (falling_sorted _)
    rw [List.pairwise_map]
    refine hs.imp ?_
    intro a b hab
    show b.toNat ≤ a.toNat
    have : b ≤ a := hab
    omega
  rw [← q]
  exact e
/-! a beat by its first byte -/
theorem drop_at {t : List Int} {p : Nat} {z : Int} (h : t[p]? = some z) : t.drop p = z :: t.drop (p + 1) := by
  obtain ⟨hp, e⟩ := List.getElem?_eq_some_iff.mp h
  rw [← e]
  exact List.drop_eq_getElem_cons hp
theorem step_open {t : List Int} {p : Nat} {z : Int} (h : t[p]? = some z) (hz : z = 91) : stepIn p (by8 (t.drop p)) = handIn (p + 1) (by8 (t.drop (p + 1))) [] := by
  subst hz
  rw [drop_at h, by8_cons]
  unfold stepIn
  dsimp only
  rw [if_pos (show UInt8.ofNat (Int.toNat 91) = 91 from rfl)]
theorem step_none {t : List Int} {p : Nat} {z : Int} (h : t[p]? = some z) (z0 : 0 ≤ z) (z1 : z ≤ 255) (hz : z ≠ 91) (hn : hI z < 0) : stepIn p (by8 (t.drop p)) = .error p := by
  rw [drop_at h, by8_cons]
  unfold stepIn
  dsimp only
  rw [if_neg (fun e => hz ((u8_91 z0 z1).mp e)), digitIn_none z0 z1 hn]
theorem step_dig {t : List Int} {p : Nat} {z : Int} (h : t[p]? = some z) (z0 : 0 ≤ z) (z1 : z ≤ 255) (hz : z ≠ 91) (hn : 0 ≤ hI z) : ∃ x, stepIn p (by8 (t.drop p)) = .ok (x, p + 1, by8 (t.drop (p + 1))) := by
  rw [drop_at h, by8_cons]
  unfold stepIn
  dsimp only
  rw [if_neg (fun e => hz ((u8_91 z0 z1).mp e)), digitIn_some z0 z1 hn]
  exact ⟨_, rfl⟩
theorem step_index {t : List Int} (h8 : Ok8 t) {p q : Nat} {x : Beat} {s : Bytes} (hz : t[p]? = some 91) (h : stepIn p (by8 (t.drop p)) = .ok (x, q, s)) :
    1 ≤ q ∧ p ≤ q - 1 ∧ t[q - 1]? = some 93 ∧ ∀ m z, p ≤ m → m < q - 1 → t[m]? = some z → z ≠ 93 := by
  obtain ⟨seg, rest, e1, e2, e3, e4, e5, e6, e7, e8⟩ := step_ok (h8.drop p) h
  obtain ⟨ds, es, hds⟩ := (e8 91 _ (drop_at hz)).1 rfl
  have hlen : seg.length = ds.length + 2 := by rw [es]; simp
  have at_ : ∀ k, t[p + k]? = (seg ++ rest)[k]? := fun k => by rw [← e1, List.getElem?_drop]
  refine ⟨by omega, by omega, ?_, ?_⟩
  · have e : q - 1 = p + (ds.length + 1) := by omega
    rw [e, at_, es]
    simp
  · intro m z h1 h2 hm
    obtain ⟨k, rfl⟩ : ∃ k, m = p + k := ⟨m - p, by omega⟩
    rw [at_, es] at hm
    cases k with
    | zero => simp at hm; omega
    | succ k =>
      have hk : k < ds.length := by omega
      have : (91 :: ds ++ [93] ++ rest)[k + 1]? = some ds[k] := by
        simp [List.getElem?_append, hk]
      rw [this] at hm
      exact hds z (by rw [← Option.some.inj hm]; exact List.getElem_mem hk)
theorem step_single {t : List Int} (h8 : Ok8 t) {p q : Nat} {x : Beat} {s : Bytes} {z : Int} (ez : t[p]? = some z) (hz : z ≠ 91) (h : stepIn p (by8 (t.drop p)) = .ok (x, q, s)) : q = p + 1 := by
  obtain ⟨seg, rest, e1, e2, e3, e4, e5, e6, e7, e8⟩ := step_ok (h8.drop p) h
  have := (e8 z _ (drop_at ez)).2 hz
  omega
/-! what is read is good -/
def GoodBeat (b : Beat) : Prop := b.length ≤ 3 ∧ (∀ h ∈ b, 1 ≤ h ∧ h ≤ 15) ∧ b.Pairwise (· ≥ ·)
theorem step_good {t : List Int} {p q : Nat} {x : Beat} {s : Bytes} (h8 : Ok8 t) (h : stepIn p (by8 t) = .ok (x, q, s)) : GoodBeat x := by
  obtain ⟨seg, rest, e1, e2, e3, e4, e5, e6, e7, e8⟩ := step_ok h8 h
  refine ⟨e7.1, fun n hn => ?_, by rw [e6]; exact falling_sorted _⟩
  rw [e6] at hn
  have hm := (falling_perm _).mem_iff.mp hn
  obtain ⟨z, hz, rfl⟩ := List.mem_map.mp hm
  have := e7.2 z hz
  omega
theorem beats_good : ∀ (f p : Nat) (t : List Int) (l q : Pattern), Ok8 t → beatsIn f p (by8 t) l = .ok q → (∀ b ∈ l, GoodBeat b) → l.length ≤ 16 → (∀ b ∈ q, GoodBeat b) ∧ 1 ≤ q.length ∧ q.length ≤ 16
  | 0, p, t, l, q, _, h, _, _ => by
    unfold beatsIn at h
    cases h
  | f + 1, p, [], l, q, _, h, hl, h16 => by
    rw [by8_nil, beats_nil] at h
    split at h
    · cases h
    · rename_i hne
      cases h
      refine ⟨hl, ?_, h16⟩
      cases l with
      | nil => exact absurd rfl hne
      | cons a b => simp
  | f + 1, p, z :: r, l, q, h8, h, hl, h16 => by
    by_cases h1 : l.length = 16
    · rw [by8_cons, beats_long _ _ _ _ _ (by omega)] at h
      cases h
    · cases hs : stepIn p (by8 (z :: r)) with
      | error e =>
        rw [by8_cons] at hs h
        rw [beats_err _ _ _ _ _ (by omega) hs] at h
        cases h
      | ok y =>
        obtain ⟨x, q', s⟩ := y
        have hg := step_good h8 hs
        obtain ⟨seg, rest, e1, e2, e3, e4, _⟩ := step_ok h8 hs
        rw [by8_cons] at hs h
        rw [beats_go _ _ _ _ _ (by omega) hs, e3] at h
        refine beats_good f q' rest _ q (fun y hy => h8 y (by rw [e1]; exact List.mem_append_right _ hy)) h (fun b hb => ?_) (by simp; omega)
        rcases List.mem_append.mp hb with hb | hb
        · exact hl b hb
        · rw [List.mem_singleton.mp hb]
          exact hg
theorem read_good {t : List Int} {p : Pattern} (h8 : Ok8 t) (h : Jug.read (by8 t) = .ok p) : (∀ b ∈ p, GoodBeat b) ∧ 1 ≤ p.length ∧ p.length ≤ 16 := by
  unfold Jug.read at h
  exact beats_good _ _ _ _ _ h8 h (by simp) (by simp)
/-! counting -/
def cnt (N : Nat) (ks : List Nat) : List Nat := (List.range N).map fun k => ks.count k
theorem cnt_length (N : Nat) (ks : List Nat) : (cnt N ks).length = N := by simp [cnt]
theorem cnt_at {N k : Nat} (ks : List Nat) (h : k < N) : (cnt N ks)[k]? = some (ks.count k) := by
  unfold cnt
  rw [List.getElem?_map, List.getElem?_range h]
  rfl
theorem cnt_nil (N : Nat) : cnt N [] = List.replicate N 0 := by
  unfold cnt
  apply List.ext_getElem?
  intro i
  by_cases h : i < N
  · rw [List.getElem?_map, List.getElem?_range h, List.getElem?_replicate, if_pos h]
    rfl
  · rw [List.getElem?_eq_none (by simp; omega), List.getElem?_eq_none (by simp; omega)]
theorem cnt_bump {N k : Nat} (ks : List Nat) (h : k < N) : (cnt N ks).set k (ks.count k + 1) = cnt N (ks ++ [k]) := by
  apply List.ext_getElem?
  intro i
  by_cases hi : i < N
  · rw [cnt_at _ hi, List.getElem?_set, cnt_length, List.count_append]
    by_cases e : k = i
    · subst e
      rw [if_pos rfl, if_pos h]
      simp
    · rw [if_neg e, cnt_at _ hi]
      have : List.count i [k] = 0 := by
        rw [List.count_eq_zero]
        simp
        omega
      rw [this, Nat.add_zero]
  · rw [List.getElem?_eq_none (by rw [List.length_set, cnt_length]; omega), List.getElem?_eq_none (by rw [cnt_length]; omega)]
theorem total_count {α : Type} (F : α → List Nat) (t : Nat) : ∀ L : List α, total (L.map fun x => (F x).count t) = (L.flatMap F).count t
  | [] => rfl
  | a :: r => by
    rw [List.map_cons, List.flatMap_cons, List.count_append, ← total_count F t r]
    rfl
theorem filter_count {f : Nat → Nat} {t : Nat} : ∀ b : List Nat, (b.filter fun h => f h == t).length = (b.map f).count t
  | [] => rfl
  | a :: r => by
    rw [List.filter_cons, List.map_cons, List.count_cons, ← filter_count r]
    split <;> simp
/-- where the throws of the first i beats land -/
def landKs (p : Pattern) (i : Nat) : List Nat := (List.range i).flatMap fun s => (p.getD s []).map fun h => (s + h) % p.length
theorem landKs_succ (p : Pattern) (i : Nat) : landKs p (i + 1) = landKs p i ++ (p.getD i []).map fun h => (i + h) % p.length := by
  unfold landKs
  rw [List.range_succ, List.flatMap_append]
  simp
theorem zipIdx_map {β : Type} (p : Pattern) (g : Beat × Nat → β) : p.zipIdx.map g = (List.range p.length).map fun s => g (p.getD s [], s) := by
  apply List.ext_getElem?
  intro i
  by_cases h : i < p.length
  · rw [List.getElem?_map, List.getElem?_map, List.getElem?_range h, List.getElem?_zipIdx, List.getElem?_eq_getElem h]
    simp [List.getD, h]
  · rw [List.getElem?_eq_none (by simp; omega), List.getElem?_eq_none (by simp; omega)]
theorem landing_count (p : Pattern) (t : Nat) : landing p t = (landKs p p.length).count t := by
  unfold landing landKs
  rw [zipIdx_map, ← total_count]
  congr 1
  apply List.map_congr_left
  intro s _
  exact filter_count (f := fun h => (s + h) % p.length) (p.getD s [])
/-- what is in the air, beat by beat back -/
def backIx (p : Pattern) (t d : Nat) : Nat := (t + LONG * p.length - (d + 1)) % p.length
def airKs (p : Pattern) (t i : Nat) : List Nat := (List.range i).flatMap fun d => ((p.getD (backIx p t d) []).filter fun h => decide (d + 1 ≤ h)).map fun h => h - (d + 1)

theorem airAt_cnt (p : Pattern) (t : Nat) : airAt p t = cnt 15 (airKs p t 15) := by
  unfold airAt cnt airKs
  apply List.map_congr_left
  intro k _
  rw [← total_count]
  show total ((List.range 15).map _) = _
  congr 1
  apply List.map_congr_left
  intro d _
  show ((p.getD (backIx p t d) []).filter fun h => h == k + d + 1).length = _
  generalize p.getD (backIx p t d) [] = b
  induction b with
  | nil => rfl
  | cons a r ih =>
    rw [List.filter_cons, List.filter_cons]
    by_cases h1 : d + 1 ≤ a
    · rw [if_pos (show decide (d + 1 ≤ a) = true from decide_eq_true h1), List.map_cons, List.count_cons, ← ih]
      by_cases h2 : a = k + d + 1
      · rw [if_pos (by simpa using h2), if_pos (by simp; omega)]
        rfl
      · rw [if_neg (by simpa using h2), if_neg (by simp; omega)]
        rfl
    · rw [if_neg (by simp; omega), if_neg (by simpa using h1), ih]

theorem backIx_lt {p : Pattern} (hp : 1 ≤ p.length) (t d : Nat) : backIx p t d < p.length := Nat.mod_lt _ hp
/-! refusals -/
def refusal (t : List Int) : List Int := match Jug.read (by8 t) with
  | .error e => [-6, (e : Int)]
  | .ok p => match clash p with
    | some k => [-5, (k : Int)]
    | none => []
theorem of_refused {t : List Int} {f : Pattern → Answer} (h : refusal t ≠ []) : Jug.of (by8 t) f = refusal t := by
  unfold Jug.of refusal at *
  cases e : Jug.read (by8 t) with
  | error e => rfl
  | ok p =>
    rw [e] at h
    dsimp only at h ⊢
    cases e2 : clash p with
    | some k => rfl
    | none => rw [e2] at h; exact absurd rfl h
theorem of_right {t : List Int} {f : Pattern → Answer} (h : refusal t = []) : ∃ p, Jug.read (by8 t) = .ok p ∧ clash p = none ∧ Jug.of (by8 t) f = f p := by
  unfold Jug.of refusal at *
  cases e : Jug.read (by8 t) with
  | error e' => rw [e] at h; cases h
  | ok p =>
    rw [e] at h
    dsimp only at h ⊢
    cases e2 : clash p with
    | some k => rw [e2] at h; cases h
    | none => exact ⟨p, rfl, e2, rfl⟩
end Jm

set_option Elab.async false
set_option linter.all false
set_option maxRecDepth 100000
set_option maxHeartbeats 2000000
namespace L2
open PySem PySem.Spec PyProof.Rows
/-! words for defs and globals -/
def IntG (mg : Str → Option Value) (x : Str) (i : Int) : Prop := ∃ t, mg x = some (.int i t)
/-- a def of the text, as a caller sees it -/
structure Def (P : Program) (w : World) (K : PySem.W.Frag) (mg : Str → Option Value) (base : Heap) (x : Str) (ps : List Str) (k : Nat) (sp : Sp) : Prop where
  ex : ∃ (f : Addr) (fd : FuncData), FnOk P w K mg base CX0 k f fd ps sp ∧ mg x = some (.ref f) ∧ PySem.W.keepIn K (.ref f) = true ∧ Binds K fd ps []
section
variable {X : Cx}
theorem pgl {x : Str} {i : Int} {pos : Pos} (h : IntG X.mg x i) (hg : Gl X x := by rfl) (hd : (x == ("__debug__" : Str)) = false := by decide) : PE X (.Name x pos) (tC (.int i)) := by
  obtain ⟨t, e⟩ := h
  exact pe_glob hg e ⟨t, rfl⟩ hd
theorem pcall {x : Str} {ps : List Str} {k : Nat} {sp : Sp} {e : Expr} {es : List Expr} {t : TA} {p pos : Pos} (D : Def X.prog X.w X.K X.mg X.base x ps k sp) (hr : Room k X.A) (ha : PA X (e :: es) t)
    (hg : Gl X x := by rfl) (hdb : (x == ("__debug__" : Str)) = false := by decide) (he : starEach (e :: es) X.env = (false, eval e X.env) :: starEach es X.env := by rfl)
    (hpl : (backTo pos (starEach es X.env)).any (·.1) = false := by rfl) (hx : Passes CX0 X E0 := by exact pass0) :
    PE X (.Call (.Name x p) (e :: es) [] pos) (tCall sp [] E0 t) := by
  obtain ⟨f, fd, G, hm, hk, hb⟩ := D.ex
  exact pe_call G hr hg hm hk hb .nil hx ha hdb he hpl
end
theorem Same.new {H H1 : Hp} (s : Same H H1) {p : Addr} {o : HO} (hp : H1 p = none) : Same H (upd H1 p o) := fun b u e => by
  have e1 := s b u e
  rw [upd_ne (ne_of_none e1 hp)]
  exact e1
/-- a write to what was not there at the start -/
theorem Same.own {H H1 : Hp} (s : Same H H1) {p : Addr} {o : HO} (hp : H p = none) : Same H (upd H1 p o) := fun b u e => by
  rw [upd_ne (ne_of_none e hp)]
  exact s b u e
/-! patterns in the heap -/
def natsV (l : List Nat) : List V := l.map fun (n : Nat) => V.int (n : Int)
theorem natsV_int (l : List Nat) : natsV l = (l.map Int.ofNat).map V.int := by
  unfold natsV
  rw [List.map_map]
  rfl
def BeatAt (H : Hp) (v : V) (b : List Nat) : Prop := ∃ x, v = .ref x ∧ H x = some (.lst (natsV b))
def PatAt (H : Hp) (v : V) (p : List (List Nat)) : Prop := ∃ x vs, v = .ref x ∧ H x = some (.lst vs) ∧ Paired (BeatAt H) vs p
theorem BeatAt.same {H H' : Hp} (s : Same H H') {v : V} {b : List Nat} (h : BeatAt H v b) : BeatAt H' v b := by
  obtain ⟨x, e, h⟩ := h
  exact ⟨x, e, s _ _ h⟩
theorem BeatAt.upd {H : Hp} {v : V} {b : List Nat} {D : Addr} {o : HO} (h : BeatAt H v b) (hn : v ≠ .ref D) : BeatAt (upd H D o) v b := by
  obtain ⟨x, rfl, h⟩ := h
  exact ⟨x, rfl, by rw [upd_ne (fun e => hn (by rw [e]))]; exact h⟩
theorem PatAt.same {H H' : Hp} (s : Same H H') {v : V} {p : List (List Nat)} (h : PatAt H v p) : PatAt H' v p := by
  obtain ⟨x, vs, e, h1, h2⟩ := h
  exact ⟨x, vs, e, s _ _ h1, Paired.imp' (fun _ _ q => q.same s) h2⟩
theorem Paired.getL {α β : Type} {F : α → β → Prop} : ∀ {l : List α} {m : List β} {i : Nat} {a : α}, Paired F l m → l[i]? = some a → ∃ b, m[i]? = some b ∧ F a b
  | _, _, _, _, .nil, e => by simp at e
  | _, _, 0, _, .cons r _, e => by simp at e; subst e; exact ⟨_, rfl, r⟩
  | _, _, i + 1, a, .cons _ t, e => by
    obtain ⟨u, h1, h2⟩ := Paired.getL (i := i) (a := a) t (by simpa using e)
    exact ⟨u, by simpa using h1, h2⟩
theorem Paired.getR {α β : Type} {F : α → β → Prop} : ∀ {l : List α} {m : List β} {i : Nat} {b : β}, Paired F l m → m[i]? = some b → ∃ a, l[i]? = some a ∧ F a b
  | _, _, _, _, .nil, e => by simp at e
  | _, _, 0, _, .cons r _, e => by simp at e; subst e; exact ⟨_, rfl, r⟩
  | _, _, i + 1, a, .cons _ t, e => by
    obtain ⟨u, h1, h2⟩ := Paired.getR (i := i) (b := a) t (by simpa using e)
    exact ⟨u, by simpa using h1, h2⟩
theorem take_snoc {α : Type} : ∀ {l : List α} {i : Nat} {x : α}, l[i]? = some x → l.take (i + 1) = l.take i ++ [x]
  | [], i, x, h => by simp at h
  | a :: l, 0, x, h => by
    have e : a = x := Option.some.inj h
    subst e
    rfl
  | a :: l, i + 1, x, h => by
    have ih := take_snoc (l := l) (i := i) (x := x) h
    show a :: l.take (i + 1) = a :: l.take i ++ [x]
    rw [ih]
    rfl
theorem map_get {α β : Type} {f : α → β} {l : List α} {i : Nat} {y : β} (h : (l.map f)[i]? = some y) : ∃ x, l[i]? = some x ∧ y = f x := by
  rw [List.getElem?_map] at h
  cases e : l[i]? with
  | none => rw [e] at h; cases h
  | some z => rw [e] at h; exact ⟨z, rfl, (Option.some.inj h).symm⟩
/-! comprehensions: [f(x) for x in xs], [x for x in xs if p(x)] -/
theorem lc_mapL {K : PySem.W.Frag} {a : Addr} {xs : List V} {j : Nat} {te : TE} {vs : List Nat} {σ : St} {H1 : Hp} {D : Addr} {Qd : Hp → Prop} (f : V → V) (hS : SqL K H1 a xs) (hD : H1 D = none) (hlen : xs.length ≤ sizeLine)
    (hw : ∀ x, wipe ((wipe σ vs).set j (some x)) vs = wipe σ vs)
    (he : ∀ (i : Nat) (x : V) (H' : Hp) (Qk : VK), xs[i]? = some x → Same H1 H' → (∀ H4, Same H' H4 → Qk (f x) H4) → te ((wipe σ vs).set j (some x)) H' Qk)
    (hd : ∀ H', Same H1 H' → H' D = some (.lst (xs.map f)) → Qd H') :
    ∃ W : Nat → Nat → Hp → Prop, (∃ m, W 0 m (upd H1 D (.lst []))) ∧ ∀ i m H, W i m H →
      ((Itl K a).stop i H ∧ Qd H) ∨ ((Itl K a).go i H ∧ ∃ Nx : Hp → Prop, (∀ H', Nx H' → ∃ m', m' < m ∧ W (i + 1) m' H') ∧ ∀ x H', (Itl K a).yld i H x H' → gName j x (wipe σ vs) H' fun σ2 H2 => wipe σ2 vs = wipe σ vs ∧ tYes σ2 H2 fun b H3 =>
        if b = true then te σ2 H3 fun y H4 => ∃ acc, H4 D = some (.lst acc) ∧ acc.length < sizeLine ∧ Nx (upd H4 D (.lst (acc ++ [y]))) else Nx H3) := by
  refine lc_list (xs := xs) (fun i H' => Same H1 H' ∧ H' D = some (.lst ((xs.take i).map f))) ⟨(Same.refl H1).new hD, upd_same⟩ (fun i H' _ ⟨s, _⟩ => s.seq hS) ?_ ?_
  · rintro i x H' hi ⟨s, hDv⟩
    refine ⟨hw x, ?_⟩
    unfold tYes
    dsimp only
    rw [if_pos rfl]
    refine he i x H' _ hi s fun H4 s4 => ⟨_, s4 _ _ hDv, ?_, (s.trans s4).own hD, ?_⟩
    · rw [List.length_map, List.length_take]
      have := (List.getElem?_eq_some_iff.mp hi).1
      omega
    · rw [upd_same, take_snoc hi, List.map_append]
      rfl
  · rintro H' ⟨s, hDv⟩
    rw [List.take_length] at hDv
    exact hd H' s hDv
theorem lc_filterL {K : PySem.W.Frag} {a : Addr} {xs : List V} {j : Nat} {tt : TT} {vs : List Nat} {σ : St} {H1 : Hp} {D : Addr} {Qd : Hp → Prop} (p : V → Bool) (hS : SqL K H1 a xs) (hD : H1 D = none) (hlen : xs.length ≤ sizeLine) (hj : j < σ.length)
    (hw : ∀ x, wipe ((wipe σ vs).set j (some x)) vs = wipe σ vs)
    (he : ∀ (i : Nat) (x : V) (H' : Hp) (Qk : Bool → Hp → Prop), xs[i]? = some x → Same H1 H' → Qk (p x) H' → tt ((wipe σ vs).set j (some x)) H' Qk)
    (hd : ∀ H', Same H1 H' → H' D = some (.lst (xs.filter p)) → Qd H') :
    ∃ W : Nat → Nat → Hp → Prop, (∃ m, W 0 m (upd H1 D (.lst []))) ∧ ∀ i m H, W i m H →
      ((Itl K a).stop i H ∧ Qd H) ∨ ((Itl K a).go i H ∧ ∃ Nx : Hp → Prop, (∀ H', Nx H' → ∃ m', m' < m ∧ W (i + 1) m' H') ∧ ∀ x H', (Itl K a).yld i H x H' → gName j x (wipe σ vs) H' fun σ2 H2 => wipe σ2 vs = wipe σ vs ∧ tt σ2 H2 fun b H3 =>
        if b = true then tVar j σ2 H3 fun y H4 => ∃ acc, H4 D = some (.lst acc) ∧ acc.length < sizeLine ∧ Nx (upd H4 D (.lst (acc ++ [y]))) else Nx H3) := by
  refine lc_list (xs := xs) (fun i H' => Same H1 H' ∧ H' D = some (.lst ((xs.take i).filter p))) ⟨(Same.refl H1).new hD, upd_same⟩ (fun i H' _ ⟨s, _⟩ => s.seq hS) ?_ ?_
  · rintro i x H' hi ⟨s, hDv⟩
    refine ⟨hw x, he i x H' _ hi s ?_⟩
    have hil := (List.getElem?_eq_some_iff.mp hi).1
    have e1 := take_snoc hi
    cases hp : p x with
    | true =>
      refine iteT ⟨x, ?_, _, hDv, ?_, s.own hD, ?_⟩
      · rw [List.getElem?_set_self (by rw [wipe_length]; exact hj)]
      · have := List.length_filter_le p (xs.take i)
        rw [List.length_take] at this
        omega
      · rw [upd_same, e1, List.filter_append, List.filter_cons, if_pos hp]
        rfl
    | false =>
      refine iteF ⟨s, ?_⟩
      rw [e1, List.filter_append, List.filter_cons, if_neg (by rw [hp]; exact Bool.false_ne_true), List.filter_nil, List.append_nil]
      exact hDv
  · rintro H' ⟨s, hDv⟩
    rw [List.take_length] at hDv
    exact hd H' s hDv
theorem cutV_seg {α : Type} {f : α → V} {t seg rest : List α} {p q : Nat} (hp : p ≤ t.length) (e : t.drop p = seg ++ rest) (hq : q = p + seg.length) : cutV (t.map f) (some (p : Int)) (some (q : Int)) = seg.map f := by
  have hl : (t.drop p).length = seg.length + rest.length := by rw [e, List.length_append]
  rw [List.length_drop] at hl
  unfold cutV
  rw [HT.sIx_nat, HT.sIx_nat, List.length_map, Nat.min_eq_left hp, Nat.min_eq_left (by omega), ← List.map_drop, ← List.map_take, e, hq, Nat.add_sub_cancel_left, List.take_left]
def hV : V → V
  | .int z => .int (Jm.hI z)
  | v => v
def posV : V → Bool
  | .int z => decide (0 < z)
  | _ => false
theorem filter_pos (l : List Int) : (l.map V.int).filter posV = (l.filter fun z => decide (0 < z)).map V.int := by
  rw [List.filter_map]
  rfl
/-! lists of ints in the heap -/
def IntsAt (H : Hp) (v : V) (l : List Int) : Prop := ∃ x, v = .ref x ∧ H x = some (.lst (l.map V.int))

theorem natsV_length (l : List Nat) : (natsV l).length = l.length := by simp [natsV]
theorem natsV_at {l : List Nat} {i n : Nat} (h : l[i]? = some n) : (natsV l)[i]? = some (V.int (n : Int)) := by
  unfold natsV
  rw [List.getElem?_map, h]
  rfl
theorem natsV_set (l : List Nat) (i n : Nat) : (natsV l).set i (V.int (n : Int)) = natsV (l.set i n) := by
  unfold natsV
  rw [List.map_set]
theorem natsV_get {l : List Nat} {i : Nat} {v : V} (h : (natsV l)[i]? = some v) : ∃ n, l[i]? = some n ∧ v = V.int (n : Int) := map_get h
theorem ixN_nat {n j : Nat} (h : j < n) : ixN n (j : Int) = some j := by
  unfold ixN
  rw [if_pos (by omega), if_pos (by omega)]
  rfl
/-- x[j] += 1 of a count -/
theorem bump_ok {N k : Nat} {ks : List Nat} (h : k < N) : (natsV (Jm.cnt N ks)).set k (V.int (((ks.count k : Nat) : Int) + 1)) = natsV (Jm.cnt N (ks ++ [k])) := by
  have e : ((ks.count k : Nat) : Int) + 1 = ((ks.count k + 1 : Nat) : Int) := by omega
  rw [e, natsV_set, Jm.cnt_bump ks h]
theorem rep_zero (n : Nat) : (List.replicate n [V.int 0]).flatten = natsV (Jm.cnt n []) := by
  rw [Jm.cnt_nil]
  unfold natsV
  induction n with
  | zero => rfl
  | succ n ih => rw [List.replicate_succ, List.flatten_cons, ih, List.replicate_succ, List.map_cons]; rfl
theorem PatAt.at {H : Hp} {x : Addr} {vs : List V} {p : List (List Nat)} (h : Paired (BeatAt H) vs p) {i : Nat} (hi : i < p.length) : ∃ y b, vs[i]? = some (.ref y) ∧ p[i]? = some b ∧ p.getD i [] = b ∧ H y = some (.lst (natsV b)) := by
  obtain ⟨v, e1, y, rfl, e2⟩ := Paired.getR h (List.getElem?_eq_getElem hi)
  exact ⟨y, p[i], e1, List.getElem?_eq_getElem hi, by simp [List.getD, hi], e2⟩
end L2

/-! The root of a pattern: told over and over, or turned into itself. -/
namespace Jm
open Jug

/-! heights, balls -/
theorem total_sum (l : List Nat) : total l = l.sum := by
  induction l with
  | nil => rfl
  | cons a r ih => rw [List.sum_cons, ← ih]; rfl
theorem heights_flat (p : Pattern) : heights p = p.flatten.sum := by
  unfold heights
  induction p with
  | nil => rfl
  | cons b r ih =>
    rw [List.map_cons, List.flatten_cons, List.sum_append, ← ih, ← total_sum]
    rfl
theorem sum_cast (l : List Nat) : (l.map Int.ofNat).sum = ((l.sum : Nat) : Int) := by
  induction l with
  | nil => rfl
  | cons a r ih =>
    rw [List.map_cons, List.sum_cons, List.sum_cons, ih]
    rfl
theorem foldl_max_ge : ∀ (l : List Nat) (a : Nat), a ≤ l.foldl max a ∧ ∀ x ∈ l, x ≤ l.foldl max a
  | [], a => ⟨Nat.le_refl _, by simp⟩
  | b :: r, a => by
    obtain ⟨h1, h2⟩ := foldl_max_ge r (max a b)
    refine ⟨?_, fun x hx => ?_⟩
    · show a ≤ r.foldl max (max a b)
      have := Nat.le_max_left a b
      omega
    · rcases List.mem_cons.mp hx with rfl | hx
      · show x ≤ r.foldl max (max a x)
        have := Nat.le_max_right a x
        omega
      · exact h2 x hx
theorem foldl_max_mem : ∀ (l : List Nat) (a : Nat), l.foldl max a = a ∨ l.foldl max a ∈ l
  | [], a => .inl rfl
  | b :: r, a => by
    rcases foldl_max_mem r (max a b) with h | h
    · rcases Nat.le_total a b with q | q
      · rw [Nat.max_eq_right q] at h
        refine .inr ?_
        show r.foldl max (max a b) ∈ _
        rw [Nat.max_eq_right q, h]
        exact List.mem_cons_self
      · rw [Nat.max_eq_left q] at h
        refine .inl ?_
        show r.foldl max (max a b) = _
        rw [Nat.max_eq_left q]
        exact h
    · exact .inr (List.mem_cons_of_mem _ h)
/-- a greatest member is the fold's -/
theorem foldl_max_eq {l : List Nat} {m : Nat} (hm : m ∈ l) (hge : ∀ x ∈ l, x ≤ m) : l.foldl max 0 = m := by
  obtain ⟨_, h2⟩ := foldl_max_ge l 0
  have h3 := h2 m hm
  rcases foldl_max_mem l 0 with h | h
  · omega
  · have := hge _ h
    omega
end Jm

set_option Elab.async false
set_option linter.all false
set_option maxRecDepth 100000
set_option maxHeartbeats 2000000
namespace L2
open PySem PySem.Spec PyProof.Rows
/-! patterns as data: == of two -/

/-! parts of patterns -/

theorem cut_take {xs : List V} {k : Nat} (hk : k ≤ xs.length) : cutV xs none (some (k : Int)) = xs.take k := by
  unfold cutV
  rw [HT.sIx_none, HT.sIx_nat, Nat.min_eq_left hk, List.drop_zero, Nat.sub_zero]

/-! rules within a comprehension's block: the written part by its name -/
section
variable {X : Cx} {K : PySem.W.Frag}
def rLenK (K : PySem.W.Frag) : List V → Hp → VK → Prop := fun xs H Q => ∃ p ys, xs = [.ref p] ∧ (SqL K H p ys ∨ SqT K H p ys) ∧ Q (.int ys.length) H
theorem call_lenK (hK : X.K = K) : CallR X (.builtin "len") (rLenK K) := by
  subst hK
  exact call_len_seq

theorem cr_sumK (hc : X.calm = true) (hK : X.K = K) : CallR X (.builtin "sum") (rSum K) := by
  subst hK
  exact cr_sum hc
end
def lenV (H : Hp) : V → V
  | .ref z => (match H z with | some (.lst xs) => .int (xs.length : Nat) | _ => .ref z)
  | v => v
theorem lens_of {H : Hp} : ∀ {vs : List V} {p : List (List Nat)}, Paired (BeatAt H) vs p → vs.map (lenV H) = (p.map fun b => (b.length : Int)).map V.int
  | _, _, .nil => rfl
  | _, _, .cons h t => by
    obtain ⟨z, rfl, e⟩ := h
    rw [List.map_cons, List.map_cons, List.map_cons, lens_of t]
    unfold lenV
    dsimp only
    rw [e]
    dsimp only
    rw [natsV_length]

theorem natsV_append (a b : List Nat) : natsV (a ++ b) = natsV a ++ natsV b := by
  unfold natsV
  rw [List.map_append]

end L2

set_option Elab.async false
set_option linter.all false
set_option maxRecDepth 100000
set_option maxHeartbeats 4000000
namespace JX
open PySem PySem.Spec PyProof.Rows
/-! max of a list, whatever its items: the comparison may read the heap; with or without a default -/

section
variable {prog : Program} {w : World} {A : Around}

end
end JX
namespace L2
open PySem PySem.Spec PyProof.Rows
section
variable {X : Cx}

end
end L2

/-! States: what is in the air, a beat from a state. -/
namespace Jm
open Jug

/-! a beat from a state -/

end Jm

set_option Elab.async false
set_option linter.all false
set_option maxRecDepth 100000
set_option maxHeartbeats 4000000
namespace JX
open PySem PySem.Spec PyProof.Rows
open PySem.AutoSeq1 (wpAny_loadPart')

end JX
namespace L2
open PySem PySem.Spec PyProof.Rows
section
variable {X : Cx}

end
end L2

set_option Elab.async false
set_option linter.all false
set_option maxRecDepth 100000
set_option maxHeartbeats 4000000
namespace JX
open PySem PySem.Spec PyProof.Rows
open PySem.SeqAt (EqAt)
open PySem.AutoSeq1 (wpAny_loadPart')
/-! a > b of lists, item by item -/

end JX
namespace L2
open PySem PySem.Spec PyProof.Rows

section
variable {X : Cx}

end
end L2

/-! Texts told; the form. -/
namespace Jm
open Jug

/-! the greatest turn -/

end Jm

set_option Elab.async false
set_option linter.all false
set_option maxRecDepth 100000
set_option maxHeartbeats 4000000
namespace L2
open PySem PySem.Spec PyProof.Rows
section
variable {X : Cx}
/-- {k: v}, k a tuple -/
def tDispT (tk tv : TE) : TE := fun σ H Q => ∀ p, H p = none → tk σ (upd H p (.dT [])) fun x H1 => tv σ H1 fun y H2 => H2 p = some (.dT []) ∧ ∃ b k, x = .ref b ∧ H2 b = some (.tup (k.map kV)) ∧ Q (.ref p) (upd H2 p (.dT [(k, y)]))
theorem pe_dispT {k v : Expr} {tk tv : TE} {pos : Pos} (hu : X.A.units + 1 < cLine) (hk : PE X k tk) (hv : PE X v tv) : PE X (.Dict [some k] [v] pos) (tDispT tk tv) := by
  intro pins s σ H Q I q
  have hn := I.hok.fresh (Nat.le_refl s.heap.objs.size)
  have I1 := I.laid (a := s.heap.objs.size) (o := .dT []) (h' := s.heap.push { cls := .type "dict", data := .dict #[] }) (t' := s.toks) (fun _ _ q => Heap.get?_push_of_some _ q) (Nat.le_refl _) (dt_empty s.heap I.big)
  refine wpAny_Dict_any rfl rfl (by simp) (by show 1 ≤ 15; decide) (pairTrees_cons_walk (thn (hk pins _ σ _ _ I1 (q _ hn)) fun u s1 ⟨x, H1, I2, rx, q1⟩ => thn (hv pins s1 σ H1 _ I2 q1) fun w2 s2 ⟨y, H2, I3, ry, e, b, ks, ex, eb, q2⟩ => pairTrees_nil_walk ?_))
  subst ex
  obtain rfl : u = Value.ref b := rx
  obtain ⟨z, hd, xs, rel, dd⟩ := dt_of I3.hok e
  have hx : xs = [] := by cases rel; rfl
  subst hx
  show wpAny _ _ (storeAll s.heap.objs.size [(Value.ref b, w2)]) _ _ s2
  unfold storeAll
  rw [List.forIn_cons]
  refine wpAny_bind (wpAny_bind (wpAny_dictSet_heap (hsz := by simp) (Nat.lt_of_succ_lt hu) (key_of I3.hok eb) dd fun h' dd' hs => wpAny_pure ?_))
  dsimp only
  rw [List.forIn_nil]
  refine wpAny_pure ?_
  obtain ⟨q0, es, ep, hq, h2, h3, h4, _, h5⟩ := dd'
  refine ⟨.ref s.heap.objs.size, _, d_write (ob := .dT [(ks, y)]) I3 (by rw [e]; exact True.intro) hs ⟨q0, hq⟩ ⟨by show 1 ≤ sizeLine; decide, hd, _, ((KT.put (H := H2) (kvs := []) (xs := []) .nil ks eb ry).keeps fun c ys ec => ?_), q0, es, ep, hq, h2, h3, h4, h5⟩, rfl, q2⟩
  rw [upd_ne (ne_of ec e (fun z => nomatch z))]
  exact ec
end
end L2

/-! Ways: rows of throws, layers of states. -/
namespace Jm
open Jug
/-! rows of throws, grown at their ends -/

/-! one layer -/

/-! what stays true -/

/-! a beat's step keeps the rows in order -/

/-! the search -/

end Jm

set_option Elab.async false
set_option linter.all false
set_option maxRecDepth 100000
set_option maxHeartbeats 2000000
namespace L2
open PySem PySem.Spec PyProof.Rows
/-! heaps where only dicts by tuples have changed -/

/-! states as keys -/

/-! a heap without one thing -/

/-! lists of ints as data -/

end L2

/-! What a way may be asked of. -/
namespace Jm
open Jug

end Jm

/-! As many balls are in the air as the heights say. -/
namespace Jm
open Jug
def sm {α : Type} (l : List α) (f : α → Nat) : Nat := (l.map f).sum
theorem sm_nil {α : Type} (f : α → Nat) : sm [] f = 0 := rfl
theorem sm_cons {α : Type} (a : α) (l : List α) (f : α → Nat) : sm (a :: l) f = f a + sm l f := by
  unfold sm
  rw [List.map_cons, List.sum_cons]
theorem sm_append {α : Type} (l m : List α) (f : α → Nat) : sm (l ++ m) f = sm l f + sm m f := by
  unfold sm
  rw [List.map_append, List.sum_append]
theorem sm_congr {α : Type} {l : List α} {f g : α → Nat} (h : ∀ a ∈ l, f a = g a) : sm l f = sm l g := by
  unfold sm
  rw [List.map_congr_left h]
theorem sm_zero {α : Type} : ∀ l : List α, sm l (fun _ => 0) = 0
  | [] => rfl
  | a :: r => by rw [sm_cons, sm_zero r]
theorem sm_one {α : Type} : ∀ l : List α, sm l (fun _ => 1) = l.length
  | [] => rfl
  | a :: r => by rw [sm_cons, sm_one r, List.length_cons]; omega
theorem sm_add {α : Type} (f g : α → Nat) : ∀ l : List α, sm l (fun a => f a + g a) = sm l f + sm l g
  | [] => rfl
  | a :: r => by
    rw [sm_cons, sm_cons, sm_cons, sm_add f g r]
    omega
theorem sm_mul {α : Type} (c : Nat) (f : α → Nat) : ∀ l : List α, sm l (fun a => c * f a) = c * sm l f
  | [] => rfl
  | a :: r => by
    rw [sm_cons, sm_cons, sm_mul c f r, Nat.mul_add]
theorem sm_swap {α β : Type} (f : α → β → Nat) (m : List β) : ∀ l : List α, sm l (fun a => sm m (f a)) = sm m fun b => sm l fun a => f a b
  | [] => by
    show 0 = sm m fun _ => 0
    rw [sm_zero]
  | a :: r => by
    rw [sm_cons, sm_swap f m r, ← sm_add]
    exact sm_congr fun b _ => (sm_cons a r fun a => f a b).symm
theorem sm_flat {α β : Type} (F : α → List β) (f : β → Nat) : ∀ l : List α, sm (l.flatMap F) f = sm l fun a => sm (F a) f
  | [] => rfl
  | a :: r => by rw [List.flatMap_cons, sm_append, sm_cons, sm_flat F f r]
theorem sm_map {α β : Type} (g : α → β) (f : β → Nat) (l : List α) : sm (l.map g) f = sm l fun a => f (g a) := by
  unfold sm
  rw [List.map_map]
  rfl
theorem sm_filter {α : Type} (p : α → Bool) (f : α → Nat) : ∀ l : List α, sm (l.filter p) f = sm l fun a => if p a = true then f a else 0
  | [] => rfl
  | a :: r => by
    rw [List.filter_cons, sm_cons, ← sm_filter p f r]
    by_cases h : p a = true
    · rw [if_pos h, if_pos h, sm_cons]
    · rw [if_neg h, if_neg h, Nat.zero_add]
theorem sm_range_succ (n : Nat) (f : Nat → Nat) : sm (List.range (n + 1)) f = sm (List.range n) f + f n := by
  rw [List.range_succ, sm_append, sm_cons, sm_nil, Nat.add_zero]
/-- one of a range -/
theorem sm_pick (c : Nat → Nat) : ∀ (n x : Nat), x < n → sm (List.range n) (fun k => if x = k then c k else 0) = c x
  | 0, x, h => absurd h (by omega)
  | n + 1, x, h => by
    rw [sm_range_succ]
    by_cases e : x = n
    · subst e
      rw [if_pos rfl]
      have : sm (List.range x) (fun k => if x = k then c k else 0) = 0 := by
        refine (sm_congr (g := fun _ => 0) fun k hk => ?_).trans (sm_zero _)
        have := List.mem_range.mp hk
        rw [if_neg (by omega)]
      omega
    · rw [if_neg e, sm_pick c n x (by omega)]
      omega
theorem count_sm (k : Nat) : ∀ ks : List Nat, ks.count k = sm ks fun x => if x = k then 1 else 0
  | [] => rfl
  | a :: r => by
    rw [List.count_cons, sm_cons, count_sm k r]
    by_cases h : a = k
    · rw [if_pos h, if_pos (by simpa using h)]
      omega
    · rw [if_neg h, if_neg (by simpa using h)]
      omega
theorem cnt_total {N : Nat} {ks : List Nat} (h : ∀ k ∈ ks, k < N) : (cnt N ks).sum = ks.length := by
  show sm (List.range N) (fun k => ks.count k) = _
  rw [sm_congr fun k _ => count_sm k ks, sm_swap, ← sm_one ks]
  exact sm_congr fun x hx => sm_pick (fun _ => 1) N x (h x hx)
/-- how often a walk from j comes by the period's begin in h beats -/
theorem comes (n j : Nat) (hn : 0 < n) (hj : j < n) : ∀ h, sm (List.range h) (fun a => if (j + (a + 1)) % n = 0 then 1 else 0) = (j + h) / n
  | 0 => by
    rw [Nat.add_zero, Nat.div_eq_of_lt hj]
    rfl
  | h + 1 => by
    rw [sm_range_succ, comes n j hn hj h]
    have e : j + (h + 1) = (j + h) + 1 := by omega
    rw [e, Nat.succ_div]
    by_cases hd : n ∣ j + h + 1
    · rw [if_pos hd, if_pos (Nat.mod_eq_zero_of_dvd hd)]
    · rw [if_neg hd, if_neg (fun z => hd (Nat.dvd_of_mod_eq_zero z))]
theorem back_iff {p : Pattern} (hn : 0 < p.length) {d j : Nat} (hd : d < 15) (hj : j < p.length) : backIx p 0 d = j ↔ (j + (d + 1)) % p.length = 0 := by
  unfold backIx
  show (0 + 16 * p.length - (d + 1)) % p.length = j ↔ _
  have h16 : d + 1 ≤ 16 * p.length := by omega
  constructor
  · intro h
    have h1 := Nat.div_add_mod (0 + 16 * p.length - (d + 1)) p.length
    rw [h] at h1
    have h2 : j + (d + 1) = p.length * (16 - (0 + 16 * p.length - (d + 1)) / p.length) := by
      have hle : (0 + 16 * p.length - (d + 1)) / p.length ≤ 16 := by
        rw [Nat.div_le_iff_le_mul_add_pred hn]
        omega
      rw [Nat.mul_sub]
      omega
    rw [h2, Nat.mul_mod_right]
  · intro h
    obtain ⟨c, hc⟩ := Nat.dvd_of_mod_eq_zero h
    have hc16 : c ≤ 16 := by
      rcases Nat.lt_or_ge 16 c with q | q
      · have : p.length * 17 ≤ p.length * c := Nat.mul_le_mul_left _ q
        omega
      · exact q
    have e : 0 + 16 * p.length - (d + 1) = j + p.length * (16 - c) := by
      rw [Nat.mul_sub]
      have : p.length * c ≤ p.length * 16 := Nat.mul_le_mul_left _ hc16
      omega
    rw [e, Nat.add_mul_mod_self_left, Nat.mod_eq_of_lt hj]
theorem range_cut (f : Nat → Nat) : ∀ (n h : Nat), h ≤ n → sm (List.range n) (fun d => if d + 1 ≤ h then f d else 0) = sm (List.range h) f
  | 0, h, hh => by
    have : h = 0 := by omega
    subst this
    rfl
  | n + 1, h, hh => by
    rw [sm_range_succ]
    by_cases e : h = n + 1
    · subst e
      rw [if_pos (by omega), sm_range_succ]
      congr 1
      exact sm_congr fun d hd => by
        have := List.mem_range.mp hd
        rw [if_pos (by omega)]
    · rw [if_neg (by omega), range_cut f n h (by omega)]
      omega
/-- what is in the air, throw by throw -/
theorem air_sum {p : Pattern} (hn : 0 < p.length) (hp : ∀ b ∈ p, ∀ h ∈ b, 1 ≤ h ∧ h ≤ 15) :
    (airAt p 0).sum = sm (List.range p.length) fun j => sm (p.getD j []) fun h => (j + h) / p.length := by
  have hgd : ∀ j, ∀ h ∈ p.getD j [], 1 ≤ h ∧ h ≤ 15 := fun j h hh => by
    by_cases hj : j < p.length
    · have e : p.getD j [] = p[j] := by simp [List.getD, hj]
      rw [e] at hh
      exact hp _ (List.getElem_mem hj) h hh
    · have e : p.getD j [] = [] := by simp [List.getD, hj]
      rw [e] at hh
      cases hh
  have hk : ∀ k ∈ airKs p 0 15, k < 15 := fun k hk => by
    unfold airKs at hk
    obtain ⟨d, hd, hk⟩ := List.mem_flatMap.mp hk
    obtain ⟨h, hh, rfl⟩ := List.mem_map.mp hk
    have := hgd _ h (List.mem_filter.mp hh).1
    omega
  rw [airAt_cnt, cnt_total hk, ← sm_one]
  unfold airKs
  rw [sm_flat]
  have step : ∀ d ∈ List.range 15, sm (((p.getD (backIx p 0 d) []).filter fun h => decide (d + 1 ≤ h)).map fun h => h - (d + 1)) (fun _ => 1) =
      sm (List.range p.length) fun j => sm (p.getD j []) fun h => if d + 1 ≤ h then (if (j + (d + 1)) % p.length = 0 then 1 else 0) else 0 := fun d hd => by
    have hd := List.mem_range.mp hd
    rw [sm_map, sm_filter]
    have h1 := sm_pick (fun j => sm (p.getD j []) fun h => if decide (d + 1 ≤ h) = true then 1 else 0) p.length (backIx p 0 d) (backIx_lt hn 0 d)
    rw [← h1]
    refine sm_congr fun j hj => ?_
    have hj := List.mem_range.mp hj
    have hb := back_iff (p := p) hn hd hj
    by_cases e : backIx p 0 d = j
    · rw [if_pos e]
      refine sm_congr fun h _ => ?_
      rw [if_pos (hb.mp e)]
      by_cases q : d + 1 ≤ h
      · rw [if_pos (decide_eq_true q), if_pos q]
      · rw [if_neg (by simpa using q), if_neg q]
    · rw [if_neg e]
      refine (sm_zero (p.getD j [])).symm.trans (sm_congr fun h _ => ?_)
      rw [if_neg (fun z => e (hb.mpr z))]
      split <;> rfl
  rw [sm_congr step, sm_swap]
  refine sm_congr fun j hj => ?_
  have hj := List.mem_range.mp hj
  rw [sm_swap]
  refine sm_congr fun h hh => ?_
  rw [range_cut (fun d => if (j + (d + 1)) % p.length = 0 then 1 else 0) 15 h (hgd j h hh).2, comes p.length j hn hj h]
/-- what lands, throw by throw -/
theorem land_sum {p : Pattern} (hn : 0 < p.length) (hc : clash p = none) : (sm (List.range p.length) fun j => sm (p.getD j []) fun h => (j + h) % p.length) = sm (List.range p.length) fun j => sm (p.getD j []) fun _ => j := by
  have h1 : (sm (List.range p.length) fun j => sm (p.getD j []) fun h => (j + h) % p.length) = sm (landKs p p.length) fun x => x := by
    unfold landKs
    rw [sm_flat]
    exact sm_congr fun j _ => (sm_map (fun h => (j + h) % p.length) (fun x => x) (p.getD j [])).symm
  have hlt : ∀ x ∈ landKs p p.length, x < p.length := fun x hx => by
    unfold landKs at hx
    obtain ⟨j, _, hx⟩ := List.mem_flatMap.mp hx
    obtain ⟨h, _, rfl⟩ := List.mem_map.mp hx
    exact Nat.mod_lt _ hn
  have h2 : sm (landKs p p.length) (fun x => x) = sm (List.range p.length) fun k => k * (landKs p p.length).count k := by
    have e : ∀ x ∈ landKs p p.length, x = sm (List.range p.length) fun k => if x = k then k else 0 := fun x hx => (sm_pick (fun k => k) p.length x (hlt x hx)).symm
    rw [sm_congr e, sm_swap]
    refine sm_congr fun k _ => ?_
    rw [count_sm, ← sm_mul]
    refine sm_congr fun x _ => ?_
    split <;> simp
  rw [h1, h2]
  refine sm_congr fun k hk => ?_
  have hk := List.mem_range.mp hk
  unfold clash at hc
  rw [List.find?_range_eq_none] at hc
  have := hc k hk
  have this : landing p k = (p.getD k []).length := by simpa using this
  rw [← landing_count, this, ← sm_one, ← sm_mul, Nat.mul_one]
theorem heights_sm (p : Pattern) : heights p = sm (List.range p.length) fun j => sm (p.getD j []) fun h => h := by
  rw [heights_flat]
  have e : (List.range p.length).map (fun j => p.getD j []) = p := by
    apply List.ext_getElem?
    intro i
    by_cases h : i < p.length
    · rw [List.getElem?_map, List.getElem?_range h]
      simp [List.getD, h]
    · rw [List.getElem?_eq_none (by simp; omega), List.getElem?_eq_none (by omega)]
  have f : ∀ q : Pattern, q.flatten.sum = sm q fun b => b.sum := fun q => by
    induction q with
    | nil => rfl
    | cons b r ih => rw [List.flatten_cons, List.sum_append, sm_cons, ih]
  rw [f]
  conv => lhs; rw [← e]
  rw [sm_map]
  refine sm_congr fun j _ => ?_
  unfold sm
  rw [List.map_id']
theorem balls_air {p : Pattern} (hn : 0 < p.length) (hp : ∀ b ∈ p, ∀ h ∈ b, 1 ≤ h ∧ h ≤ 15) (hc : clash p = none) : (airAt p 0).sum = balls p := by
  have h1 : (sm (List.range p.length) fun j => sm (p.getD j []) fun h => j + h) = p.length * (airAt p 0).sum + sm (List.range p.length) fun j => sm (p.getD j []) fun _ => j := by
    rw [air_sum hn hp, ← land_sum hn hc, ← sm_mul, ← sm_add]
    refine sm_congr fun j _ => ?_
    rw [← sm_mul, ← sm_add]
    refine sm_congr fun h _ => ?_
    exact (Nat.div_add_mod (j + h) p.length).symm
  have h2 : (sm (List.range p.length) fun j => sm (p.getD j []) fun h => j + h) = (sm (List.range p.length) fun j => sm (p.getD j []) fun _ => j) + heights p := by
    rw [heights_sm, ← sm_add]
    exact sm_congr fun j _ => sm_add (fun _ => j) (fun h => h) (p.getD j [])
  unfold balls
  have h3 : heights p = p.length * (airAt p 0).sum := by omega
  rw [h3, Nat.mul_div_cancel_left _ hn]
/-! joins -/

end Jm



set_option Elab.async false
set_option linter.all false
set_option maxRecDepth 100000
set_option maxHeartbeats 2000000
namespace L2
open PySem PySem.Spec PyProof.Rows
/-! list(range(..)), list(zip(..)) -/
section
variable {X : Cx}
/-- what the call T(e) tells, e a thing that is walked on the spot -/
def PWk (X : Cx) (T : Value) (e : Expr) (t : TE) : Prop := ∀ (pins : List (Addr × Obj)) (s : Shared) (σ : St) (H : Hp) (Q : VK), Inv X pins σ H s → t σ H Q →
  wpAny (model X.prog X.w) X.A (eval e X.env) (fun u s1 => wpAny (model X.prog X.w) X.A (call T [u]) (EP X pins σ Q) X.xe s1) X.xe s
theorem pe_ofK {T : String} {x : Str} {e : Expr} {t : TE} {p pos : Pos} (hk : PWk X (.type T) e t) (hg : Gl X x) (hm : X.mg x = none) (hv : bootBuiltins x = some (.type T)) (hn : x ≠ "__name__" := by decide) (hdb : (x == ("__debug__" : Str)) = false := by decide)
    (he : starEach [e] X.env = (false, eval e X.env) :: starEach [] X.env := by rfl) : PE X (.Call (.Name x p) [e] [] pos) t := by
  intro pins s σ H Q I h
  refine wpAny_Call_Name_kw (ld_blt I hg hm hv ?_ hn hdb)
  refine PyProof.Rows.callWith_type1 ?_ he rfl
  rw [he]
  show wpAny _ _ (spliced ((false, eval e X.env) :: backTo pos (starEach [] X.env))) _ _ s
  exact Calls.spliced_cons (thn (hk pins s σ H Q I h) fun u s1 q => Calls.spliced_nil q)
theorem vals_get : ∀ {ys : List V} {its : List Value}, ys.length = its.length → (∀ (j : Nat) y u, ys[j]? = some y → its[j]? = some u → RelV y u) → Vals ys its
  | [], [], _, _ => .nil
  | [], _ :: _, h, _ => by cases h
  | _ :: _, [], h, _ => by cases h
  | y :: ys, u :: its, h, k => .cons (k 0 y u rfl rfl) (vals_get (by simpa using h) fun j y' u' a b => k (j + 1) y' u' a b)
theorem list_rng {pins : List (Addr × Obj)} {σ : St} {H : Hp} {s : Shared} {Q : VK} {lo hi : Int} {t u v : Tok} {tk : Nat} (hc : X.calm = true) (I : Inv X pins σ H s) (h0 : 0 ≤ lo) (hle : lo ≤ hi) (hs : hi ≤ 16777216)
    (q : ∀ l, H l = none → Q (.ref l) (upd H l (.lst ((List.range (hi - lo).toNat).map fun (i : Nat) => V.int (lo + (i : Int)))))) :
    wpAny (model X.prog X.w) X.A (call (.type "list") [.ref s.heap.objs.size]) (EP X pins σ Q) X.xe { s with heap := s.heap.push { cls := .type "range", data := .fields #[.int lo t, .int hi u, .int 1 v] }, toks := tk } := by
  have I1 : Inv X pins σ H { s with heap := s.heap.push { cls := .type "range", data := .fields #[.int lo t, .int hi u, .int 1 v] }, toks := tk } := I.kept fun b o e => Heap.get?_push_of_some _ e
  refine call_list_range (n := (hi - lo).toNat) (I.ok.hd hc) (IsRange.new ..) (small_one (by omega) (by omega) (by omega) (by omega)) (by rw [rangeSize_one]; split <;> omega) (by show _ ≤ 16777216; omega) fun h' tk' acc' c' hk hS' hacc => ?_
  refine ⟨.ref _, upd H _ (.lst _), I1.laid (t' := tk') hk (Nat.le_refl _) ⟨?_, acc'.toList, c', vals_get ?_ ?_, ?_⟩, rfl, q _ (I1.hok.fresh (Nat.le_refl _))⟩
  · rw [List.length_map, List.length_range, sizeLine_eq]
    omega
  · rw [List.length_map, List.length_range, Array.length_toList, hacc.1]
  · intro j y w hy hw
    rw [List.getElem?_map] at hy
    rw [Array.getElem?_toList] at hw
    obtain ⟨t', rfl⟩ := hacc.2 j w hw
    cases e : (List.range (hi - lo).toNat)[j]? with
    | none => rw [e] at hy; cases hy
    | some j' =>
      rw [e] at hy
      have ej : j' = j := by
        have := List.getElem?_eq_some_iff.mp e
        obtain ⟨h1, h2⟩ := this
        rw [List.getElem_range] at h2
        exact h2.symm
      subst ej
      cases hy
      exact ⟨t', by rw [Int.mul_one]⟩
  · simpa using hS'
def tLR1 (ta : TA) : TE := fun σ H Q => ta σ H fun vs H1 => ∃ n : Nat, vs = [.int (n : Nat)] ∧ n ≤ 16777216 ∧ ∀ l, H1 l = none → Q (.ref l) (upd H1 l (.lst (natsV (List.range n))))

theorem pk_range1 {a : Expr} {ta : TA} {p pos : Pos} (hc : X.calm = true) (hg : Gl X "range") (hm : X.mg "range" = none) (ha : PA X [a] ta) (hs : starEach [a] X.env = [(false, eval a X.env)] := by rfl) :
    PWk X (.type "list") (.Call (.Name "range" p) [a] [] pos) (tLR1 ta) := by
  intro pins s σ H Q I h
  refine Call_ (ld_blt I hg hm boot_range (PyProof.Rows.callWith_type1 (thn (ha pos pins s σ H _ I h) fun us s1 ⟨vs, H1, I1, r1, q1⟩ => ?_) hs rfl))
  obtain ⟨n, e, hn, q⟩ := q1
  subst e
  cases r1 with
  | cons r rr =>
    cases rr
    obtain ⟨t, rfl⟩ := r
    refine call_range_1 (list_rng hc I1 (by omega) (by omega) (by omega) fun l hl => ?_)
    have e : ((List.range ((n : Int) - 0).toNat).map fun (i : Nat) => V.int (0 + (i : Int))) = natsV (List.range n) := by
      unfold natsV
      rw [show ((n : Int) - 0).toNat = n by omega]
      exact List.map_congr_left fun i _ => by rw [Int.zero_add]
    rw [e]
    exact q l hl

end
end L2

/-! What is made of a right pattern is right: seen backwards, swapped. -/
namespace Jm
open Jug
theorem getD_mem {p : Pattern} {j : Nat} {h : Nat} (hh : h ∈ p.getD j []) : j < p.length ∧ p.getD j [] ∈ p := by
  by_cases hj : j < p.length
  · have e : p.getD j [] = p[j] := by simp [List.getD, hj]
    rw [e]
    exact ⟨hj, List.getElem_mem hj⟩
  · have e : p.getD j [] = [] := by simp [List.getD, hj]
    rw [e] at hh
    cases hh

theorem landing_sm (p : Pattern) (t : Nat) : landing p t = sm (List.range p.length) fun s => sm (p.getD s []) fun h => if (s + h) % p.length = t then 1 else 0 := by
  rw [landing_count, count_sm]
  unfold landKs
  rw [sm_flat]
  exact sm_congr fun s _ => sm_map _ _ _
theorem clash_none {p : Pattern} : clash p = none ↔ ∀ t, t < p.length → landing p t = (p.getD t []).length := by
  unfold clash
  rw [List.find?_range_eq_none]
  constructor
  · intro h t ht
    simpa using h t ht
  · intro h t ht
    simpa using h t ht

/-! single throws: right just if no two land on one beat (a height of 0 stays where it is) -/
def landsL (p : Pattern) : List Nat := (List.range p.length).map (lands p)
theorem plain_beat {p : Pattern} (h : plain p = true) (s : Nat) : p.getD s [] = beatOf (single p s) ∨ (p.getD s [] = [0]) := by
  unfold single
  by_cases hs : s < p.length
  · have hl : (p.getD s []).length ≤ 1 := by
      have e : p.getD s [] = p[s] := by simp [List.getD, hs]
      rw [e]
      exact of_decide_eq_true (List.all_eq_true.mp h _ (List.getElem_mem hs))
    cases e : p.getD s [] with
    | nil => exact .inl rfl
    | cons a r =>
      rw [e] at hl
      have : r = [] := List.eq_nil_of_length_eq_zero (by simp at hl; simp [hl])
      subst this
      by_cases h0 : a = 0
      · subst h0
        exact .inr rfl
      · left
        show [a] = beatOf a
        unfold beatOf
        rw [if_neg h0]
  · have e : p.getD s [] = [] := by simp [List.getD, hs]
    rw [e]
    exact .inl rfl
/-- every beat has one throw above 0, or none -/
def Single (p : Pattern) : Prop := ∀ s, p.getD s [] = beatOf (single p s)
theorem single_of {p : Pattern} (h : plain p = true) (hG : ∀ b ∈ p, GoodBeat b) : Single p := fun s => by
  rcases plain_beat h s with e | e
  · exact e
  · have hm : (0 : Nat) ∈ p.getD s [] := by rw [e]; simp
    have := ((hG _ (getD_mem hm).2).2.1 0 hm).1
    omega
theorem beatOf_sm (h : Nat) (f : Nat → Nat) : sm (beatOf h) f = if h = 0 then 0 else f h := by
  unfold beatOf
  split
  · rfl
  · rw [sm_cons, sm_nil, Nat.add_zero]
theorem count_lands {p : Pattern} (hS : Single p) {t : Nat} (ht : t < p.length) : (landsL p).count t = landing p t + if single p t = 0 then 1 else 0 := by
  unfold landsL
  rw [count_sm, sm_map, landing_sm]
  have e : ∀ s ∈ List.range p.length, (if lands p s = t then 1 else 0) = (sm (p.getD s []) fun h => if (s + h) % p.length = t then 1 else 0) + if t = s then (if single p s = 0 then 1 else 0) else 0 := fun s hs => by
    have hs := List.mem_range.mp hs
    rw [hS s, beatOf_sm]
    unfold lands
    by_cases h0 : single p s = 0
    · rw [if_pos h0, h0, Nat.add_zero, Nat.mod_eq_of_lt hs, if_pos rfl, Nat.zero_add]
      by_cases q : s = t
      · rw [if_pos q, if_pos q.symm]
      · rw [if_neg q, if_neg (fun z => q z.symm)]
    · rw [if_neg h0, if_neg h0]
      split <;> (split <;> rfl)
  rw [sm_congr e, sm_add, sm_pick (fun s => if single p s = 0 then 1 else 0) p.length t ht]
theorem beatOf_len (h : Nat) : (beatOf h).length + (if h = 0 then 1 else 0) = 1 := by
  unfold beatOf
  split <;> rfl
theorem sm_le_one {f : Nat → Nat} : ∀ {n : Nat}, (∀ k, k < n → f k ≤ 1) → sm (List.range n) f = n → ∀ k, k < n → f k = 1
  | 0, _, _, k, hk => absurd hk (by omega)
  | n + 1, h, e, k, hk => by
    rw [sm_range_succ] at e
    have hle : ∀ m, m ≤ n → sm (List.range m) f ≤ m := fun m => by
      induction m with
      | zero => intro _; exact Nat.le_refl _
      | succ m ih =>
        intro hm
        rw [sm_range_succ]
        have := ih (by omega)
        have := h m (by omega)
        omega
    have h1 := hle n (Nat.le_refl _)
    have h2 := h n (by omega)
    by_cases q : k = n
    · subst q
      omega
    · exact sm_le_one (n := n) (fun m hm => h m (by omega)) (by omega) k (by omega)
theorem right_perm {p : Pattern} (hn : 0 < p.length) (hS : Single p) : clash p = none ↔ (landsL p).Nodup := by
  have hlt : ∀ x ∈ landsL p, x < p.length := fun x hx => by
    obtain ⟨s, _, rfl⟩ := List.mem_map.mp hx
    exact Nat.mod_lt _ hn
  have hc : clash p = none ↔ ∀ t, t < p.length → (landsL p).count t = 1 := by
    rw [clash_none]
    constructor
    · intro h t ht
      rw [count_lands hS ht, h t ht, hS t]
      exact beatOf_len _
    · intro h t ht
      have h1 := h t ht
      rw [count_lands hS ht] at h1
      rw [hS t]
      have := beatOf_len (single p t)
      omega
  rw [hc, List.nodup_iff_count]
  constructor
  · intro h a
    by_cases ha : a < p.length
    · rw [h a ha]
      exact Nat.le_refl _
    · rw [List.count_eq_zero.mpr (fun hm => ha (hlt a hm))]
      omega
  · intro h
    refine sm_le_one (fun k _ => h k) ?_
    have := cnt_total hlt
    show (cnt p.length (landsL p)).sum = _
    rw [this]
    unfold landsL
    rw [List.length_map, List.length_range]
/-! swapped -/

theorem single_beatOf (h : Nat) : (beatOf h).headD 0 = h := by
  unfold beatOf
  split
  · rename_i e
    rw [e]
    rfl
  · rfl

end Jm

set_option Elab.async false
set_option linter.all false
set_option maxRecDepth 100000
set_option maxHeartbeats 2000000
namespace Jm
open Jug
/-! Rows of single throws counted, beat by beat: by the beats landed on (bits) and the sum so far. -/
def hasB (m t : Nat) : Bool := decide (m / 2 ^ t % 2 = 1)
def takenOf (m : Nat) : List Nat := (List.range 5).filter (hasB m)
def pc (m : Nat) : Nat := (takenOf m).length
theorem bits_fin : ∀ n : Fin 6, ∀ m : Fin 32, m.val < 2 ^ n.val → ∀ t : Fin 5, t.val < n.val → ((m.val &&& 2 ^ t.val = 0) ↔ hasB m.val t.val = false) ∧
    (m.val &&& 2 ^ t.val = 0 → m.val + 2 ^ t.val < 2 ^ n.val ∧ pc (m.val + 2 ^ t.val) = pc m.val + 1 ∧ ∀ x : Fin 5, hasB (m.val + 2 ^ t.val) x.val = (decide (x.val = t.val) || hasB m.val x.val)) := by decide +kernel
theorem full_fin : ∀ n : Fin 6, ∀ m : Fin 32, m.val < 2 ^ n.val → pc m.val = n.val → m.val = 2 ^ n.val - 1 := by decide +kernel
theorem pow_le32 {n : Nat} (h : n ≤ 5) : 2 ^ n ≤ 32 := Nat.pow_le_pow_right (by decide) h
theorem taken_has {m x : Nat} : (takenOf m).contains x = (decide (x < 5) && hasB m x) := by
  rw [Bool.eq_iff_iff, List.contains_iff_mem]
  unfold takenOf
  rw [List.mem_filter, List.mem_range, Bool.and_eq_true, decide_eq_true_eq]
theorem bit_free {n m t : Nat} (hn : n ≤ 5) (hm : m < 2 ^ n) (ht : t < n) : (m &&& 2 ^ t = 0) ↔ (takenOf m).contains t = false := by
  have h32 := pow_le32 hn
  have := (bits_fin ⟨n, by omega⟩ ⟨m, by omega⟩ hm ⟨t, by omega⟩ ht).1
  rw [taken_has, decide_eq_true (show t < 5 by omega), Bool.true_and]
  exact this
theorem bit_put {n m t : Nat} (hn : n ≤ 5) (hm : m < 2 ^ n) (ht : t < n) (h0 : m &&& 2 ^ t = 0) : m + 2 ^ t < 2 ^ n ∧ pc (m + 2 ^ t) = pc m + 1 ∧ ∀ x, (takenOf (m + 2 ^ t)).contains x = (t :: takenOf m).contains x := by
  have h32 := pow_le32 hn
  obtain ⟨h1, h2, h3⟩ := (bits_fin ⟨n, by omega⟩ ⟨m, by omega⟩ hm ⟨t, by omega⟩ ht).2 h0
  refine ⟨h1, h2, fun x => ?_⟩
  rw [taken_has, List.contains_cons, taken_has]
  by_cases hx : x < 5
  · rw [decide_eq_true hx, Bool.true_and, Bool.true_and]
    have := h3 ⟨x, hx⟩
    dsimp only at this
    rw [this]
    congr 1
  · rw [decide_eq_false hx, Bool.false_and, Bool.false_and, Bool.or_false]
    symm
    rw [beq_eq_false_iff_ne]
    omega
theorem bits_full {n m : Nat} (hn : n ≤ 5) (hm : m < 2 ^ n) (h : pc m = n) : m = 2 ^ n - 1 := by
  have h32 := pow_le32 hn
  exact full_fin ⟨n, by omega⟩ ⟨m, by omega⟩ hm h
theorem allFrom_congr (n high : Nat) : ∀ (f i : Nat) (t t' : List Nat) (left : Nat), (∀ x, t.contains x = t'.contains x) → allFrom n high f i t left = allFrom n high f i t' left
  | 0, _, _, _, _, _ => rfl
  | f + 1, i, t, t', left, h => by
    unfold allFrom
    refine congrArg (fun F => (List.range (min high left + 1)).flatMap F) ?_
    funext x
    rw [h, allFrom_congr n high f (i + 1) (((i + x) % n) :: t) (((i + x) % n) :: t') (left - x) fun y => by rw [List.contains_cons, List.contains_cons, h]]
/-- how many rows go on so -/
def goOn (n high N i : Nat) (k : Nat × Nat) : Nat := if k.2 ≤ N then (allFrom n high (n - i) i (takenOf k.1) (N - k.2)).length else 0
theorem sm_cut {f : Nat → Nat} {a : Nat} : ∀ {b : Nat}, a ≤ b → (∀ k, a ≤ k → k < b → f k = 0) → sm (List.range b) f = sm (List.range a) f
  | 0, h, _ => by rw [show a = 0 by omega]
  | b + 1, h, hz => by
    by_cases e : a = b + 1
    · rw [e]
    · rw [sm_range_succ, hz b (by omega) (by omega), Nat.add_zero]
      exact sm_cut (b := b) (by omega) fun k h1 h2 => hz k h1 (by omega)
theorem goOn_step {n high N i : Nat} (hn : n ≤ 5) (hi : i < n) {m s : Nat} (hm : m < 2 ^ n) :
    goOn n high N i (m, s) = sm (List.range (high + 1)) fun h => if m &&& 2 ^ ((i + h) % n) = 0 then goOn n high N (i + 1) (m + 2 ^ ((i + h) % n), s + h) else 0 := by
  have ht : ∀ h, (i + h) % n < n := fun h => Nat.mod_lt _ (by omega)
  unfold goOn
  dsimp only
  by_cases hs : s ≤ N
  · rw [if_pos hs, show n - i = (n - (i + 1)) + 1 by omega]
    have e1 : allFrom n high (n - (i + 1) + 1) i (takenOf m) (N - s) = (List.range (min high (N - s) + 1)).flatMap fun (h : Nat) => if (takenOf m).contains ((i + h) % n) = true then [] else (allFrom n high (n - (i + 1)) (i + 1) (((i + h) % n) :: takenOf m) (N - s - h)).map fun (r : List Nat) => h :: r := rfl
    rw [e1, ← sm_one, sm_flat]
    rw [sm_cut (a := min high (N - s) + 1) (b := high + 1) (by omega) fun k h1 h2 => ?_]
    · refine sm_congr fun h hh => ?_
      have hh := List.mem_range.mp hh
      have hb := bit_free hn hm (ht h)
      by_cases e : m &&& 2 ^ ((i + h) % n) = 0
      · obtain ⟨_, _, p3⟩ := bit_put hn hm (ht h) e
        rw [if_pos e, if_pos (show s + h ≤ N by omega), if_neg (by rw [hb.mp e]; decide), sm_one, List.length_map, allFrom_congr n high _ _ _ _ _ p3, Nat.sub_sub]
      · rw [if_neg e, if_pos]
        · rfl
        · cases q : (takenOf m).contains ((i + h) % n) with
          | true => rfl
          | false => exact absurd (hb.mpr q) e
    · rw [if_neg (show ¬ s + k ≤ N by omega)]
      split <;> rfl
  · rw [if_neg hs]
    symm
    refine (sm_congr (g := fun _ => 0) fun h _ => ?_).trans (sm_zero (List.range (high + 1)))
    rw [if_neg (show ¬ s + h ≤ N by omega)]
    split <;> rfl
/-! counts: pairs, each with how many -/
abbrev Cnt := List ((Nat × Nat) × Nat)
def addR (k : Nat × Nat) (c : Nat) : Cnt → Cnt
  | [] => [(k, c)]
  | x :: r => if x.1 = k then (x.1, x.2 + c) :: r else x :: addR k c r
def getR (k : Nat × Nat) : Cnt → Nat
  | [] => 0
  | x :: r => if x.1 = k then x.2 else getR k r
def wt (w : Nat × Nat → Nat) (R : Cnt) : Nat := sm R fun x => x.2 * w x.1
theorem wt_add (w : Nat × Nat → Nat) (k : Nat × Nat) (c : Nat) : ∀ R : Cnt, wt w (addR k c R) = wt w R + c * w k
  | [] => by
    show sm [(k, c)] _ = 0 + _
    rw [sm_cons, sm_nil, Nat.add_zero, Nat.zero_add]
  | x :: r => by
    have ih := wt_add w k c r
    unfold wt at ih ⊢
    unfold addR
    split
    · rename_i e
      rw [sm_cons, sm_cons]
      dsimp only
      rw [Nat.add_mul, e]
      omega
    · rw [sm_cons, sm_cons, ih]
      omega
theorem addR_len (k : Nat × Nat) (c : Nat) : ∀ R : Cnt, (addR k c R).length ≤ R.length + 1
  | [] => by simp [addR]
  | x :: r => by
    have := addR_len k c r
    unfold addR
    split
    · simp
    · simp
      omega
theorem addR_keys (k : Nat × Nat) (c : Nat) : ∀ R : Cnt, ∀ x, x ∈ (addR k c R).map Prod.fst ↔ x = k ∨ x ∈ R.map Prod.fst
  | [], x => by simp [addR]
  | y :: r, x => by
    have ih := addR_keys k c r x
    unfold addR
    split
    · rename_i e
      simp only [List.map_cons, List.mem_cons]
      constructor
      · rintro (h | h)
        · exact .inr (.inl h)
        · exact .inr (.inr h)
      · rintro (h | h | h)
        · exact .inl (h.trans e.symm)
        · exact .inl h
        · exact .inr h
    · simp only [List.map_cons, List.mem_cons]
      rw [ih]
      constructor
      · rintro (h | h | h)
        · exact .inr (.inl h)
        · exact .inl h
        · exact .inr (.inr h)
      · rintro (h | h | h)
        · exact .inr (.inl h)
        · exact .inl h
        · exact .inr (.inr h)
theorem addR_nodup (k : Nat × Nat) (c : Nat) : ∀ {R : Cnt}, (R.map Prod.fst).Nodup → ((addR k c R).map Prod.fst).Nodup
  | [], _ => by simp [addR]
  | y :: r, h => by
    rw [List.map_cons, List.nodup_cons] at h
    have ih := addR_nodup k c h.2
    unfold addR
    split
    · rw [List.map_cons, List.nodup_cons]
      exact h
    · rename_i hne
      rw [List.map_cons, List.nodup_cons]
      refine ⟨fun hm => ?_, ih⟩
      rcases (addR_keys k c r y.1).mp hm with e | e
      · exact hne e
      · exact h.1 e
theorem getR_none {k : Nat × Nat} : ∀ {R : Cnt}, k ∉ R.map Prod.fst → getR k R = 0
  | [], _ => rfl
  | x :: r, h => by
    rw [List.map_cons, List.mem_cons] at h
    unfold getR
    rw [if_neg (fun e => h (.inl e.symm))]
    exact getR_none fun e => h (.inr e)
theorem getR_cons (k : Nat × Nat) (x : (Nat × Nat) × Nat) (r : Cnt) : getR k (x :: r) = if x.1 = k then x.2 else getR k r := rfl
/-- all with one mask: the weight of one sum is what is counted there -/
theorem wt_last {M N : Nat} : ∀ {R : Cnt}, (R.map Prod.fst).Nodup → (∀ x ∈ R, x.1.1 = M) → wt (fun k => if k.2 = N then 1 else 0) R = getR (M, N) R
  | [], _, _ => rfl
  | x :: r, h, hM => by
    rw [List.map_cons, List.nodup_cons] at h
    have ih := wt_last (M := M) (N := N) (R := r) h.2 fun y hy => hM y (List.mem_cons_of_mem _ hy)
    have hx := hM x List.mem_cons_self
    unfold wt at ih ⊢
    rw [sm_cons, ih, getR_cons]
    dsimp only
    by_cases e : x.1 = (M, N)
    · rw [if_pos e, if_pos (by rw [e])]
      rw [e] at h
      rw [getR_none h.1]
      omega
    · rw [if_neg e, if_neg (fun q => e (Prod.ext hx q))]
      omega

end Jm
namespace L2
open PySem PySem.Spec PyProof.Rows
/-! counts in the heap -/
def keyP (k : Nat × Nat) : List Key := [Sum.inl (k.1 : Int), Sum.inl (k.2 : Int)]
theorem keyP_inj {k l : Nat × Nat} (h : keyP k = keyP l) : k = l := by
  unfold keyP at h
  injection h with h1 h2
  injection h2 with h2 _
  injection h1 with h1
  injection h2 with h2
  exact Prod.ext (by omega) (by omega)
def encR (R : Jm.Cnt) : List (List Key × V) := R.map fun x => (keyP x.1, V.int (x.2 : Int))
theorem encR_val (k : Nat × Nat) : ∀ R : Jm.Cnt, ((valV (encR R) (keyP k)).getD (.int 0)) = .int ((Jm.getR k R : Nat) : Int)
  | [] => rfl
  | x :: r => by
    unfold Jm.getR
    by_cases e : x.1 = k
    · rw [if_pos e]
      show (valV ((keyP x.1, V.int (x.2 : Int)) :: encR r) (keyP k)).getD _ = _
      rw [valV_pos (by rw [e])]
      rfl
    · rw [if_neg e]
      show (valV ((keyP x.1, V.int (x.2 : Int)) :: encR r) (keyP k)).getD _ = _
      rw [valV_neg (fun z => e (keyP_inj z))]
      exact encR_val k r
theorem encR_at {k : Nat × Nat} {c : Nat} : ∀ {R : Jm.Cnt}, (R.map Prod.fst).Nodup → (k, c) ∈ R → valV (encR R) (keyP k) = some (.int (c : Int))
  | [], _, h => by cases h
  | x :: r, hn, h => by
    rw [List.map_cons, List.nodup_cons] at hn
    show valV ((keyP x.1, V.int (x.2 : Int)) :: encR r) (keyP k) = _
    rcases List.mem_cons.mp h with e | h
    · rw [← e]
      exact valV_pos rfl
    · have hne : x.1 ≠ k := fun e => hn.1 (by rw [e]; exact List.mem_map.mpr ⟨_, h, rfl⟩)
      rw [valV_neg (fun z => hne (keyP_inj z))]
      exact encR_at hn.2 h
theorem putK_pos {κ : Type} [DecidableEq κ] {p : κ × V} {r : List (κ × V)} {k : κ} {v : V} (e : p.1 = k) (hn : ∀ x ∈ r, x.1 ≠ k) : putK (p :: r) k v = (p.1, v) :: r := by
  unfold putK
  rw [if_pos (by rw [List.any_cons, decide_eq_true e, Bool.true_or]), List.map_cons, if_pos e]
  congr 1
  conv => rhs; rw [← List.map_id r]
  refine List.map_congr_left fun x hx => ?_
  rw [if_neg (hn x hx)]
  rfl
theorem putK_neg {κ : Type} [DecidableEq κ] {p : κ × V} {r : List (κ × V)} {k : κ} {v : V} (e : ¬ p.1 = k) : putK (p :: r) k v = p :: putK r k v := by
  unfold putK
  rw [List.any_cons, decide_eq_false e, Bool.false_or]
  split
  · rw [List.map_cons, if_neg e]
  · rfl
theorem encR_put (k : Nat × Nat) (c : Nat) : ∀ {R : Jm.Cnt}, (R.map Prod.fst).Nodup → putK (encR R) (keyP k) (.int (((Jm.getR k R : Nat) : Int) + (c : Int))) = encR (Jm.addR k c R)
  | [], _ => by
    show putK [] _ _ = [(keyP k, V.int (c : Int))]
    unfold putK
    rw [if_neg (by simp)]
    show [(keyP k, V.int (((0 : Nat) : Int) + (c : Int)))] = _
    rw [show ((0 : Nat) : Int) + (c : Int) = (c : Int) by omega]
  | x :: r, hn => by
    rw [List.map_cons, List.nodup_cons] at hn
    show putK ((keyP x.1, V.int (x.2 : Int)) :: encR r) _ _ = _
    unfold Jm.getR Jm.addR
    by_cases e : x.1 = k
    · rw [if_pos e, if_pos e, putK_pos (by rw [e])]
      · show (keyP x.1, V.int ((x.2 : Int) + (c : Int))) :: encR r = (keyP x.1, V.int ((x.2 + c : Nat) : Int)) :: encR r
        rw [Int.natCast_add]
      · intro y hy z
        obtain ⟨w, hw, rfl⟩ := List.mem_map.mp hy
        exact hn.1 (by rw [e, ← keyP_inj z]; exact List.mem_map.mpr ⟨w, hw, rfl⟩)
    · rw [if_neg e, if_neg e, putK_neg (fun z => e (keyP_inj z)), encR_put k c hn.2]
      rfl
/-- over a locked dict by tuples -/
theorem for_keysT {d : Addr} {o : Obj} {kvs : List (List Key × V)} {g : TG} {tb : TS} {D : Ends} {σ : St} {H : Hp} (Pv : Nat → St → Hp → Prop) (h0 : Pv 0 σ H) (hl : ∀ i σ H, i ≤ kvs.length → Pv i σ H → H d = some (.frz o (.dT kvs)))
    (hs : ∀ i k v q σ H, kvs[i]? = some (k, v) → H q = some (.tup (k.map kV)) → Pv i σ H → g (.ref q) σ H fun σ2 H2 => tb { D with nx := Pv (i + 1), ct := Pv (i + 1), bk := D.nx } σ2 H2) (hd : ∀ σ H, Pv kvs.length σ H → D.nx σ H) :
    ∃ W : Nat → Nat → St → Hp → Prop, (∃ m, W 0 m σ H) ∧ ∀ i m σ H, W i m σ H →
      ((Itkt d o kvs).stop i H ∧ D.nx σ H) ∨ ((Itkt d o kvs).go i H ∧ ∃ N : St → Hp → Prop, (∀ σ' H', N σ' H' → ∃ m', m' < m ∧ W (i + 1) m' σ' H') ∧ ∀ x H', (Itkt d o kvs).yld i H x H' → g x σ H' fun σ2 H2 => tb { D with nx := N, ct := N, bk := D.nx } σ2 H2) := by
  refine ⟨fun i m σ H => m = kvs.length - i ∧ i ≤ kvs.length ∧ Pv i σ H, ⟨kvs.length, by simp, Nat.zero_le _, h0⟩, ?_⟩
  rintro i m σ H ⟨rfl, hi, p⟩
  have q := hl i σ H hi p
  by_cases hlt : i < kvs.length
  · refine .inr ⟨⟨q, hlt⟩, Pv (i + 1), fun σ' H' p' => ⟨kvs.length - (i + 1), by omega, rfl, hlt, p'⟩, fun x H' y => ?_⟩
    obtain ⟨e, k, v, a, h1, h2, h3⟩ := y
    subst e h2
    exact hs i k v a σ _ h1 h3 p
  · have e : i = kvs.length := by omega
    subst e
    exact .inl ⟨⟨q, Nat.le_refl _⟩, hd σ H p⟩
theorem and_nat (a b : Nat) : Builtin.bitAnd (a : Int) (b : Int) = ((a &&& b : Nat) : Int) := by
  rw [bitAnd_pp (by omega) (by omega)]
  rfl
theorem or_nat {a b : Nat} (h : a &&& b = 0) : Builtin.bitOr (a : Int) (b : Int) = ((a + b : Nat) : Int) := by
  rw [bitOr_and, and_nat, h]
  omega
end L2

/-! Orbits: where a single throw lands, again and again. -/
namespace Jm
open Jug

end Jm

/-! Lifted: of single throws, right again. -/
namespace Jm
open Jug

end Jm

set_option Elab.async false
set_option linter.all false
set_option maxRecDepth 100000
set_option maxHeartbeats 2000000
namespace L2
open PySem PySem.Spec PyProof.Rows
section
variable {X : Cx} {K : PySem.W.Frag}

end
def sumV (H : Hp) : V → V
  | .ref z => (match H z with | some (.lst xs) => .int (xs.foldr (fun v n => (match v with | .int i => i | _ => 0) + n) 0) | _ => .ref z)
  | v => v
theorem sumV_nats (l : List Nat) : (natsV l).foldr (fun v n => (match v with | .int i => i | _ => 0) + n) (0 : Int) = ((l.sum : Nat) : Int) := by
  induction l with
  | nil => rfl
  | cons a r ih =>
    show (a : Int) + (natsV r).foldr _ 0 = _
    rw [ih, List.sum_cons]
    omega
theorem sums_of {H : Hp} : ∀ {vs : List V} {p : List (List Nat)}, Paired (BeatAt H) vs p → vs.map (sumV H) = natsV (p.map List.sum)
  | _, _, .nil => rfl
  | _, _, .cons h t => by
    obtain ⟨z, rfl, e⟩ := h
    rw [List.map_cons, List.map_cons, sums_of t]
    unfold sumV
    dsimp only
    rw [e]
    dsimp only
    rw [sumV_nats]
    rfl
end L2
namespace Jm
open Jug
theorem foldl_max_le (c : Nat) : ∀ (l : List Nat) (a : Nat), l.foldl max a ≤ c ↔ a ≤ c ∧ ∀ x ∈ l, x ≤ c
  | [], a => by simp
  | b :: r, a => by
    rw [List.foldl_cons, foldl_max_le c r]
    constructor
    · rintro ⟨h1, h2⟩
      have e1 : a ≤ max a b := Nat.le_max_left _ _
      have e2 : b ≤ max a b := Nat.le_max_right _ _
      refine ⟨by omega, fun x hx => ?_⟩
      rcases List.mem_cons.mp hx with rfl | hx
      · omega
      · exact h2 x hx
    · rintro ⟨h1, h2⟩
      exact ⟨Nat.max_le.mpr ⟨h1, h2 b (List.mem_cons_self)⟩, fun x hx => h2 x (List.mem_cons_of_mem _ hx)⟩
theorem plain_max (p : Pattern) : plain p = true ↔ (p.map List.length).foldl max 0 ≤ 1 := by
  rw [foldl_max_le]
  unfold plain
  rw [List.all_eq_true]
  constructor
  · intro h
    refine ⟨Nat.zero_le _, fun x hx => ?_⟩
    obtain ⟨b, hb, rfl⟩ := List.mem_map.mp hx
    exact of_decide_eq_true (h b hb)
  · rintro ⟨_, h⟩ b hb
    exact decide_eq_true (h _ (List.mem_map.mpr ⟨b, hb, rfl⟩))
theorem not_plain {p : Pattern} (h : ¬ (p.map List.length).foldl max 0 ≤ 1) : plain p = false := by
  cases e : plain p with
  | false => rfl
  | true => exact absurd ((plain_max p).mp e) h
/-- single throws as a row of heights -/
def rowL (p : Pattern) : List Nat := p.map List.sum
theorem rowL_len (p : Pattern) : (rowL p).length = p.length := by unfold rowL; rw [List.length_map]
theorem sum_head {b : Beat} (h : b.length ≤ 1) : b.sum = b.headD 0 := by
  match b, h with
  | [], _ => rfl
  | [a], _ => simp
theorem rowL_at {p : Pattern} (h : plain p = true) {s : Nat} (hs : s < p.length) : (rowL p)[s]? = some (single p s) := by
  unfold rowL single
  rw [List.getElem?_map, List.getElem?_eq_getElem hs]
  have e : p.getD s [] = p[s] := by simp [List.getD, hs]
  rw [e]
  show some p[s].sum = _
  rw [sum_head (of_decide_eq_true (List.all_eq_true.mp h _ (List.getElem_mem hs)))]
theorem row_beats {p : Pattern} (h : plain p = true) (hG : ∀ b ∈ p, GoodBeat b) : (rowL p).map beatOf = p := by
  unfold rowL
  rw [List.map_map]
  conv => rhs; rw [← List.map_id p]
  refine List.map_congr_left fun b hb => ?_
  have hl := of_decide_eq_true (List.all_eq_true.mp h b hb)
  obtain ⟨_, g2, _⟩ := hG b hb
  match b, hl, g2 with
  | [], _, _ => rfl
  | [a], _, g2 =>
    have := g2 a (by simp)
    show beatOf (a + 0) = [a]
    unfold beatOf
    rw [if_neg (by omega)]
    rfl

end Jm

namespace Jm
open Jug
/-! All rows of single throws in order: what they are, where one stands. -/
def landsFrom (n : Nat) : Nat → List Nat → List Nat
  | _, [] => []
  | i, h :: r => ((i + h) % n) :: landsFrom n (i + 1) r
/-- the rows that begin with h -/
def rowsAt (n high f i : Nat) (taken : List Nat) (left h : Nat) : List (List Nat) := if taken.contains ((i + h) % n) = true then [] else (allFrom n high f (i + 1) (((i + h) % n) :: taken) (left - h)).map fun (r : List Nat) => h :: r
theorem allFrom_succ (n high f i : Nat) (taken : List Nat) (left : Nat) : allFrom n high (f + 1) i taken left = (List.range (min high left + 1)).flatMap (rowsAt n high f i taken left) := rfl
theorem mem_rowsAt {n high f i : Nat} {taken : List Nat} {left h : Nat} {l : List Nat} : l ∈ rowsAt n high f i taken left h ↔ ∃ r, l = h :: r ∧ (i + h) % n ∉ taken ∧ r ∈ allFrom n high f (i + 1) (((i + h) % n) :: taken) (left - h) := by
  unfold rowsAt
  by_cases e : (i + h) % n ∈ taken
  · rw [if_pos (List.contains_iff_mem.mpr e)]
    constructor
    · intro h; cases h
    · rintro ⟨r, _, q, _⟩; exact absurd e q
  · rw [if_neg (fun q => e (List.contains_iff_mem.mp q)), List.mem_map]
    constructor
    · rintro ⟨r, hr, rfl⟩; exact ⟨r, rfl, e, hr⟩
    · rintro ⟨r, rfl, _, hr⟩; exact ⟨r, hr, rfl⟩
theorem mem_allFrom (n high : Nat) : ∀ (f i : Nat) (taken : List Nat) (left : Nat) (l : List Nat), l ∈ allFrom n high f i taken left ↔ l.length = f ∧ (∀ x ∈ l, x ≤ high) ∧ l.sum = left ∧ (landsFrom n i l).Nodup ∧ ∀ t ∈ landsFrom n i l, t ∉ taken
  | 0, i, taken, left, l => by
    unfold allFrom
    cases l with
    | nil =>
      by_cases e : left = 0
      · rw [if_pos e]
        simp [landsFrom, e]
      · rw [if_neg e]
        simp only [List.not_mem_nil, false_iff]
        rintro ⟨_, _, h, _⟩
        exact e h.symm
    | cons a r =>
      by_cases e : left = 0
      · rw [if_pos e]
        simp
      · rw [if_neg e]
        simp
  | f + 1, i, taken, left, l => by
    rw [allFrom_succ, List.mem_flatMap]
    constructor
    · rintro ⟨h, hh, hl⟩
      have hh := List.mem_range.mp hh
      obtain ⟨r, rfl, ht, hr⟩ := mem_rowsAt.mp hl
      obtain ⟨a1, a2, a3, a4, a5⟩ := (mem_allFrom n high f (i + 1) _ _ r).mp hr
      refine ⟨by simp [a1], fun x hx => ?_, ?_, ?_, fun t ht' => ?_⟩
      · rcases List.mem_cons.mp hx with rfl | hx
        · omega
        · exact a2 x hx
      · rw [List.sum_cons, a3]
        omega
      · unfold landsFrom
        rw [List.nodup_cons]
        exact ⟨fun q => a5 _ q List.mem_cons_self, a4⟩
      · unfold landsFrom at ht'
        rcases List.mem_cons.mp ht' with rfl | ht'
        · exact ht
        · exact fun q => a5 t ht' (List.mem_cons_of_mem _ q)
    · rintro ⟨a1, a2, a3, a4, a5⟩
      cases l with
      | nil => cases a1
      | cons h r =>
        rw [List.sum_cons] at a3
        have h1 := a2 h List.mem_cons_self
        unfold landsFrom at a4 a5
        rw [List.nodup_cons] at a4
        refine ⟨h, List.mem_range.mpr (by omega), mem_rowsAt.mpr ⟨r, rfl, a5 _ List.mem_cons_self, ?_⟩⟩
        refine (mem_allFrom n high f (i + 1) _ _ r).mpr ⟨by simpa using a1, fun x hx => a2 x (List.mem_cons_of_mem _ hx), by omega, a4.2, fun t ht q => ?_⟩
        rcases List.mem_cons.mp q with e | q
        · exact a4.1 (e ▸ ht)
        · exact a5 t (List.mem_cons_of_mem _ ht) q
/-- how many stand ahead of those that begin with h -/
def pre {α : Type} (F : Nat → List α) (h : Nat) : Nat := sm (List.range h) fun k => (F k).length
theorem pre_succ {α : Type} (F : Nat → List α) (h : Nat) : pre F (h + 1) = pre F h + (F h).length := sm_range_succ h _

theorem preflat_len {α : Type} (F : Nat → List α) (m : Nat) : ((List.range m).flatMap F).length = pre F m := by
  rw [← sm_one, sm_flat]
  exact sm_congr fun k _ => sm_one _
theorem flat_succ {α : Type} (F : Nat → List α) (m : Nat) : (List.range (m + 1)).flatMap F = (List.range m).flatMap F ++ F m := by
  rw [List.range_succ, List.flatMap_append]
  simp

theorem flat_idx {α : Type} (F : Nat → List α) (q : α → Bool) : ∀ {m h j : Nat}, h < m → (∀ k, k < h → ∀ x ∈ F k, q x = false) → (F h).findIdx? q = some j → ((List.range m).flatMap F).findIdx? q = some (pre F h + j)
  | 0, _, _, hm, _, _ => absurd hm (by omega)
  | m + 1, h, j, hm, h1, h2 => by
    rw [flat_succ, List.findIdx?_append]
    by_cases e : h = m
    · subst e
      have : ((List.range h).flatMap F).findIdx? q = none := by
        rw [List.findIdx?_eq_none_iff]
        intro x hx
        obtain ⟨k, hk, hx⟩ := List.mem_flatMap.mp hx
        exact h1 k (List.mem_range.mp hk) x hx
      rw [this, h2, preflat_len]
      simp [Nat.add_comm]
    · rw [flat_idx F q (m := m) (by omega) h1 h2]
      rfl
/-- the place of a row among all: those ahead of its first height, then the place of what is left of it -/
theorem idx_cons {n high f i : Nat} {taken : List Nat} {left h j : Nat} {r : List Nat} (hh : h ≤ min high left) (ht : (i + h) % n ∉ taken) (hr : (allFrom n high f (i + 1) (((i + h) % n) :: taken) (left - h)).findIdx? (fun l => l == r) = some j) :
    (allFrom n high (f + 1) i taken left).findIdx? (fun l => l == h :: r) = some (pre (rowsAt n high f i taken left) h + j) := by
  rw [allFrom_succ]
  refine flat_idx _ _ (by omega) (fun k hk x hx => ?_) ?_
  · obtain ⟨r', rfl, _⟩ := mem_rowsAt.mp hx
    rw [beq_eq_false_iff_ne]
    intro e
    injection e with e _
    omega
  · unfold rowsAt
    rw [if_neg (fun q => ht (List.contains_iff_mem.mp q)), List.findIdx?_map]
    rw [← hr]
    congr 1
    funext l
    show (h :: l == h :: r) = (l == r)
    rw [Bool.eq_iff_iff, beq_iff_eq, beq_iff_eq]
    constructor
    · intro e; injection e
    · intro e; rw [e]
theorem rowsAt_bits {n high N f i m s h : Nat} (hn : n ≤ 5) (hi : i < n) (hf : n - i = f + 1) (hm : m < 2 ^ n) (hs : s + h ≤ N) :
    (rowsAt n high f i (takenOf m) (N - s) h).length = if m &&& 2 ^ ((i + h) % n) = 0 then goOn n high N (i + 1) (m + 2 ^ ((i + h) % n), s + h) else 0 := by
  have ht : (i + h) % n < n := Nat.mod_lt _ (by omega)
  have hb := bit_free hn hm ht
  unfold rowsAt goOn
  dsimp only
  by_cases e : m &&& 2 ^ ((i + h) % n) = 0
  · obtain ⟨_, _, p3⟩ := bit_put hn hm ht e
    rw [if_pos e, if_pos hs, if_neg (by rw [hb.mp e]; decide), List.length_map, allFrom_congr n high _ _ _ _ _ p3, Nat.sub_sub, show n - (i + 1) = f by omega]
  · rw [if_neg e, if_pos]
    · rfl
    · cases q : (takenOf m).contains ((i + h) % n) with
      | true => rfl
      | false => exact absurd (hb.mpr q) e
/-! a pattern's own row -/
theorem beatOf_inj {a b : Nat} (h : beatOf a = beatOf b) : a = b := by
  have h2 : (beatOf a).headD 0 = (beatOf b).headD 0 := by rw [h]
  rw [single_beatOf, single_beatOf] at h2
  exact h2
theorem map_beatOf_inj : ∀ {a b : List Nat}, a.map beatOf = b.map beatOf → a = b
  | [], [], _ => rfl
  | [], _ :: _, h => by cases h
  | _ :: _, [], h => by cases h
  | x :: a, y :: b, h => by
    rw [List.map_cons, List.map_cons] at h
    injection h with h1 h2
    rw [beatOf_inj h1, map_beatOf_inj h2]
theorem place_row {p : Pattern} {n b high : Nat} (hpl : plain p = true) (hG : ∀ b ∈ p, GoodBeat b) : (Jug.all n b high).findIdx? (fun q => q == p) = (allFrom n high n 0 [] (n * b)).findIdx? fun l => l == rowL p := by
  unfold Jug.all
  rw [List.findIdx?_map]
  congr 1
  funext l
  show (l.map beatOf == p) = (l == rowL p)
  rw [Bool.eq_iff_iff, beq_iff_eq, beq_iff_eq]
  constructor
  · intro e
    rw [← row_beats hpl hG] at e
    exact map_beatOf_inj e
  · intro e
    rw [e, row_beats hpl hG]
theorem landsFrom_row {p : Pattern} (hpl : plain p = true) : ∀ k i, i + k = p.length → landsFrom p.length i ((rowL p).drop i) = ((List.range p.length).drop i).map (lands p)
  | 0, i, h => by
    rw [List.drop_of_length_le (by rw [rowL_len]; omega), List.drop_of_length_le (by rw [List.length_range]; omega)]
    rfl
  | k + 1, i, h => by
    have hi : i < p.length := by omega
    have e1 : (rowL p).drop i = single p i :: (rowL p).drop (i + 1) := by
      have h0 := rowL_at hpl hi
      obtain ⟨hil, e⟩ := List.getElem?_eq_some_iff.mp h0
      rw [← e]
      exact List.drop_eq_getElem_cons hil
    have e2 : (List.range p.length).drop i = i :: (List.range p.length).drop (i + 1) := by
      have hil : i < (List.range p.length).length := by rw [List.length_range]; exact hi
      have := List.drop_eq_getElem_cons hil
      rw [List.getElem_range] at this
      exact this
    rw [e1, e2, List.map_cons]
    unfold landsFrom
    rw [landsFrom_row hpl k (i + 1) (by omega)]
    rfl
theorem row_sum (p : Pattern) : (rowL p).sum = heights p := by
  unfold rowL heights
  rw [total_sum, show (total : List Nat → Nat) = List.sum from funext total_sum]
/-- P1: a right pattern's heights are its period times its balls -/
theorem balls_whole {p : Pattern} (hn : 0 < p.length) (hp : ∀ b ∈ p, ∀ h ∈ b, 1 ≤ h ∧ h ≤ 15) (hc : clash p = none) : heights p = p.length * balls p := by
  have h1 : (sm (List.range p.length) fun j => sm (p.getD j []) fun h => j + h) = p.length * (airAt p 0).sum + sm (List.range p.length) fun j => sm (p.getD j []) fun _ => j := by
    rw [air_sum hn hp, ← land_sum hn hc, ← sm_mul, ← sm_add]
    refine sm_congr fun j _ => ?_
    rw [← sm_mul, ← sm_add]
    refine sm_congr fun h _ => ?_
    exact (Nat.div_add_mod (j + h) p.length).symm
  have h2 : (sm (List.range p.length) fun j => sm (p.getD j []) fun h => j + h) = (sm (List.range p.length) fun j => sm (p.getD j []) fun _ => j) + heights p := by
    rw [heights_sm, ← sm_add]
    exact sm_congr fun j _ => sm_add (fun _ => j) (fun h => h) (p.getD j [])
  have h3 := balls_air hn hp hc
  have h4 : heights p = p.length * (airAt p 0).sum := by omega
  rw [h4, h3]
/-- a right pattern of single throws is one of all just if no throw is higher -/
theorem row_in_all {p : Pattern} {high : Nat} (hn : 0 < p.length) (hpl : plain p = true) (hG : ∀ b ∈ p, GoodBeat b) (hc : clash p = none) : rowL p ∈ allFrom p.length high p.length 0 [] (p.length * balls p) ↔ ∀ x ∈ rowL p, x ≤ high := by
  rw [mem_allFrom]
  constructor
  · exact fun h => h.2.1
  · intro h
    refine ⟨rowL_len p, h, ?_, ?_, fun t _ => by simp⟩
    · rw [row_sum, balls_whole hn (fun b hb => (hG b hb).2.1) hc]
    · have := landsFrom_row hpl p.length 0 (by omega)
      rw [List.drop_zero, List.drop_zero] at this
      rw [this]
      exact (right_perm hn (single_of hpl hG)).mp hc
end Jm

set_option Elab.async false
set_option linter.all false
set_option maxRecDepth 100000
set_option maxHeartbeats 2000000
namespace Jm
open Jug
/-! Rows that begin with given heights, counted; a row by its number; a row's number. -/
def stepWt (n i : Nat) (hs : List Nat) (w : Nat × Nat → Nat) (k : Nat × Nat) : Nat := sm hs fun h => if k.1 &&& 2 ^ ((i + h) % n) = 0 then w (k.1 + 2 ^ ((i + h) % n), k.2 + h) else 0
def goB (n high N : Nat) : Nat → List Nat → Nat × Nat → Nat
  | i, [], k => goOn n high N i k
  | i, h :: r, k => if k.1 &&& 2 ^ ((i + h) % n) = 0 then goB n high N (i + 1) r (k.1 + 2 ^ ((i + h) % n), k.2 + h) else 0
theorem goB_eq (n high N i h : Nat) (r : List Nat) (k : Nat × Nat) : goB n high N i (h :: r) k = if k.1 &&& 2 ^ ((i + h) % n) = 0 then goB n high N (i + 1) r (k.1 + 2 ^ ((i + h) % n), k.2 + h) else 0 := by
  rw [goB]
theorem goB_cons (n high N i h : Nat) (r : List Nat) (k : Nat × Nat) : goB n high N i (h :: r) k = stepWt n i [h] (goB n high N (i + 1) r) k := by
  unfold stepWt
  rw [sm_cons, sm_nil, Nat.add_zero, goB_eq]
theorem goB_nil_eq (n high N i : Nat) (k : Nat × Nat) : goB n high N i [] k = goOn n high N i k := by rw [goB]
theorem goB_nil {n high N i : Nat} (hn : n ≤ 5) (hi : i < n) {k : Nat × Nat} (hk : k.1 < 2 ^ n) : goB n high N i [] k = stepWt n i (List.range (high + 1)) (goB n high N (i + 1) []) k := by
  rw [goB_nil_eq]
  have := goOn_step (high := high) (N := N) hn hi (m := k.1) (s := k.2) hk
  rw [show k = (k.1, k.2) from rfl, this]
  unfold stepWt
  refine sm_congr fun h _ => ?_
  dsimp only
  rw [goB_nil_eq]
structure KeyOk (n i : Nat) (R : Cnt) : Prop where
  nd : (R.map Prod.fst).Nodup
  key : ∀ x ∈ R, x.1.1 < 2 ^ n ∧ pc x.1.1 = i
theorem wt_congr {w w' : Nat × Nat → Nat} {R : Cnt} (h : ∀ x ∈ R, w x.1 = w' x.1) : wt w R = wt w' R := sm_congr fun x hx => by rw [h x hx]
theorem key_start (n : Nat) : KeyOk n 0 [((0, 0), 1)] := by
  refine ⟨by simp, fun x hx => ?_⟩
  simp at hx
  rw [hx]
  exact ⟨Nat.two_pow_pos n, by decide⟩
theorem key_end {n high N : Nat} {R : Cnt} (hn : n ≤ 5) (h : KeyOk n n R) : getR (2 ^ n - 1, N) R = wt (goB n high N n []) R := by
  rw [← wt_last h.nd fun x hx => bits_full hn (h.key x hx).1 (h.key x hx).2]
  refine wt_congr fun x _ => ?_
  rw [goB_nil_eq]
  unfold goOn
  rw [Nat.sub_self]
  by_cases e : x.1.2 = N
  · rw [if_pos e, if_pos (by omega), show N - x.1.2 = 0 by omega]
    rfl
  · rw [if_neg e]
    by_cases q : x.1.2 ≤ N
    · rw [if_pos q]
      show 0 = (if N - x.1.2 = 0 then [[]] else ([] : List (List Nat))).length
      rw [if_neg (by omega)]
      rfl
    · rw [if_neg q]
theorem start_wt (w : Nat × Nat → Nat) : wt w [((0, 0), 1)] = w (0, 0) := by
  show sm [((0, 0), 1)] _ = _
  rw [sm_cons, sm_nil]
  show 1 * w (0, 0) + 0 = _
  omega
theorem drop_ix {bs : List Nat} {i : Nat} (h : i < bs.length) : bs.drop i = bs.getD i 0 :: bs.drop (i + 1) := by
  have e : bs.getD i 0 = bs[i] := by simp [List.getD, h]
  rw [e]
  exact List.drop_eq_getElem_cons h
def heightsAt (bs : List Nat) (high i : Nat) : List Nat := if i < bs.length then [bs.getD i 0] else List.range (high + 1)
theorem cb_step {n high N i : Nat} {bs : List Nat} {R R' : Cnt} (hn : n ≤ 5) (hi : i < n) (hk : KeyOk n i R) (hw : ∀ w, wt w R' = wt (stepWt n i (heightsAt bs high i) w) R) :
    wt (goB n high N (i + 1) (bs.drop (i + 1))) R' = wt (goB n high N i (bs.drop i)) R := by
  rw [hw]
  refine wt_congr fun x hx => ?_
  unfold heightsAt
  by_cases h : i < bs.length
  · rw [if_pos h, drop_ix h, goB_cons]
  · rw [if_neg h, List.drop_of_length_le (show bs.length ≤ i by omega), List.drop_of_length_le (show bs.length ≤ i + 1 by omega), goB_nil hn hi (hk.key x hx).1]

/-! heights begun: the beats landed on, the sum -/
structure PreOk (n high N : Nat) (r : List Nat) (m s : Nat) : Prop where
  low : m < 2 ^ n
  go : ∀ rest, goB n high N 0 (r ++ rest) (0, 0) = goB n high N r.length rest (m, s)
theorem pre_nil (n high N : Nat) : PreOk n high N [] 0 0 := ⟨Nat.two_pow_pos n, fun rest => rfl⟩
theorem PreOk.snoc {n high N m s x : Nat} {r : List Nat} (h : PreOk n high N r m s) (hn : n ≤ 5) (hi : r.length < n) (hx : m &&& 2 ^ ((r.length + x) % n) = 0) : PreOk n high N (r ++ [x]) (m + 2 ^ ((r.length + x) % n)) (s + x) := by
  refine ⟨(bit_put hn h.low (Nat.mod_lt _ (by omega)) hx).1, fun rest => ?_⟩
  rw [List.append_assoc, List.length_append, List.length_singleton, show [x] ++ rest = x :: rest from rfl, h.go, goB_eq, if_pos hx]
abbrev rowsF (n high N i m s : Nat) : Nat → List (List Nat) := rowsAt n high (n - (i + 1)) i (takenOf m) (N - s)
theorem PreOk.count {n high N m s : Nat} {r : List Nat} (h : PreOk n high N r m s) (hn : n ≤ 5) (hi : r.length < n) (x : Nat) :
    goB n high N 0 (r ++ [x]) (0, 0) = if s + x ≤ N then (rowsF n high N r.length m s x).length else 0 := by
  rw [h.go, goB_eq, goB_nil_eq]
  by_cases hsx : s + x ≤ N
  · rw [if_pos hsx, rowsAt_bits hn hi (by omega) h.low hsx]
  · rw [if_neg hsx]
    split
    · unfold goOn
      dsimp only
      rw [if_neg hsx]
    · rfl
theorem all_succ {n high N i m s : Nat} (hi : i < n) : allFrom n high (n - i) i (takenOf m) (N - s) = (List.range (min high (N - s) + 1)).flatMap (rowsF n high N i m s) := by
  rw [show n - i = (n - (i + 1)) + 1 by omega, allFrom_succ]
theorem all_put {n high N i m s x : Nat} (hn : n ≤ 5) (hi : i < n) (hm : m < 2 ^ n) (hx : m &&& 2 ^ ((i + x) % n) = 0) : allFrom n high (n - (i + 1)) (i + 1) (((i + x) % n) :: takenOf m) (N - s - x) = allFrom n high (n - (i + 1)) (i + 1) (takenOf (m + 2 ^ ((i + x) % n))) (N - (s + x)) := by
  rw [Nat.sub_sub]
  exact (allFrom_congr n high _ _ _ _ _ (bit_put hn hm (Nat.mod_lt _ (by omega)) hx).2.2).symm
theorem rowsF_some {n high N i m s x : Nat} (hn : n ≤ 5) (hi : i < n) (hm : m < 2 ^ n) (hx : (i + x) % n ∉ takenOf m) :
    m &&& 2 ^ ((i + x) % n) = 0 ∧ rowsF n high N i m s x = (allFrom n high (n - (i + 1)) (i + 1) (takenOf (m + 2 ^ ((i + x) % n))) (N - (s + x))).map fun (r : List Nat) => x :: r := by
  have h0 : m &&& 2 ^ ((i + x) % n) = 0 := (bit_free hn hm (Nat.mod_lt _ (by omega))).mpr (by
    cases e : (takenOf m).contains ((i + x) % n) with
    | false => rfl
    | true => exact absurd (List.contains_iff_mem.mp e) hx)
  refine ⟨h0, ?_⟩
  rw [← all_put hn hi hm h0]
  unfold rowsF rowsAt
  rw [if_neg (fun q => hx (List.contains_iff_mem.mp q))]

/-! a row by its number -/

theorem taken0 : takenOf 0 = [] := by decide

/-! a row's number -/
structure PlOk (n high N : Nat) (row : List Nat) (J i m s lesser : Nat) : Prop where
  pre : PreOk n high N (row.take i) m s
  sum : s ≤ N
  idx : ∃ j, (allFrom n high (n - i) i (takenOf m) (N - s)).findIdx? (fun l => l == row.drop i) = some j ∧ lesser + j = J
theorem pl_start {n high N J : Nat} {row : List Nat} (h : (allFrom n high n 0 [] N).findIdx? (fun l => l == row) = some J) : PlOk n high N row J 0 0 0 0 := by
  refine ⟨pre_nil n high N, Nat.zero_le _, J, ?_, by omega⟩
  rw [taken0]
  exact h
theorem idx_mem {l : List (List Nat)} {r : List Nat} {j : Nat} (h : l.findIdx? (fun x => x == r) = some j) : r ∈ l := by
  obtain ⟨hj, hp, _⟩ := List.findIdx?_eq_some_iff_getElem.mp h
  have e := beq_iff_eq.mp hp
  rw [← e]
  exact List.getElem_mem hj
theorem mem_idx {l : List (List Nat)} {r : List Nat} (h : r ∈ l) : ∃ j, l.findIdx? (fun x => x == r) = some j := by
  cases e : l.findIdx? (fun x => x == r) with
  | some j => exact ⟨j, rfl⟩
  | none =>
    have := List.findIdx?_eq_none_iff.mp e r h
    simp at this
theorem PlOk.next {n high N J i m s lesser : Nat} {row : List Nat} (k : PlOk n high N row J i m s lesser) (hn : n ≤ 5) (hrow : row.length = n) (hi : i < n) :
    s + row.getD i 0 ≤ N ∧ ∃ m', PlOk n high N row J (i + 1) m' (s + row.getD i 0) (lesser + Jm.pre (rowsF n high N i m s) (row.getD i 0)) := by
  obtain ⟨j, hj, eJ⟩ := k.idx
  have hil : i < row.length := by omega
  rw [drop_ix hil] at hj
  generalize hx : row.getD i 0 = x at hj ⊢
  have hm := idx_mem hj
  rw [all_succ hi] at hm
  obtain ⟨h, hh, hl⟩ := List.mem_flatMap.mp hm
  obtain ⟨r, er, ht, hr⟩ := mem_rowsAt.mp hl
  injection er with e1 e2
  subst e1 e2
  have hh := List.mem_range.mp hh
  obtain ⟨j', hj'⟩ := mem_idx hr
  have h1 := idx_cons (f := n - (i + 1)) (by omega) ht hj'
  rw [show n - (i + 1) + 1 = n - i by omega, hj] at h1
  have h1 := Option.some.inj h1
  have hsx : s + x ≤ N := by
    have := k.sum
    omega
  obtain ⟨h0, _⟩ := rowsF_some (high := high) (N := N) (s := s) hn hi k.pre.low ht
  have hpl : (row.take i).length = i := by rw [List.length_take]; omega
  have hp := k.pre.snoc (x := x) hn (by rw [hpl]; exact hi) (by rw [hpl]; exact h0)
  rw [hpl] at hp
  have et : row.take i ++ [x] = row.take (i + 1) := by
    have e : row[i]? = some x := by
      rw [← hx]
      simp [List.getD, hil]
    rw [List.take_add_one, e]
    rfl
  rw [et] at hp
  refine ⟨hsx, _, hp, hsx, j', ?_, ?_⟩
  · rw [← all_put hn hi k.pre.low h0]
    exact hj'
  · have : j = Jm.pre (rowsF n high N i m s) x + j' := h1
    omega
theorem PlOk.done {n high N J m s lesser : Nat} {row : List Nat} (k : PlOk n high N row J n m s lesser) (hrow : row.length = n) : lesser = J := by
  obtain ⟨j, hj, eJ⟩ := k.idx
  rw [Nat.sub_self, List.drop_of_length_le (by omega)] at hj
  unfold allFrom at hj
  by_cases e : N - s = 0
  · rw [if_pos e] at hj
    have : (0 : Nat) = j := Option.some.inj hj
    omega
  · rw [if_neg e] at hj
    cases hj
theorem PlOk.count {n high N J i m s lesser h : Nat} {row : List Nat} (k : PlOk n high N row J i m s lesser) (hn : n ≤ 5) (hrow : row.length = n) (hi : i < n) (hh : s + h ≤ N) : goB n high N 0 (row.take i ++ [h]) (0, 0) = (rowsF n high N i m s h).length := by
  have hpl : (row.take i).length = i := by rw [List.length_take]; omega
  have := k.pre.count hn (by rw [hpl]; exact hi) h
  rw [hpl, if_pos hh] at this
  exact this

end Jm

set_option Elab.async false
set_option linter.all false
set_option maxRecDepth 100000
set_option maxHeartbeats 4000000
namespace Jp
open PySem PySem.Spec PyProof.Rows L2
open PySem.W (Codec)
def top (i : Nat) : Stmt := PySem.Challenge.pw_jugglebench_s14_place.main.body.getD i (.Pass ⟨0, 0, 0, 0⟩)
abbrev s_height_of : Stmt := top 10
abbrev s_bracket_fault : Stmt := top 11
abbrev s_beat_fault : Stmt := top 12
abbrev s_beat_end : Stmt := top 13
abbrev s_text_fault : Stmt := top 14
abbrev s_read_beats : Stmt := top 15
abbrev s_landing_counts : Stmt := top 16
abbrev s_wrong_beat : Stmt := top 17
abbrev s_pattern_refusal : Stmt := top 18
abbrev s_most_throws_of : Stmt := top 19
abbrev s_row_of : Stmt := top 20
abbrev s_counts_with_beat : Stmt := top 21
abbrev s_count_rows : Stmt := top 22
abbrev s_number_of_row : Stmt := top 23
abbrev s_is_count_asked : Stmt := top 27
abbrev s_place : Stmt := top 28
structure Txt (mg : Str → Option Value) : Prop where
  c_CLOSING : IntG mg "CLOSING" 93
  c_LETTER_A : IntG mg "LETTER_A" 97
  c_LETTER_F : IntG mg "LETTER_F" 102
  c_MOST_BEATS : IntG mg "MOST_BEATS" 16
  c_MOST_COUNTED_BALLS : IntG mg "MOST_COUNTED_BALLS" 8
  c_MOST_COUNTED_BEATS : IntG mg "MOST_COUNTED_BEATS" 5
  c_MOST_HEIGHT : IntG mg "MOST_HEIGHT" 15
  c_MOST_THROWS : IntG mg "MOST_THROWS" 3
  c_NINE : IntG mg "NINE" 57
  c_OPENING : IntG mg "OPENING" 91
  c_ZERO : IntG mg "ZERO" 48
  b_len : mg "len" = none
  b_list : mg "list" = none
  b_max : mg "max" = none
  b_range : mg "range" = none
  b_sorted : mg "sorted" = none
  b_sum : mg "sum" = none
end Jp

set_option Elab.async false
set_option linter.all false
set_option maxRecDepth 100000
set_option maxHeartbeats 4000000
namespace Jp
open PySem PySem.Spec PyProof.Rows L2
section
variable {P : Program} {w : World} {K : PySem.W.Frag} {mg : Str → Option Value} {base : Heap}
def sp_height_of (_ : PySem.W.Frag) : Sp := fun vs H Q _ => ∃ z : Int, vs = [.int z] ∧ Q (.int (Jm.hI z)) H
theorem sc_height_of : FnScope ["byte"] ["byte"] (defScope s_height_of) := ⟨rfl, rfl, rfl, by decide +kernel, rfl, by decide +kernel, by decide +kernel⟩
theorem ok_height_of {f : Addr} {fd : FuncData} (F : Fun K "height_of" "height_of" s_height_of f fd) (T : Txt mg) : FnOk P w K mg base CX0 1 f fd ["byte"] (sp_height_of K) := by
  have sc := sc_height_of
  refine F.ok sc (fun vs H Q E h => ?_) (fun cdv A outer s H vs Q E hr h => ?_)
  · obtain ⟨z, rfl, _⟩ := h
    rfl
  · obtain ⟨z, rfl, k⟩ := h
    refine ⟨_, (pss_cons (ps_if (pt_chain op_le op_le (pgl T.c_ZERO) (pv 0) (pgl T.c_NINE)) (pss_one (ps_ret (pe_op op_sub (pv 0) (pgl T.c_ZERO)))) pss_nil)
      (pss_cons (ps_if (pt_chain op_le op_le (pgl T.c_LETTER_A) (pv 0) (pgl T.c_LETTER_F)) (pss_one (ps_ret (pe_op op_add (pe_op op_sub (pv 0) (pgl T.c_LETTER_A)) pe_int))) pss_nil)
      (pss_one (ps_ret (pe_un un_neg pe_int))))), ?_⟩
    have fin : ∀ i : Int, Jm.hI z = i → Q (.int i) H := fun i e => by rw [← e]; exact k
    refine ⟨_, rfl, _, _, rfl, rfl, _, rfl, ite2 (fun h1 => ⟨_, _, rfl, rfl, _, rfl, ite2 (fun h2 => ⟨_, rfl, _, _, rfl, rfl, fin _ ?_⟩) (fun h2 => ?_)⟩) (fun h1 => ⟨_, rfl, iteF ?_⟩)⟩
    · simp only [decide_eq_true_eq] at h1 h2
      unfold Jm.hI
      rw [if_pos ⟨h1, h2⟩]
    all_goals
      refine ⟨_, rfl, _, _, rfl, rfl, _, rfl, ite2 (fun h3 => ⟨_, _, rfl, rfl, _, rfl, ite2 (fun h4 => ⟨_, rfl, _, _, rfl, rfl, _, _, rfl, rfl, fin _ ?_⟩) (fun h4 => ⟨_, rfl, fin _ ?_⟩)⟩) (fun h3 => ⟨_, rfl, iteF ⟨_, rfl, fin _ ?_⟩⟩)⟩
      all_goals
        simp only [decide_eq_true_eq] at *
        unfold Jm.hI
        split <;> (try split) <;> omega
end
end Jp

set_option Elab.async false
set_option linter.all false
set_option maxRecDepth 100000
set_option maxHeartbeats 4000000
namespace Jp
open PySem PySem.Spec PyProof.Rows L2
section
variable {P : Program} {w : World} {K : PySem.W.Frag} {mg : Str → Option Value} {base : Heap}
def sp_bracket_fault (K : PySem.W.Frag) : Sp := fun vs H Q _ => ∃ (a : Addr) (t : List Int) (p : Nat), vs = [.ref a, .int (p : Nat)] ∧ SqL K H a (t.map V.int) ∧ Jm.Ok8 t ∧ t.length ≤ 64 ∧ p < t.length ∧
  (∀ e, Jug.handIn (p + 1) (Jm.by8 (t.drop (p + 1))) [] = .error e → Q (.int (e : Nat)) H) ∧ (∀ x, Jug.handIn (p + 1) (Jm.by8 (t.drop (p + 1))) [] = .ok x → Q (.int (-1)) H)
theorem sc_bracket_fault : FnScope ["t", "start", "place", "held"] ["t", "start"] (defScope s_bracket_fault) := ⟨rfl, rfl, rfl, by decide +kernel, rfl, by decide +kernel, by decide +kernel⟩
theorem ok_bracket_fault {f : Addr} {fd : FuncData} (F : Fun K "bracket_fault" "bracket_fault" s_bracket_fault f fd) (T : Txt mg) (d_height_of : Def P w K mg base "height_of" ["byte"] 1 (sp_height_of K)) : FnOk P w K mg base CX0 2 f fd ["t", "start"] (sp_bracket_fault K) := by
  have sc := sc_bracket_fault
  refine F.ok sc (fun vs H Q E h => ?_) (fun cdv A outer s H vs Q E hr h => ?_)
  · obtain ⟨a, t, p, rfl, _⟩ := h
    rfl
  · obtain ⟨a, t, p, rfl, hS, h8, h64, hp, kE, kO⟩ := h
    refine ⟨_, (pss_cons (ps_for PassesOwn.never rfl (pi_range2 rfl T.b_range (pa_cons (pe_op op_add (pv 1) pe_int) (pa_cons (pe_callB call_len_seq (by rfl) T.b_len PySem.boot_len (pa_cons (pv 0) pa_nil)) pa_nil))) (pg_name (i := 2) sc.nd rfl (by first | exact Or.inl rfl | exact Or.inr rfl))
      (pss_cons (ps_set (i := 3) sc.nd rfl (by first | exact Or.inl rfl | exact Or.inr rfl) (pe_op op_sub (pe_op op_sub (pv 2) (pv 1)) pe_int))
      (pss_cons (ps_if (pt_cmp (pc_eqI (pe_ix ix_list (pv 0) (pv 2) (fun _ _ => rfl)) (pgl T.c_CLOSING))) (pss_one (ps_ret (pe_ifExp (pt_cmp (pc_ge (pv 3) pe_int)) (pe_un un_neg pe_int) (pv 2)))) pss_nil)
      (pss_one (ps_if (pw_or (pt_cmp (pc_eqI (pv 3) (pgl T.c_MOST_THROWS))) (pw_or1 (pt_cmp (pc_lt (pcall d_height_of (hr.mono (by decide)) (pa_cons (pe_ix ix_list (pv 0) (pv 2) (fun _ _ => rfl)) pa_nil)) pe_int)))).pt (pss_one (ps_ret (pv 2))) pss_nil)))))
      (pss_one (ps_ret (pe_callB call_len_seq (by rfl) T.b_len PySem.boot_len (pa_cons (pv 0) pa_nil))))), ?_⟩
    have hl : (t.map V.int).length = t.length := by simp
    refine ⟨_, rfl, _, _, rfl, rfl, _, rfl, _, _, rfl, .inl hS, _, _, rfl, ⟨by omega, by omega, by omega, by omega⟩, ?_⟩
    refine for_range (lo := (p : Int) + 1) (n := (((t.map V.int).length : Int) - ((p : Int) + 1)).toNat) (fun i σ H' => H' = H ∧ ∃ v2 v3, σ = [some (.ref a), some (.int p), v2, v3] ∧ ∃ l : List Nat, l.length = i ∧ i ≤ 3 ∧
      Jug.handIn (p + 1) (Jm.by8 (t.drop (p + 1))) [] = Jug.handIn (p + 1 + i) (Jm.by8 (t.drop (p + 1 + i))) l) ⟨rfl, none, none, rfl, [], rfl, Nat.zero_le _, rfl⟩ ?_ ?_
    · rintro i σ H' hi ⟨rfl, v2, v3, rfl, l, hli, hi3, eh⟩
      have hpl : p + 1 + i < t.length := by omega
      obtain ⟨z, r, ed, ez⟩ := Jm.drop_cons hpl
      obtain ⟨z0, z1⟩ := h8 z (List.mem_of_getElem? ez)
      have er : r = t.drop (p + 1 + (i + 1)) := by
        have := congrArg List.tail ed
        rw [List.tail_drop] at this
        exact this.symm
      rw [ed] at eh
      have hat : atI (t.map V.int) ((p : Int) + 1 + (i : Int)) = some (V.int z) := at_of (j := p + 1 + i) (by omega) (by rw [List.getElem?_map, ez]; rfl)
      refine ⟨_, rfl, _, rfl, _, _, rfl, rfl, _, _, rfl, rfl, ?_⟩
      refine ⟨_, rfl, _, rfl, a, _, _, _, rfl, rfl, hS, hat, _, _, rfl, rfl, _, rfl, ite2 (fun hc => ?_) (fun hc => ?_)⟩
      · have hz : z = 93 := of_decide_eq_true hc
        rw [Jm.hand_close _ _ _ hz] at eh
        refine ⟨_, rfl, _, _, rfl, rfl, _, rfl, ite2 (fun h2 => ⟨_, rfl, ?_⟩) (fun h2 => ⟨_, rfl, ?_⟩)⟩
        · have h2 := of_decide_eq_true h2
          rw [if_neg (by omega)] at eh
          exact kO _ eh
        · have h2 : ¬ _ := fun q => h2 (decide_eq_true q)
          rw [if_pos (by omega)] at eh
          have := kE _ eh
          have e2 : ((p + 1 + i : Nat) : Int) = (p : Int) + 1 + (i : Int) := by omega
          rw [e2] at this
          exact this
      · have hz : ¬ z = 93 := fun q => hc (decide_eq_true q)
        have bad : (3 ≤ l.length ∨ Jm.hI z < 1) → Q (.int ((p : Int) + 1 + (i : Int))) H' := fun hb => by
          rw [Jm.hand_bad _ _ _ z0 z1 hz hb] at eh
          have := kE _ eh
          have e2 : ((p + 1 + i : Nat) : Int) = (p : Int) + 1 + (i : Int) := by omega
          rw [e2] at this
          exact this
        refine ⟨_, rfl, _, _, rfl, rfl, _, rfl, ite2 (fun h3 => ?_) (fun h3 => ?_)⟩
        · have h3 := of_decide_eq_true h3
          exact ⟨_, rfl, bad (by omega)⟩
        · have h3 : ¬ _ := fun q => h3 (decide_eq_true q)
          refine ⟨_, rfl, _, rfl, a, _, _, _, rfl, rfl, hS, hat, z, rfl, _, _, rfl, rfl, _, rfl, ite2 (fun h4 => ?_) (fun h4 => ?_)⟩
          · have h4 := of_decide_eq_true h4
            exact ⟨_, rfl, bad (.inr h4)⟩
          · have h4 : ¬ _ := fun q => h4 (decide_eq_true q)
            rw [Jm.hand_go _ _ _ z0 z1 hz (by omega) (by omega), er] at eh
            exact ⟨rfl, _, _, rfl, _, by simp [hli], by omega, eh⟩
    · rintro σ H' ⟨rfl, v2, v3, rfl, l, hli, hi3, eh⟩
      have e1 : p + 1 + (((t.map V.int).length : Int) - ((p : Int) + 1)).toNat = t.length := by omega
      rw [e1, List.drop_length, Jm.hand_nil] at eh
      have := kE _ eh
      refine ⟨_, rfl, _, _, rfl, .inl hS, ?_⟩
      rw [hl]
      exact this
end
end Jp

set_option Elab.async false
set_option linter.all false
set_option maxRecDepth 100000
set_option maxHeartbeats 4000000
namespace Jp
open PySem PySem.Spec PyProof.Rows L2
section
variable {P : Program} {w : World} {K : PySem.W.Frag} {mg : Str → Option Value} {base : Heap}
def sp_beat_fault (K : PySem.W.Frag) : Sp := fun vs H Q _ => ∃ (a : Addr) (t : List Int) (p : Nat), vs = [.ref a, .int (p : Nat)] ∧ SqL K H a (t.map V.int) ∧ Jm.Ok8 t ∧ t.length ≤ 64 ∧ p < t.length ∧
  (∀ e, Jm.stepIn p (Jm.by8 (t.drop p)) = .error e → Q (.int (e : Nat)) H) ∧ (∀ x, Jm.stepIn p (Jm.by8 (t.drop p)) = .ok x → Q (.int (-1)) H)
theorem sc_beat_fault : FnScope ["t", "start"] ["t", "start"] (defScope s_beat_fault) := ⟨rfl, rfl, rfl, by decide +kernel, rfl, by decide +kernel, by decide +kernel⟩
theorem ok_beat_fault {f : Addr} {fd : FuncData} (F : Fun K "beat_fault" "beat_fault" s_beat_fault f fd) (T : Txt mg) (d_bracket_fault : Def P w K mg base "bracket_fault" ["t", "start"] 2 (sp_bracket_fault K)) (d_height_of : Def P w K mg base "height_of" ["byte"] 1 (sp_height_of K)) : FnOk P w K mg base CX0 3 f fd ["t", "start"] (sp_beat_fault K) := by
  have sc := sc_beat_fault
  refine F.ok sc (fun vs H Q E h => ?_) (fun cdv A outer s H vs Q E hr h => ?_)
  · obtain ⟨a, t, p, rfl, _⟩ := h
    rfl
  · obtain ⟨a, t, p, rfl, hS, h8, h64, hp, kE, kO⟩ := h
    refine ⟨_, (pss_cons (ps_if (pt_cmp (pc_eqI (pe_ix ix_list (pv 0) (pv 1) (fun _ _ => rfl)) (pgl T.c_OPENING))) (pss_one (ps_ret (pcall d_bracket_fault (hr.mono (by decide)) (pa_cons (pv 0) (pa_cons (pv 1) pa_nil))))) pss_nil)
      (pss_one (ps_ret (pe_ifExp (pt_cmp (pc_ge (pcall d_height_of (hr.mono (by decide)) (pa_cons (pe_ix ix_list (pv 0) (pv 1) (fun _ _ => rfl)) pa_nil)) pe_int)) (pe_un un_neg pe_int) (pv 1))))), ?_⟩
    obtain ⟨z, r, ed, ez⟩ := Jm.drop_cons hp
    obtain ⟨z0, z1⟩ := h8 z (List.mem_of_getElem? ez)
    have hat : atI (t.map V.int) (p : Int) = some (V.int z) := at_of (j := p) rfl (by rw [List.getElem?_map, ez]; rfl)
    refine ⟨_, rfl, _, rfl, a, _, _, _, rfl, rfl, hS, hat, _, _, rfl, rfl, _, rfl, ite2 (fun hc => ?_) (fun hc => ?_)⟩
    · have hz : z = 91 := of_decide_eq_true hc
      rw [Jm.step_open ez hz] at kE kO
      exact ⟨_, rfl, _, rfl, a, t, p, rfl, hS, h8, h64, hp, kE, kO⟩
    · have hz : ¬ z = 91 := fun q => hc (decide_eq_true q)
      refine ⟨_, rfl, _, rfl, a, _, _, _, rfl, rfl, hS, hat, z, rfl, _, _, rfl, rfl, _, rfl, ite2 (fun h4 => ?_) (fun h4 => ?_)⟩
      · have h4 : 0 ≤ Jm.hI z := of_decide_eq_true h4
        obtain ⟨x, e⟩ := Jm.step_dig ez z0 z1 hz h4
        exact ⟨_, rfl, kO _ e⟩
      · have h4 : ¬ 0 ≤ Jm.hI z := fun q => h4 (decide_eq_true q)
        exact ⟨_, rfl, kE _ (Jm.step_none ez z0 z1 hz (by omega))⟩
end
end Jp

set_option Elab.async false
set_option linter.all false
set_option maxRecDepth 100000
set_option maxHeartbeats 4000000
namespace Jp
open PySem PySem.Spec PyProof.Rows L2
section
variable {P : Program} {w : World} {K : PySem.W.Frag} {mg : Str → Option Value} {base : Heap}
def sp_beat_end (K : PySem.W.Frag) : Sp := fun vs H Q _ => ∃ (a : Addr) (t : List Int) (p q : Nat) (x : Jug.Beat) (s : Jug.Bytes), vs = [.ref a, .int (p : Nat)] ∧ SqL K H a (t.map V.int) ∧ Jm.Ok8 t ∧ t.length ≤ 64 ∧ p < t.length ∧
  Jm.stepIn p (Jm.by8 (t.drop p)) = .ok (x, q, s) ∧ Q (.int (q : Nat)) H
theorem sc_beat_end : FnScope ["t", "start"] ["t", "start"] (defScope s_beat_end) := ⟨rfl, rfl, rfl, by decide +kernel, rfl, by decide +kernel, by decide +kernel⟩
theorem ok_beat_end {f : Addr} {fd : FuncData} (F : Fun K "beat_end" "beat_end" s_beat_end f fd) (T : Txt mg) : FnOk P w K mg base CX0 1 f fd ["t", "start"] (sp_beat_end K) := by
  have sc := sc_beat_end
  refine F.ok sc (fun vs H Q E h => ?_) (fun cdv A outer s H vs Q E hr h => ?_)
  · obtain ⟨a, t, p, q, x, b, rfl, _⟩ := h
    rfl
  · obtain ⟨a, t, p, q, x, b, rfl, hS, h8, h64, hp, hs, k⟩ := h
    refine ⟨_, (pss_cons (ps_if (pt_cmp (pc_eqI (pe_ix ix_list (pv 0) (pv 1) (fun _ _ => rfl)) (pgl T.c_OPENING))) (pss_one (ps_ret (pe_op op_add (pe_bm PySem.F.plainAttrs_list PySem.F.slot_list_index PySem.F.type_list_index mt_index3 (pv 0) (pa_cons (pgl T.c_CLOSING) (pa_cons (pv 1) pa_nil))) pe_int))) pss_nil)
      (pss_one (ps_ret (pe_op op_add (pv 1) pe_int)))), ?_⟩
    obtain ⟨z, r, ed, ez⟩ := Jm.drop_cons hp
    have hat : atI (t.map V.int) (p : Int) = some (V.int z) := at_of (j := p) rfl (by rw [List.getElem?_map, ez]; rfl)
    refine ⟨_, rfl, _, rfl, a, _, _, _, rfl, rfl, hS, hat, _, _, rfl, rfl, _, rfl, ite2 (fun hc => ?_) (fun hc => ?_)⟩
    · have hz : z = 91 := of_decide_eq_true hc
      subst hz
      obtain ⟨q1, q2, q3, q4⟩ := Jm.step_index h8 ez hs
      refine ⟨_, rfl, .inl ⟨rfl, _, hS⟩, _, rfl, a, t, 93, p, q - 1, rfl, rfl, hS, q2, q3, q4, _, _, rfl, rfl, ?_⟩
      have e : (((q - 1 : Nat) : Int) + 1) = (q : Int) := by omega
      have k2 : Q (.int (((q - 1 : Nat) : Int) + 1)) H := by rw [e]; exact k
      exact k2
    · have hz : ¬ z = 91 := fun q => hc (decide_eq_true q)
      have e := Jm.step_single h8 ez hz hs
      subst e
      exact ⟨_, rfl, _, _, rfl, rfl, k⟩
end
end Jp

set_option Elab.async false
set_option linter.all false
set_option maxRecDepth 100000
set_option maxHeartbeats 4000000
namespace Jp
open PySem PySem.Spec PyProof.Rows L2
section
variable {P : Program} {w : World} {K : PySem.W.Frag} {mg : Str → Option Value} {base : Heap}
def sp_text_fault (K : PySem.W.Frag) : Sp := fun vs H Q _ => ∃ (a : Addr) (t : List Int), vs = [.ref a] ∧ SqL K H a (t.map V.int) ∧ Jm.Ok8 t ∧ t.length ≤ 64 ∧
  (∀ e, Jug.read (Jm.by8 t) = .error e → Q (.int (e : Nat)) H) ∧ (∀ x, Jug.read (Jm.by8 t) = .ok x → Q (.int (-1)) H)
theorem sc_text_fault : FnScope ["t", "begun", "place", "fault"] ["t"] (defScope s_text_fault) := ⟨rfl, rfl, rfl, by decide +kernel, rfl, by decide +kernel, by decide +kernel⟩
theorem ok_text_fault {f : Addr} {fd : FuncData} (F : Fun K "text_fault" "text_fault" s_text_fault f fd) (T : Txt mg) (d_beat_fault : Def P w K mg base "beat_fault" ["t", "start"] 3 (sp_beat_fault K)) (d_beat_end : Def P w K mg base "beat_end" ["t", "start"] 1 (sp_beat_end K)) : FnOk P w K mg base CX0 4 f fd ["t"] (sp_text_fault K) := by
  have sc := sc_text_fault
  refine F.ok sc (fun vs H Q E h => ?_) (fun cdv A outer s H vs Q E hr h => ?_)
  · obtain ⟨a, t, rfl, _⟩ := h
    rfl
  · obtain ⟨a, t, rfl, hS, h8, h64, kE, kO⟩ := h
    refine ⟨_, (pss_cons (ps_if (pt_cmp (pc_eqI (pe_callB call_len_seq (by rfl) T.b_len PySem.boot_len (pa_cons (pv 0) pa_nil)) pe_int)) (pss_one (ps_ret pe_int)) pss_nil)
      (pss_cons (ps_set (i := 1) sc.nd rfl (by first | exact Or.inl rfl | exact Or.inr rfl) pe_int)
      (pss_cons (ps_set (i := 2) sc.nd rfl (by first | exact Or.inl rfl | exact Or.inr rfl) pe_int)
      (pss_cons (ps_while PassesOwn.never (pt_cmp (pc_lt (pv 2) (pe_callB call_len_seq (by rfl) T.b_len PySem.boot_len (pa_cons (pv 0) pa_nil))))
      (pss_cons (ps_if (pt_cmp (pc_eqI (pv 1) (pgl T.c_MOST_BEATS))) (pss_one (ps_ret (pv 2))) pss_nil)
      (pss_cons (ps_set (i := 3) sc.nd rfl (by first | exact Or.inl rfl | exact Or.inr rfl) (pcall d_beat_fault (hr.mono (by decide)) (pa_cons (pv 0) (pa_cons (pv 2) pa_nil))))
      (pss_cons (ps_if (pt_cmp (pc_ge (pv 3) pe_int)) (pss_one (ps_ret (pv 3))) pss_nil)
      (pss_cons (ps_aug (i := 1) sc.nd rfl (by first | exact Or.inl rfl | exact Or.inr rfl) pe_int ip_add)
      (pss_one (ps_set (i := 2) sc.nd rfl (by first | exact Or.inl rfl | exact Or.inr rfl) (pcall d_beat_end (hr.mono (by decide)) (pa_cons (pv 0) (pa_cons (pv 2) pa_nil))))))))))
      (pss_one (ps_ret (pe_un un_neg pe_int))))))), ?_⟩
    have hl : (t.map V.int).length = t.length := by simp
    refine ⟨_, rfl, _, _, rfl, .inl hS, _, _, rfl, rfl, _, rfl, ite2 (fun hc => ?_) (fun hc => ?_)⟩
    · have hc : ((t.map V.int).length : Int) = 0 := of_decide_eq_true hc
      have e0 : t = [] := List.eq_nil_of_length_eq_zero (by omega)
      subst e0
      exact kE 0 (Jm.At.start []).last
    · have hc : ¬ ((t.map V.int).length : Int) = 0 := fun q => hc (decide_eq_true q)
      refine ⟨fun m σ H' => H' = H ∧ ∃ (pl : Nat) (v3 : Option V) (l : Jug.Pattern), σ = [some (.ref a), some (.int (l.length : Nat)), some (.int (pl : Nat)), v3] ∧ Jm.At t pl l ∧ m = t.length - pl, ⟨_, rfl, 0, none, [], rfl, Jm.At.start t, rfl⟩, ?_⟩
      rintro m σ H' ⟨rfl, pl, v3, l, rfl, hAt, rfl⟩
      refine ⟨_, rfl, _, rfl, _, _, rfl, .inl hS, _, _, rfl, rfl, _, rfl, ite2 (fun hc => ?_) (fun hc => ?_)⟩
      · have hpl : pl < t.length := by have := of_decide_eq_true hc; omega
        refine ⟨fun σ' H'' => ∃ m', m' < t.length - pl ∧ (H'' = H' ∧ ∃ (pl : Nat) (v3 : Option V) (l : Jug.Pattern), σ' = [some (.ref a), some (.int (l.length : Nat)), some (.int (pl : Nat)), v3] ∧ Jm.At t pl l ∧ m' = t.length - pl), fun _ _ h => h, ?_⟩
        refine ⟨_, rfl, _, _, rfl, rfl, _, rfl, ite2 (fun h1 => ?_) (fun h1 => ?_)⟩
        · have h1 := of_decide_eq_true h1
          exact ⟨_, rfl, kE _ (hAt.long hpl (by omega))⟩
        · have h1 : ¬ _ := fun q => h1 (decide_eq_true q)
          have h16 : l.length ≠ 16 := by omega
          refine ⟨_, rfl, _, rfl, a, t, pl, rfl, hS, h8, h64, hpl, fun e he => ?_, fun x hx => ?_⟩
          · refine ⟨_, rfl, _, _, rfl, rfl, _, rfl, ite2 (fun h2 => ⟨_, rfl, kE _ (hAt.err hpl h16 he)⟩) (fun h2 => ?_)⟩
            exact absurd (decide_eq_true (show (0 : Int) ≤ (e : Nat) by omega)) h2
          · obtain ⟨x, q, sb⟩ := x
            obtain ⟨hA2, hlt⟩ := hAt.next h8 hpl h16 hx
            refine ⟨_, rfl, _, _, rfl, rfl, _, rfl, ite2 (fun h2 => ?_) (fun h2 => ?_)⟩
            · have h2 := of_decide_eq_true h2
              omega
            · refine ⟨_, rfl, _, _, rfl, rfl, ?_⟩
              refine ⟨_, rfl, _, rfl, a, t, pl, q, x, sb, rfl, hS, h8, h64, hpl, hx, ?_⟩
              have el : ((l ++ [x]).length : Int) = (l.length : Int) + 1 := by simp
              exact ⟨t.length - q, by have := hA2.1; omega, rfl, q, some (.int (-1)), l ++ [x], by rw [el]; rfl, hA2, rfl⟩
      · have hpl : pl = t.length := by
          have : ¬ ((pl : Int) < ((t.map V.int).length : Int)) := fun q => hc (decide_eq_true q)
          have := hAt.1
          omega
        subst hpl
        have hr := hAt.last
        rw [if_neg (fun e => by have := hAt.2.2.1.mpr e; omega)] at hr
        exact ⟨_, rfl, kO _ hr⟩
end
end Jp

set_option Elab.async false
set_option linter.all false
set_option maxRecDepth 100000
set_option maxHeartbeats 4000000
namespace Jp
open PySem PySem.Spec PyProof.Rows L2
section
variable {P : Program} {w : World} {K : PySem.W.Frag} {mg : Str → Option Value} {base : Heap}
def sp_read_beats (K : PySem.W.Frag) : Sp := fun vs H Q _ => ∃ (a : Addr) (t : List Int) (p : Jug.Pattern), vs = [.ref a] ∧ SqL K H a (t.map V.int) ∧ Jm.Ok8 t ∧ t.length ≤ 64 ∧ Jug.read (Jm.by8 t) = .ok p ∧
  ∀ v H', Same H H' → PatAt H' v p → Q v H'
theorem sc_read_beats : FnScope ["t", "beats", "place", "end", "heights", "byte", "height"] ["t"] (defScope s_read_beats) := ⟨rfl, rfl, rfl, by decide +kernel, rfl, by decide +kernel, by decide +kernel⟩
theorem ok_read_beats {f : Addr} {fd : FuncData} (F : Fun K "read_beats" "read_beats" s_read_beats f fd) (T : Txt mg) (d_beat_end : Def P w K mg base "beat_end" ["t", "start"] 1 (sp_beat_end K)) (d_height_of : Def P w K mg base "height_of" ["byte"] 1 (sp_height_of K)) : FnOk P w K mg base CX0 2 f fd ["t"] (sp_read_beats K) := by
  have sc := sc_read_beats
  refine F.ok sc (fun vs H Q E h => ?_) (fun cdv A outer s H vs Q E hr h => ?_)
  · obtain ⟨a, t, p, rfl, _⟩ := h
    rfl
  · obtain ⟨a, t, p, rfl, hS, h8, h64, hrd, k⟩ := h
    refine ⟨_, (pss_cons (ps_set (i := 1) sc.nd rfl (by first | exact Or.inl rfl | exact Or.inr rfl) (pe_lst pa_nil))
      (pss_cons (ps_set (i := 2) sc.nd rfl (by first | exact Or.inl rfl | exact Or.inr rfl) pe_int)
      (pss_cons (ps_while PassesOwn.never (pt_cmp (pc_lt (pv 2) (pe_callB call_len_seq (by rfl) T.b_len PySem.boot_len (pa_cons (pv 0) pa_nil))))
      (pss_cons (ps_set (i := 3) sc.nd rfl (by first | exact Or.inl rfl | exact Or.inr rfl) (pcall d_beat_end (hr.mono (by decide)) (pa_cons (pv 0) (pa_cons (pv 2) pa_nil))))
      (pss_cons (ps_setLc (i := 4) (hc := rfl) (hN := sc.nd) (hy := rfl) (hyl := rfl) (hsw := sw_true rfl rfl rfl (by decide +kernel)) (pi_list (pe_slice sl_list (pv 0) (po_some (pv 2)) (po_some (pv 3)))) (own := [("byte", 5)]) (blkOk_by (N := ["t", "beats", "place", "end", "heights", "byte", "height"]) (sc := defScope s_read_beats) (by decide +kernel)) (fun _ _ _ _ _ => pg_name (i := 5) sc.nd rfl (by first | exact Or.inl rfl | exact Or.inr rfl)) (fun _ _ _ _ _ => pts_nil) (fun _ _ _ _ _ => (pcall d_height_of (hr.mono (by decide)) (pa_cons (pv 5) pa_nil))))
      (pss_cons (ps_expr (pe_bm PySem.F.plainAttrs_list PySem.F.slot_list_append PySem.F.type_list_append mt_append (pv 1) (pa_cons (pe_sortedR rfl T.b_sorted (pa_cons (pe_lc rfl sc.nd (pi_list (pv 4)) (own := [("height", 6)]) (blkOk_by (N := ["t", "beats", "place", "end", "heights", "byte", "height"]) (sc := defScope s_read_beats) (by decide +kernel)) (fun _ _ _ _ _ => pg_name (i := 6) sc.nd rfl (by first | exact Or.inl rfl | exact Or.inr rfl)) (fun _ _ _ _ _ => (pts_one (pt_cmp (pc_gt (pv 6) pe_int)))) (fun _ _ _ _ _ => (pv 6))) pa_nil)) pa_nil)))
      (pss_one (ps_set (i := 2) sc.nd rfl (by first | exact Or.inl rfl | exact Or.inr rfl) (pv 3)))))))
      (pss_one (ps_ret (pv 1)))))), ?_⟩
    have hl : (t.map V.int).length = t.length := by simp
    refine ⟨Nat.zero_le _, fun D hD => ?_⟩
    refine ⟨fun m σ H' => Same H H' ∧ ∃ (pl : Nat) (v3 v4 v5 v6 : Option V) (l : Jug.Pattern) (bs : List V), σ = [some (.ref a), some (.ref D), some (.int (pl : Nat)), v3, v4, v5, v6] ∧ Jm.At t pl l ∧ m = t.length - pl ∧
      H' D = some (.lst bs) ∧ Paired (fun v b => BeatAt H' v b ∧ v ≠ .ref D) bs l, ⟨_, (Same.refl H).new hD, 0, none, none, none, none, [], [], rfl, Jm.At.start t, rfl, upd_same, .nil⟩, ?_⟩
    rintro m σ H' ⟨s1, pl, v3, v4, v5, v6, l, bs, rfl, hAt, rfl, hDv, hP⟩
    refine ⟨_, rfl, _, rfl, _, _, rfl, .inl (s1.seq hS), _, _, rfl, rfl, _, rfl, ite2 (fun hc => ?_) (fun hc => ?_)⟩
    · have hpl : pl < t.length := by have := of_decide_eq_true hc; omega
      refine ⟨fun σ' H'' => ∃ m', m' < t.length - pl ∧ (Same H H'' ∧ ∃ (pl : Nat) (v3 v4 v5 v6 : Option V) (l : Jug.Pattern) (bs : List V), σ' = [some (.ref a), some (.ref D), some (.int (pl : Nat)), v3, v4, v5, v6] ∧ Jm.At t pl l ∧ m' = t.length - pl ∧
        H'' D = some (.lst bs) ∧ Paired (fun v b => BeatAt H'' v b ∧ v ≠ .ref D) bs l), fun _ _ h => h, ?_⟩
      obtain ⟨x, q, sb, hx, h16⟩ : ∃ x q sb, Jm.stepIn pl (Jm.by8 (t.drop pl)) = .ok (x, q, sb) ∧ l.length ≠ 16 := by
        have h16 : l.length ≠ 16 := fun e => by
          rw [hAt.long hpl e] at hrd
          cases hrd
        cases hx : Jm.stepIn pl (Jm.by8 (t.drop pl)) with
        | error e =>
          rw [hAt.err hpl h16 hx] at hrd
          cases hrd
        | ok y => exact ⟨y.1, y.2.1, y.2.2, rfl, h16⟩
      obtain ⟨hA2, hlt⟩ := hAt.next h8 hpl h16 hx
      obtain ⟨seg, rest, e1, e2, e3, e4, e5, e6, e7, e8⟩ := Jm.step_ok (h8.drop pl) hx
      -- end = beat_end(t, place)
      refine ⟨_, rfl, _, rfl, a, t, pl, q, x, sb, rfl, s1.seq hS, h8, h64, hpl, hx, ?_⟩
      -- heights = [height_of(byte) for byte in t[place:end]]
      refine ⟨_, rfl, _, rfl, _, rfl, _, rfl, _, rfl, a, _, rfl, s1.seq hS, fun c hc0 => ?_⟩
      rw [cutV_seg (by omega) e1 e2]
      have n1 : ∀ b o, H' b = some o → (upd H' c (.lst (seg.map V.int))) b = some o := (Same.refl H').new hc0
      refine ⟨c, rfl, ⟨_, SqL.of upd_same⟩, fun D1 hD1 => lc_mapL hV (SqL.of upd_same) hD1 ?_ (fun _ => rfl) ?_ ?_⟩
      · rw [List.length_map]
        exact Nat.le_of_lt (small1000 (by omega))
      · intro i v H3 Qk hv s3 kk
        obtain ⟨z, ez, rfl⟩ := map_get hv
        exact ⟨_, rfl, z, rfl, kk _ (Same.refl _)⟩
      intro H2 s2 hD1v
      have s02 : Same H' H2 := fun b o e => s2 b o (n1 b o e)
      have ehv : (seg.map V.int).map hV = (seg.map Jm.hI).map V.int := by
        rw [List.map_map, List.map_map]
        rfl
      rw [ehv] at hD1v
      -- beats.append(sorted([height for height in heights if height > 0], reverse=True))
      refine ⟨_, rfl, .inl ⟨rfl, _, SqL.of (s02 _ _ hDv)⟩, ?_⟩
      refine ⟨_, rfl, D1, rfl, ⟨_, SqL.of hD1v⟩, fun D2 hD2 => lc_filterL posV (SqL.of hD1v) hD2 ?_ (by show 6 < 7; decide) (fun _ => rfl) ?_ ?_⟩
      · rw [List.length_map, List.length_map]
        exact Nat.le_of_lt (small1000 (by omega))
      · intro i v H3 Qk hv s3 kk
        obtain ⟨z, ez, rfl⟩ := map_get hv
        exact ⟨_, rfl, _, _, rfl, rfl, _, rfl, kk⟩
      intro H3 s3 hD2v
      rw [filter_pos] at hD2v
      refine ⟨D2, _, rfl, SqL.of hD2v, ?_, fun ns' r hp1 hp2 hr => ?_⟩
      · have := List.length_filter_le (fun z => decide (0 < z)) (seg.map Jm.hI)
        rw [List.length_map] at this
        omega
      have ens : ns'.map V.int = natsV x := by
        rw [natsV_int, e6, ← Jm.falling_ints (fun n hn => by have := e7.2 n hn; omega) hp1 hp2]
      rw [ens]
      have s03 : Same H' H3 := s02.trans s3
      have hD3 := s03 _ _ hDv
      have nrD : r ≠ D := (ne_of_none hD3 hr).symm
      refine ⟨D, bs, _, rfl, rfl, by rw [upd_ne nrD.symm]; exact hD3, ?_, ?_⟩
      · have := hP.length
        have := hAt.2.1
        exact small1000 (by omega)
      -- place = end
      refine ⟨_, rfl, t.length - q, by have := hA2.1; omega, ?_, q, _, _, _, _, l ++ [x], _, rfl, hA2, rfl, upd_same, ?_⟩
      · exact ((s1.trans s03).new hr).own hD
      · refine Paired.snoc (Paired.imp' (fun v b ⟨q1, q2⟩ => ⟨(q1.same (s03.new hr)).upd q2, q2⟩) hP) ⟨⟨r, rfl, ?_⟩, fun e => nrD (V.ref.inj e)⟩
        rw [upd_ne nrD, upd_same]
    · have hpl : pl = t.length := by
        have : ¬ ((pl : Int) < ((t.map V.int).length : Int)) := fun q => hc (decide_eq_true q)
        have := hAt.1
        omega
      subst hpl
      have hr := hAt.last
      rw [hrd] at hr
      have el : l = p := by
        by_cases e : l = []
        · rw [if_pos e] at hr
          cases hr
        · rw [if_neg e] at hr
          exact (Except.ok.inj hr).symm
      subst el
      exact ⟨_, rfl, k _ _ s1 ⟨D, bs, rfl, hDv, Paired.imp' (fun _ _ q => q.1) hP⟩⟩
end
end Jp

set_option Elab.async false
set_option linter.all false
set_option maxRecDepth 100000
set_option maxHeartbeats 4000000
namespace Jp
open PySem PySem.Spec PyProof.Rows L2
section
variable {P : Program} {w : World} {K : PySem.W.Frag} {mg : Str → Option Value} {base : Heap}
def sp_landing_counts (K : PySem.W.Frag) : Sp := fun vs H Q _ => ∃ (v : V) (p : Jug.Pattern), vs = [v] ∧ PatAt H v p ∧ (∀ b ∈ p, Jm.GoodBeat b) ∧ 1 ≤ p.length ∧ p.length ≤ 16 ∧
  ∀ (x : Addr) H', Same H H' → H x = none → H' x = some (.lst (natsV (Jm.cnt p.length (Jm.landKs p p.length)))) → Q (.ref x) H'
theorem sc_landing_counts : FnScope ["beats", "period", "landing", "start", "height"] ["beats"] (defScope s_landing_counts) := ⟨rfl, rfl, rfl, by decide +kernel, rfl, by decide +kernel, by decide +kernel⟩
theorem ok_landing_counts {f : Addr} {fd : FuncData} (F : Fun K "landing_counts" "landing_counts" s_landing_counts f fd) (T : Txt mg) : FnOk P w K mg base CX0 1 f fd ["beats"] (sp_landing_counts K) := by
  have sc := sc_landing_counts
  refine F.ok sc (fun vs H Q E h => ?_) (fun cdv A outer s H vs Q E hr h => ?_)
  · obtain ⟨v, p, rfl, _⟩ := h
    rfl
  · obtain ⟨v, p, rfl, ⟨x, ws, rfl, hx, hP⟩, hG, hp1, hp16, k⟩ := h
    refine ⟨_, (pss_cons (ps_set (i := 1) sc.nd rfl (by first | exact Or.inl rfl | exact Or.inr rfl) (pe_callB call_len_seq (by rfl) T.b_len PySem.boot_len (pa_cons (pv 0) pa_nil)))
      (pss_cons (ps_set (i := 2) sc.nd rfl (by first | exact Or.inl rfl | exact Or.inr rfl) (pe_op op_rep (pe_lst (pa_cons pe_int pa_nil)) (pv 1)))
      (pss_cons (ps_for PassesOwn.never rfl (pi_range1 rfl T.b_range (pa_cons (pv 1) pa_nil)) (pg_name (i := 3) sc.nd rfl (by first | exact Or.inl rfl | exact Or.inr rfl))
      (pss_one (ps_for PassesOwn.never rfl (pi_list (pe_ix ix_list (pv 0) (pv 3) (fun _ _ => rfl))) (pg_name (i := 4) sc.nd rfl (by first | exact Or.inl rfl | exact Or.inr rfl))
      (pss_one (ps_augS (pv 2) (pe_op op_mod (pe_op op_add (pv 3) (pv 4)) (pv 1)) get_list pe_int ip_add set_list)))))
      (pss_one (ps_ret (pv 2)))))), ?_⟩
    have hl := hP.length
    refine ⟨_, rfl, _, _, rfl, .inl (SqL.of hx), ?_⟩
    rw [hl]
    refine ⟨by show 1 ≤ sizeLine; decide, fun z hz => ⟨_, rfl, z, _, _, rfl, rfl, upd_same, by omega, by omega, by simp; exact Nat.le_of_lt (small1000 (by omega)), fun D hD => ?_⟩⟩
    have en : ((p.length : Int)).toNat = p.length := by omega
    rw [en, rep_zero]
    have s0 : Same H (upd H z (.lst [.int 0])) := (Same.refl H).new hz
    have hDH : H D = none := s0.free hD
    have s1 := s0.new (o := .lst (natsV (Jm.cnt p.length []))) hD
    refine ⟨_, rfl, _, rfl, by omega, by omega, ?_⟩
    rw [en]
    refine for_range (fun i σ H' => Same H H' ∧ ∃ v3 v4, σ = [some (.ref x), some (.int (p.length : Nat)), some (.ref D), v3, v4] ∧ H' D = some (.lst (natsV (Jm.cnt p.length (Jm.landKs p i))))) ⟨s1, none, none, rfl, upd_same⟩ ?_ ?_
    · rintro i σ H' hi ⟨s2, v3, v4, rfl, hDv⟩
      obtain ⟨y, b, e1, e2, e3, e4⟩ := PatAt.at (x := x) hP hi
      have hat : atI ws (0 + (i : Int)) = some (V.ref y) := at_of (j := i) (by omega) e1
      obtain ⟨g1, g2, g3⟩ := hG b (List.mem_of_getElem? e2)
      refine ⟨_, rfl, _, rfl, x, _, _, _, rfl, rfl, SqL.of (s2 _ _ hx), hat, y, rfl, ⟨_, SqL.of (s2 _ _ e4)⟩, ?_⟩
      refine for_list (xs := natsV b) (fun j σ H'' => Same H H'' ∧ ∃ v4, σ = [some (.ref x), some (.int (p.length : Nat)), some (.ref D), some (.int (0 + (i : Int))), v4] ∧ H'' D = some (.lst (natsV (Jm.cnt p.length (Jm.landKs p i ++ (b.take j).map fun h => (i + h) % p.length)))))
        ⟨s2, v4, rfl, by rw [List.take_zero, List.map_nil, List.append_nil]; exact hDv⟩ (fun j σ H'' _ ⟨s3, _⟩ => SqL.of (s3 _ _ e4)) ?_ ?_
      · rintro j w σ H'' hj ⟨s3, v5, rfl, hDw⟩
        obtain ⟨n, en', rfl⟩ := natsV_get hj
        have hlt : (i + n) % p.length < p.length := Nat.mod_lt _ hp1
        refine ⟨_, rfl, _, rfl, _, rfl, _, _, rfl, rfl, _, rfl, _, _, rfl, rfl, by show (0 : Int) < (p.length : Nat); omega, ?_⟩
        have em : (0 + (i : Int) + (n : Int)) % ((p.length : Nat) : Int) = (((i + n) % p.length : Nat) : Int) := by
          rw [Int.natCast_emod]
          congr 1
          omega
        refine ⟨D, _, (i + n) % p.length, _, rfl, congrArg V.int em, SqL.of hDw, natsV_at (Jm.cnt_at _ hlt), _, _, rfl, rfl, D, _, _, (i + n) % p.length, rfl, congrArg V.int em, hDw, ?_, ?_⟩
        · rw [natsV_length, Jm.cnt_length]
          exact ixN_nat hlt
        · refine ⟨s3.own hDH, _, rfl, ?_⟩
          rw [upd_same, bump_ok hlt, take_snoc en', List.map_append, ← List.append_assoc]
          rfl
      · rintro σ H'' ⟨s3, v5, rfl, hDw⟩
        refine ⟨s3, _, _, rfl, ?_⟩
        rw [natsV_length, List.take_length, ← e3] at hDw
        rw [Jm.landKs_succ]
        exact hDw
    · rintro σ H' ⟨s2, v3, v4, rfl, hDv⟩
      exact ⟨_, rfl, k D H' s2 hDH hDv⟩
end
end Jp

set_option Elab.async false
set_option linter.all false
set_option maxRecDepth 100000
set_option maxHeartbeats 4000000
namespace Jp
open PySem PySem.Spec PyProof.Rows L2
section
variable {P : Program} {w : World} {K : PySem.W.Frag} {mg : Str → Option Value} {base : Heap}
def sp_wrong_beat (K : PySem.W.Frag) : Sp := fun vs H Q _ => ∃ (v : V) (p : Jug.Pattern), vs = [v] ∧ PatAt H v p ∧ (∀ b ∈ p, Jm.GoodBeat b) ∧ 1 ≤ p.length ∧ p.length ≤ 16 ∧
  ∀ H', Same H H' → (∀ k, Jug.clash p = some k → Q (.int (k : Nat)) H') ∧ (Jug.clash p = none → Q (.int (-1)) H')
theorem sc_wrong_beat : FnScope ["beats", "landing", "beat"] ["beats"] (defScope s_wrong_beat) := ⟨rfl, rfl, rfl, by decide +kernel, rfl, by decide +kernel, by decide +kernel⟩
theorem ok_wrong_beat {f : Addr} {fd : FuncData} (F : Fun K "wrong_beat" "wrong_beat" s_wrong_beat f fd) (T : Txt mg) (d_landing_counts : Def P w K mg base "landing_counts" ["beats"] 1 (sp_landing_counts K)) : FnOk P w K mg base CX0 2 f fd ["beats"] (sp_wrong_beat K) := by
  have sc := sc_wrong_beat
  refine F.ok sc (fun vs H Q E h => ?_) (fun cdv A outer s H vs Q E hr h => ?_)
  · obtain ⟨v, p, rfl, _⟩ := h
    rfl
  · obtain ⟨v, p, rfl, hPat, hG, hp1, hp16, k⟩ := h
    refine ⟨_, (pss_cons (ps_set (i := 1) sc.nd rfl (by first | exact Or.inl rfl | exact Or.inr rfl) (pcall d_landing_counts (hr.mono (by decide)) (pa_cons (pv 0) pa_nil)))
      (pss_cons (ps_for PassesOwn.never rfl (pi_range1 rfl T.b_range (pa_cons (pe_callB call_len_seq (by rfl) T.b_len PySem.boot_len (pa_cons (pv 0) pa_nil)) pa_nil)) (pg_name (i := 2) sc.nd rfl (by first | exact Or.inl rfl | exact Or.inr rfl))
      (pss_one (ps_if (pt_cmp (pc_neI (pe_ix ix_list (pv 1) (pv 2) (fun _ _ => rfl)) (pe_callB call_len_seq (by rfl) T.b_len PySem.boot_len (pa_cons (pe_ix ix_list (pv 0) (pv 2) (fun _ _ => rfl)) pa_nil)))) (pss_one (ps_ret (pv 2))) pss_nil)))
      (pss_one (ps_ret (pe_un un_neg pe_int))))), ?_⟩
    refine ⟨_, rfl, v, p, rfl, hPat, hG, hp1, hp16, fun D H1 s1 hDn hD => ?_⟩
    obtain ⟨x, ws, rfl, hx, hP⟩ := hPat
    have hl := hP.length
    refine ⟨_, rfl, _, _, rfl, .inl (SqL.of (s1 _ _ hx)), ?_⟩
    rw [hl]
    refine ⟨_, rfl, by omega, by omega, ?_⟩
    have en : ((p.length : Int)).toNat = p.length := by omega
    rw [en]
    refine for_range (fun i σ H' => H' = H1 ∧ (∃ v3, σ = [some (.ref x), some (.ref D), v3]) ∧ ∀ j, j < i → Jug.landing p j = (p.getD j []).length) ⟨rfl, ⟨none, rfl⟩, fun j hj => absurd hj (by omega)⟩ ?_ ?_
    · rintro i σ H' hi ⟨rfl, ⟨v3, rfl⟩, hj⟩
      obtain ⟨y, b, e1, e2, e3, e4⟩ := PatAt.at (x := x) hP hi
      have hat : atI ws (0 + (i : Int)) = some (V.ref y) := at_of (j := i) (by omega) e1
      have hat2 : atI (natsV (Jm.cnt p.length (Jm.landKs p p.length))) (0 + (i : Int)) = some (V.int ((Jm.landKs p p.length).count i : Nat)) := at_of (j := i) (by omega) (natsV_at (Jm.cnt_at _ hi))
      rw [← Jm.landing_count] at hat2
      refine ⟨_, rfl, _, rfl, D, _, _, _, rfl, rfl, SqL.of hD, hat2, _, rfl, _, rfl, x, _, _, _, rfl, rfl, SqL.of (s1 _ _ hx), hat, _, _, rfl, .inl (SqL.of (s1 _ _ e4)), _, _, rfl, rfl, _, rfl, ite2 (fun hc => ?_) (fun hc => ?_)⟩
      · refine ⟨_, rfl, ?_⟩
        have hne : Jug.landing p i ≠ (p.getD i []).length := fun e => by
          rw [e3] at e
          have e : ((Jug.landing p i : Nat) : Int) = ((natsV b).length : Nat) := by rw [natsV_length, e]
          simp [e] at hc
        have hcl : Jug.clash p = some i := by
          unfold Jug.clash
          rw [List.find?_range_eq_some]
          refine ⟨by simpa using hne, by simpa using hi, fun j hj' => by simpa using hj j hj'⟩
        have := (k H' s1).1 i hcl
        rw [Int.zero_add]
        exact this
      · refine ⟨rfl, ⟨_, rfl⟩, fun j hj' => ?_⟩
        by_cases e : j = i
        · subst e
          have hc : ¬ ((!decide (((Jug.landing p j : Nat) : Int) = ((natsV b).length : Nat))) = true) := hc
          rw [e3]
          rw [natsV_length] at hc
          simp at hc
          omega
        · exact hj j (by omega)
    · rintro σ H' ⟨rfl, ⟨v3, rfl⟩, hj⟩
      have hcl : Jug.clash p = none := by
        unfold Jug.clash
        rw [List.find?_range_eq_none]
        intro j hj'
        simpa using hj j hj'
      exact ⟨_, rfl, (k H' s1).2 hcl⟩
end
end Jp

set_option Elab.async false
set_option linter.all false
set_option maxRecDepth 100000
set_option maxHeartbeats 4000000
namespace Jp
open PySem PySem.Spec PyProof.Rows L2
section
variable {P : Program} {w : World} {K : PySem.W.Frag} {mg : Str → Option Value} {base : Heap}
def sp_pattern_refusal (K : PySem.W.Frag) : Sp := fun vs H Q _ => ∃ (a : Addr) (t : List Int), vs = [.ref a] ∧ SqL K H a (t.map V.int) ∧ Jm.Ok8 t ∧ t.length ≤ 64 ∧
  ∀ v H', Same H H' → IntsAt H' v (Jm.refusal t) → Q v H'
theorem sc_pattern_refusal : FnScope ["t", "fault", "wrong"] ["t"] (defScope s_pattern_refusal) := ⟨rfl, rfl, rfl, by decide +kernel, rfl, by decide +kernel, by decide +kernel⟩
theorem ok_pattern_refusal {f : Addr} {fd : FuncData} (F : Fun K "pattern_refusal" "pattern_refusal" s_pattern_refusal f fd) (T : Txt mg) (d_text_fault : Def P w K mg base "text_fault" ["t"] 4 (sp_text_fault K)) (d_wrong_beat : Def P w K mg base "wrong_beat" ["beats"] 2 (sp_wrong_beat K)) (d_read_beats : Def P w K mg base "read_beats" ["t"] 2 (sp_read_beats K)) : FnOk P w K mg base CX0 5 f fd ["t"] (sp_pattern_refusal K) := by
  have sc := sc_pattern_refusal
  refine F.ok sc (fun vs H Q E h => ?_) (fun cdv A outer s H vs Q E hr h => ?_)
  · obtain ⟨a, t, rfl, _⟩ := h
    rfl
  · obtain ⟨a, t, rfl, hS, h8, h64, k⟩ := h
    refine ⟨_, (pss_cons (ps_set (i := 1) sc.nd rfl (by first | exact Or.inl rfl | exact Or.inr rfl) (pcall d_text_fault (hr.mono (by decide)) (pa_cons (pv 0) pa_nil)))
      (pss_cons (ps_if (pt_cmp (pc_ge (pv 1) pe_int)) (pss_one (ps_ret (pe_lst (pa_cons (pe_un un_neg pe_int) (pa_cons (pv 1) pa_nil))))) pss_nil)
      (pss_cons (ps_set (i := 2) sc.nd rfl (by first | exact Or.inl rfl | exact Or.inr rfl) (pcall d_wrong_beat (hr.mono (by decide)) (pa_cons (pcall d_read_beats (hr.mono (by decide)) (pa_cons (pv 0) pa_nil)) pa_nil)))
      (pss_cons (ps_if (pt_cmp (pc_ge (pv 2) pe_int)) (pss_one (ps_ret (pe_lst (pa_cons (pe_un un_neg pe_int) (pa_cons (pv 2) pa_nil))))) pss_nil)
      (pss_one (ps_ret (pe_lst pa_nil))))))), ?_⟩
    refine ⟨_, rfl, a, t, rfl, hS, h8, h64, fun e he => ?_, fun p hp => ?_⟩
    · refine ⟨_, rfl, _, _, rfl, rfl, _, rfl, ite2 (fun hc => ?_) (fun hc => ?_)⟩
      · refine ⟨_, rfl, _, rfl, by show 2 ≤ sizeLine; decide, fun z hz => k _ _ ((Same.refl H).new hz) ⟨z, rfl, ?_⟩⟩
        rw [upd_same]
        unfold Jm.refusal
        rw [he]
        rfl
      · exact absurd (decide_eq_true (show (0 : Int) ≤ (e : Nat) by omega)) hc
    · refine ⟨_, rfl, _, _, rfl, rfl, _, rfl, ite2 (fun hc => ?_) (fun hc => ?_)⟩
      · have hc := of_decide_eq_true hc
        omega
      · obtain ⟨hG, g1, g2⟩ := Jm.read_good h8 hp
        refine ⟨_, rfl, a, t, p, rfl, hS, h8, h64, hp, fun v H1 s1 hPat => ⟨v, p, rfl, hPat, hG, g1, g2, fun H2 s2 => ⟨fun c hcl => ?_, fun hcl => ?_⟩⟩⟩
        · refine ⟨_, rfl, _, _, rfl, rfl, _, rfl, ite2 (fun hd => ?_) (fun hd => ?_)⟩
          · refine ⟨_, rfl, _, rfl, by show 2 ≤ sizeLine; decide, fun z hz => k _ _ ((s1.trans s2).new hz) ⟨z, rfl, ?_⟩⟩
            rw [upd_same]
            unfold Jm.refusal
            rw [hp]
            dsimp only
            rw [hcl]
            rfl
          · exact absurd (decide_eq_true (show (0 : Int) ≤ (c : Nat) by omega)) hd
        · refine ⟨_, rfl, _, _, rfl, rfl, _, rfl, ite2 (fun hd => ?_) (fun hd => ?_)⟩
          · have hd := of_decide_eq_true hd
            omega
          · refine ⟨Nat.zero_le _, fun z hz => k _ _ ((s1.trans s2).new hz) ⟨z, rfl, ?_⟩⟩
            rw [upd_same]
            unfold Jm.refusal
            rw [hp]
            dsimp only
            rw [hcl]
            rfl
end
end Jp

set_option Elab.async false
set_option linter.all false
set_option maxRecDepth 100000
set_option maxHeartbeats 4000000
namespace Jp
open PySem PySem.Spec PyProof.Rows L2
section
variable {P : Program} {w : World} {K : PySem.W.Frag} {mg : Str → Option Value} {base : Heap}
def sp_most_throws_of (K : PySem.W.Frag) : Sp := fun vs H Q _ => ∃ (v : V) (p : Jug.Pattern), vs = [v] ∧ PatAt H v p ∧ 1 ≤ p.length ∧ p.length ≤ 16 ∧
  ∀ H', Same H H' → Q (.int (((p.map List.length).foldl max 0 : Nat) : Int)) H'
theorem sc_most_throws_of : FnScope ["beats", "beat"] ["beats"] (defScope s_most_throws_of) := ⟨rfl, rfl, rfl, by decide +kernel, rfl, by decide +kernel, by decide +kernel⟩
theorem ok_most_throws_of {f : Addr} {fd : FuncData} (F : Fun K "most_throws_of" "most_throws_of" s_most_throws_of f fd) (T : Txt mg) : FnOk P w K mg base CX0 1 f fd ["beats"] (sp_most_throws_of K) := by
  have sc := sc_most_throws_of
  refine F.ok sc (fun vs H Q E h => ?_) (fun cdv A outer s H vs Q E hr h => ?_)
  · obtain ⟨v, p, rfl, _⟩ := h
    rfl
  · obtain ⟨v, p, rfl, ⟨b, ws, rfl, hb, hP⟩, g1, g2, k⟩ := h
    refine ⟨_, (pss_one (ps_ret (pe_callB (cr_max rfl) (by rfl) T.b_max PyProof.Rows.boot_max (pa_cons (pe_lc rfl sc.nd (pi_list (pv 0)) (own := [("beat", 1)]) (blkOk_by (N := ["beats", "beat"]) (sc := defScope s_most_throws_of) (by decide +kernel)) (fun _ _ _ _ _ => pg_name (i := 1) sc.nd rfl (by first | exact Or.inl rfl | exact Or.inr rfl)) (fun _ _ _ _ _ => pts_nil) (fun _ _ _ _ _ => (pe_callB (call_lenK (K := K) rfl) (by rfl) T.b_len PySem.boot_len (pa_cons (pv 1) pa_nil)))) pa_nil)))), ?_⟩
    have hl := hP.length
    refine ⟨_, rfl, b, rfl, ⟨_, SqL.of hb⟩, fun D hD => lc_mapL (lenV H) (SqL.of hb) hD ?_ (fun _ => rfl) ?_ ?_⟩
    · exact Nat.le_of_lt (small1000 (by omega))
    · intro i v H4 Qk hv s4 kk
      obtain ⟨bt, e2, z, rfl, e4⟩ := Paired.getL hP hv
      refine ⟨_, rfl, _, _, rfl, .inl (SqL.of (s4 _ _ e4)), ?_⟩
      have := kk H4 (Same.refl _)
      unfold lenV at this
      dsimp only at this
      rw [e4] at this
      exact this
    intro H4 s4 hDv
    have em := lens_of hP
    rw [em] at hDv
    refine ⟨D, _, rfl, SqL.of hDv, by rw [List.length_map]; omega, fun m hm hge => ?_⟩
    obtain ⟨bm, hbm, rfl⟩ := List.mem_map.mp hm
    have ew : (p.map List.length).foldl max 0 = bm.length := Jm.foldl_max_eq (List.mem_map.mpr ⟨bm, hbm, rfl⟩) fun x hx => by
      obtain ⟨b', hb', rfl⟩ := List.mem_map.mp hx
      have := hge (b'.length : Int) (List.mem_map.mpr ⟨b', hb', rfl⟩)
      omega
    rw [← ew]
    exact k H4 s4
end
end Jp

set_option Elab.async false
set_option linter.all false
set_option maxRecDepth 100000
set_option maxHeartbeats 4000000
namespace Jp
open PySem PySem.Spec PyProof.Rows L2
section
variable {P : Program} {w : World} {K : PySem.W.Frag} {mg : Str → Option Value} {base : Heap}
def sp_row_of (K : PySem.W.Frag) : Sp := fun vs H Q _ => ∃ (v : V) (p : Jug.Pattern), vs = [v] ∧ PatAt H v p ∧ p.length ≤ 16 ∧
  ∀ (x : Addr) H', Same H H' → H x = none → H' x = some (.lst (natsV (Jm.rowL p))) → Q (.ref x) H'
theorem sc_row_of : FnScope ["beats", "beat"] ["beats"] (defScope s_row_of) := ⟨rfl, rfl, rfl, by decide +kernel, rfl, by decide +kernel, by decide +kernel⟩
theorem ok_row_of {f : Addr} {fd : FuncData} (F : Fun K "row_of" "row_of" s_row_of f fd) (T : Txt mg) : FnOk P w K mg base CX0 1 f fd ["beats"] (sp_row_of K) := by
  have sc := sc_row_of
  refine F.ok sc (fun vs H Q E h => ?_) (fun cdv A outer s H vs Q E hr h => ?_)
  · obtain ⟨v, p, rfl, _⟩ := h
    rfl
  · obtain ⟨v, p, rfl, ⟨b, ws, rfl, hb, hP⟩, g2, k⟩ := h
    refine ⟨_, (pss_one (ps_ret (pe_lc rfl sc.nd (pi_list (pv 0)) (own := [("beat", 1)]) (blkOk_by (N := ["beats", "beat"]) (sc := defScope s_row_of) (by decide +kernel)) (fun _ _ _ _ _ => pg_name (i := 1) sc.nd rfl (by first | exact Or.inl rfl | exact Or.inr rfl)) (fun _ _ _ _ _ => pts_nil) (fun _ _ _ _ _ => (pe_callB (cr_sumK (K := K) rfl rfl) (by rfl) T.b_sum PyProof.Rows.boot_sum (pa_cons (pv 1) pa_nil)))))), ?_⟩
    have hl := hP.length
    refine ⟨_, rfl, b, rfl, ⟨_, SqL.of hb⟩, fun D hD => lc_mapL (sumV H) (SqL.of hb) hD ?_ (fun _ => rfl) ?_ ?_⟩
    · exact Nat.le_of_lt (small1000 (by omega))
    · intro i v H4 Qk hv s4 kk
      obtain ⟨bt, e2, z, rfl, e4⟩ := Paired.getL hP hv
      refine ⟨_, rfl, z, bt.map Int.ofNat, rfl, by rw [← natsV_int]; exact SqL.of (s4 _ _ e4), ?_⟩
      have := kk H4 (Same.refl _)
      unfold sumV at this
      dsimp only at this
      rw [e4] at this
      dsimp only at this
      rw [sumV_nats] at this
      rw [Jm.sum_cast]
      exact this
    intro H4 s4 hDv
    rw [sums_of hP] at hDv
    exact k D H4 s4 hD hDv
end
end Jp

set_option Elab.async false
set_option linter.all false
set_option maxRecDepth 100000
set_option maxHeartbeats 4000000
namespace Jp
open PySem PySem.Spec PyProof.Rows L2
section
variable {P : Program} {w : World} {K : PySem.W.Frag} {mg : Str → Option Value} {base : Heap}
def sp_counts_with_beat (K : PySem.W.Frag) : Sp := fun vs H Q _ => ∃ (d a : Addr) (R : Jm.Cnt) (i n : Nat) (hs : List Nat), vs = [.ref d, .int (i : Nat), .int (n : Nat), .ref a] ∧ H d = some (.dT (encR R)) ∧ H a = some (.lst (natsV hs)) ∧ Jm.KeyOk n i R ∧ R.length ≤ 16 ^ i ∧ hs.length ≤ 16 ∧ i < n ∧ n ≤ 5 ∧
  ∀ (L : Addr) H' R', Same H H' → H' L = some (.dT (encR R')) → Jm.KeyOk n (i + 1) R' → R'.length ≤ 16 ^ (i + 1) → (∀ w, Jm.wt w R' = Jm.wt (Jm.stepWt n i hs w) R) → Q (.ref L) H'
theorem sc_counts_with_beat : FnScope ["counts", "beat", "period", "heights", "longer", "pair", "height", "landing", "reached"] ["counts", "beat", "period", "heights"] (defScope s_counts_with_beat) := ⟨rfl, rfl, rfl, by decide +kernel, rfl, by decide +kernel, by decide +kernel⟩
theorem ok_counts_with_beat {f : Addr} {fd : FuncData} (F : Fun K "counts_with_beat" "counts_with_beat" s_counts_with_beat f fd) (T : Txt mg) : FnOk P w K mg base CX0 1 f fd ["counts", "beat", "period", "heights"] (sp_counts_with_beat K) := by
  have sc := sc_counts_with_beat
  refine F.ok sc (fun vs H Q E h => ?_) (fun cdv A outer s H vs Q E hr h => ?_)
  · obtain ⟨d, a, R, i, n, hs, rfl, _⟩ := h
    rfl
  · obtain ⟨d, a, R, i, n, hs, rfl, hd, ha, hok, hRl, hs16l, hin, hn5, k⟩ := h
    have hu := hu_of hr
    refine ⟨_, (pss_cons (ps_set (i := 4) sc.nd rfl (by first | exact Or.inl rfl | exact Or.inr rfl) pe_dnewT)
      (pss_cons (ps_lock (ps_for PassesOwn.never rfl (pi_keys (pv 0)) (pg_name (i := 5) sc.nd rfl (by first | exact Or.inl rfl | exact Or.inr rfl))
      (pss_one (ps_for PassesOwn.never rfl (pi_list (pv 3)) (pg_name (i := 6) sc.nd rfl (by first | exact Or.inl rfl | exact Or.inr rfl))
      (pss_cons (ps_set (i := 7) sc.nd rfl (by first | exact Or.inl rfl | exact Or.inr rfl) (pe_op op_shl pe_int (pe_op op_mod (pe_op op_add (pv 1) (pv 6)) (pv 2))))
      (pss_one (ps_if (pt_cmp (pc_eqI (pe_op op_and (pe_ix ix_tup (pv 5) pe_int (fun _ _ => rfl)) (pv 7)) pe_int)) (pss_cons (ps_set (i := 8) sc.nd rfl (by first | exact Or.inl rfl | exact Or.inr rfl) (pe_tup (pa_cons (pe_op op_or (pe_ix ix_tup (pv 5) pe_int (fun _ _ => rfl)) (pv 7)) (pa_cons (pe_op op_add (pe_ix ix_tup (pv 5) pe_int (fun _ _ => rfl)) (pv 6)) pa_nil))))
      (pss_one (ps_dput hu (pv 4) (pv 8) (pe_op op_add (pe_dget2 hu (pv 4) (pv 8) pe_int ⟨rfl, rfl, rfl, rfl⟩) (pe_dget hu (pv 0) (pv 5) (fun _ _ => rfl))) rfl))) pss_nil)))))))
      (pss_one (ps_ret (pv 4))))), ?_⟩
    intro L hL
    have hdL : d ≠ L := ne_of_none hd hL
    refine ⟨d, .dT (encR R), by rw [upd_ne hdL]; exact hd, True.intro, fun od => ?_⟩
    refine ⟨_, rfl, d, od, rfl, .inr ⟨_, upd_same, ?_⟩⟩
    have helen : (encR R).length = R.length := by unfold encR; rw [List.length_map]
    have h16 : 16 ^ i ≤ 65536 := by
      have : 16 ^ i ≤ 16 ^ 4 := Nat.pow_le_pow_right (by decide) (by omega)
      exact this
    have had : a ≠ d := fun e => by rw [e, hd] at ha; cases ha
    have hs16 := sizeLine_eq
    refine for_keysT (fun j σ H' => (∀ b o, H b = some o → b ≠ d → H' b = some o) ∧ H' d = some (.frz od (.dT (encR R))) ∧ (∃ v5 v6 v7 v8, σ = [some (.ref d), some (.int (i : Nat)), some (.int (n : Nat)), some (.ref a), some (.ref L), v5, v6, v7, v8]) ∧
        ∃ R' : Jm.Cnt, H' L = some (.dT (encR R')) ∧ (R'.map Prod.fst).Nodup ∧ (∀ x ∈ R', x.1.1 < 2 ^ n ∧ Jm.pc x.1.1 = i + 1) ∧ R'.length ≤ 16 * j ∧ ∀ w, Jm.wt w R' = Jm.wt (Jm.stepWt n i hs w) (R.take j))
      ⟨fun b o hb hbd => by rw [upd_ne hbd, upd_ne (ne_of_none hb hL)]; exact hb, upd_same, ⟨none, none, none, none, rfl⟩, [], by rw [upd_ne (Ne.symm hdL), upd_same]; rfl, List.nodup_nil, fun x hx => (by cases hx), by simp, fun w => rfl⟩
      (fun j σ H' _ h => h.2.1) ?_ ?_
    · rintro j kk v q σ H' hj hq ⟨s1, hd1, ⟨v5, v6, v7, v8, rfl⟩, R', hL1, hnd, hkey, hlen, hsum⟩
      have hjl := (List.getElem?_eq_some_iff.mp hj).1
      obtain ⟨⟨⟨m, su⟩, c⟩, ex, ee⟩ := map_get hj
      have e1 : kk = keyP (m, su) := congrArg Prod.fst ee
      have e2 : v = V.int (c : Int) := congrArg Prod.snd ee
      subst e1 e2
      have hmem : ((m, su), c) ∈ R := List.mem_of_getElem? ex
      have hm : m < 2 ^ n := (hok.key _ hmem).1
      have hpc : Jm.pc m = i := (hok.key _ hmem).2
      have hq : H' q = some (.tup [V.int (m : Int), V.int (su : Int)]) := hq
      have hqd : q ≠ d := fun e => by rw [e, hd1] at hq; cases hq
      have hqL : q ≠ L := fun e => by rw [e, hL1] at hq; cases hq
      refine ⟨_, rfl, a, rfl, ⟨_, SqL.of (s1 _ _ ha had)⟩, ?_⟩
      refine for_list (xs := natsV hs) (fun h σ H2 => (∀ b o, H b = some o → b ≠ d → H2 b = some o) ∧ H2 d = some (.frz od (.dT (encR R))) ∧ H2 q = some (.tup [V.int (m : Int), V.int (su : Int)]) ∧ (∃ v6 v7 v8, σ = [some (.ref d), some (.int (i : Nat)), some (.int (n : Nat)), some (.ref a), some (.ref L), some (.ref q), v6, v7, v8]) ∧
          ∃ R2 : Jm.Cnt, H2 L = some (.dT (encR R2)) ∧ (R2.map Prod.fst).Nodup ∧ (∀ x ∈ R2, x.1.1 < 2 ^ n ∧ Jm.pc x.1.1 = i + 1) ∧ R2.length ≤ 16 * j + h ∧
          ∀ w, Jm.wt w R2 = Jm.wt (Jm.stepWt n i hs w) (R.take j) + c * Jm.stepWt n i (hs.take h) w (m, su))
        ⟨s1, hd1, hq, ⟨_, _, _, rfl⟩, R', hL1, hnd, hkey, by omega, fun w => by rw [hsum]; rfl⟩ (fun h σ H2 _ h => SqL.of (h.1 _ _ ha had)) ?_ ?_
      · rintro hj0 wv σ H2 hh ⟨s2, hd2, hq2, ⟨v6, v7, v8, rfl⟩, R2, hL2, hnd2, hkey2, hlen2, hsum2⟩
        obtain ⟨h, eh, rfl⟩ := natsV_get hh
        have hjl : hj0 < hs.length := (List.getElem?_eq_some_iff.mp eh).1
        have hsn : ∀ w, Jm.stepWt n i (hs.take (hj0 + 1)) w (m, su) = Jm.stepWt n i (hs.take hj0) w (m, su) + if m &&& 2 ^ ((i + h) % n) = 0 then w (m + 2 ^ ((i + h) % n), su + h) else 0 := fun w => by
          rw [take_snoc eh]
          unfold Jm.stepWt
          rw [Jm.sm_append, Jm.sm_cons, Jm.sm_nil, Nat.add_zero]
        have ht : (i + h) % n < n := Nat.mod_lt _ (by omega)
        have et : (((i : Nat) : Int) + (h : Int)) % ((n : Nat) : Int) = (((i + h) % n : Nat) : Int) := by
          rw [Int.natCast_emod, Int.natCast_add]
        have el : (1 : Int) * 2 ^ ((((i : Nat) : Int) + (h : Int)) % ((n : Nat) : Int)).toNat = ((2 ^ ((i + h) % n) : Nat) : Int) := by
          rw [et, Int.one_mul, Int.toNat_natCast, Int.natCast_pow]
          rfl
        have ha0 : atI [V.int (m : Int), V.int (su : Int)] 0 = some (V.int (m : Int)) := rfl
        have ha1 : atI [V.int (m : Int), V.int (su : Int)] 1 = some (V.int (su : Int)) := rfl
        refine ⟨_, rfl, _, rfl, _, _, rfl, rfl, _, rfl, _, _, rfl, rfl, by show (0 : Int) < (n : Int); omega, _, _, rfl, rfl, ⟨?_, ?_, by decide⟩, ?_⟩
        · show 0 ≤ (((i : Nat) : Int) + (h : Int)) % ((n : Nat) : Int)
          rw [et]
          omega
        · show (((i : Nat) : Int) + (h : Int)) % ((n : Nat) : Int) ≤ 1000000
          rw [et]
          omega
        refine ⟨_, rfl, q, _, _, _, rfl, rfl, SqT.of hq2, ha0, _, rfl, _, _, rfl, rfl, _, _, rfl, rfl, _, rfl, ite2 (fun hc => ?_) (fun hc => ?_)⟩
        · have hc : Builtin.bitAnd (m : Int) ((1 : Int) * 2 ^ ((((i : Nat) : Int) + (h : Int)) % ((n : Nat) : Int)).toNat) = 0 := of_decide_eq_true hc
          rw [el, and_nat] at hc
          have hc : m &&& 2 ^ ((i + h) % n) = 0 := by omega
          obtain ⟨p1, p2, p3⟩ := Jm.bit_put hn5 hm ht hc
          refine ⟨_, rfl, q, _, _, _, rfl, rfl, SqT.of hq2, ha0, _, rfl, _, _, rfl, rfl, _, rfl, q, _, _, _, rfl, rfl, SqT.of hq2, ha1, _, rfl, _, _, rfl, rfl, by show 2 ≤ sizeLine; decide, fun T hT => ?_⟩
          have eT : [V.int (Builtin.bitOr (m : Int) ((1 : Int) * 2 ^ ((((i : Nat) : Int) + (h : Int)) % ((n : Nat) : Int)).toNat)), V.int ((su : Int) + (h : Int))] = (keyP (m + 2 ^ ((i + h) % n), su + h)).map kV := by
            rw [el, or_nat hc]
            rfl
          have hTL : L ≠ T := ne_of_none hL2 hT
          have hTd : d ≠ T := ne_of_none hd2 hT
          have hTq : q ≠ T := ne_of_none hq2 hT
          have gT : (upd H2 T (.tup [V.int (Builtin.bitOr (m : Int) ((1 : Int) * 2 ^ ((((i : Nat) : Int) + (h : Int)) % ((n : Nat) : Int)).toNat)), V.int ((su : Int) + (h : Int))])) T = some (.tup ((keyP (m + 2 ^ ((i + h) % n), su + h)).map kV)) := by rw [upd_same, eT]
          have gL : ∀ o, (upd H2 T o) L = some (.dT (encR R2)) := fun o => by rw [upd_ne hTL]; exact hL2
          have gd : ∀ o, (upd H2 T o) d = some (.frz od (.dT (encR R))) := fun o => by rw [upd_ne hTd]; exact hd2
          have gq : ∀ o, (upd H2 T o) q = some (.tup ((keyP (m, su)).map kV)) := fun o => by rw [upd_ne hTq]; exact hq2
          have hl2 : (encR R2).length < sizeLine := by
            unfold encR
            rw [List.length_map]
            omega
          refine ⟨_, rfl, L, rfl, .inr ⟨_, .inl (gL _)⟩, _, rfl, _, DGet.t (gL _) gT, _, rfl, _, rfl, d, _, rfl, .inr ⟨_, keyP (m, su), q, .inr ⟨od, gd _⟩, rfl, gq _, (encR_at hok.nd hmem).symm⟩, _, _, encR_val _ _, rfl, _, rfl, _, rfl, L, _, rfl, DPut.t (gL _) gT hl2, ?_⟩
          rw [encR_put _ _ hnd2]
          refine ⟨fun b o hb hbd => ?_, ?_, ?_, ⟨_, _, _, rfl⟩, _, upd_same, Jm.addR_nodup _ _ hnd2, fun x hx => ?_, ?_, ?_⟩
          · rw [upd_ne (ne_of_none hb hL), upd_ne (ne_of_none (s2 b o hb hbd) hT)]
            exact s2 b o hb hbd
          · rw [upd_ne hdL]
            exact gd _
          · rw [upd_ne hqL, upd_ne hTq]
            exact hq2
          · rcases (Jm.addR_keys _ _ R2 x.1).mp (List.mem_map.mpr ⟨x, hx, rfl⟩) with e | e
            · rw [e]
              exact ⟨p1, by rw [p2, hpc]⟩
            · obtain ⟨y, hy, ey⟩ := List.mem_map.mp e
              rw [← ey]
              exact hkey2 y hy
          · have := Jm.addR_len (m + 2 ^ ((i + h) % n), su + h) c R2
            omega
          · intro w
            rw [Jm.wt_add, hsum2, hsn, if_pos hc, Nat.mul_add, Nat.add_assoc]
        · have hc : ¬ Builtin.bitAnd (m : Int) ((1 : Int) * 2 ^ ((((i : Nat) : Int) + (h : Int)) % ((n : Nat) : Int)).toNat) = 0 := fun q => hc (decide_eq_true q)
          rw [el, and_nat] at hc
          have hc : ¬ m &&& 2 ^ ((i + h) % n) = 0 := fun q => hc (by rw [q]; rfl)
          refine ⟨s2, hd2, hq2, ⟨_, _, _, rfl⟩, R2, hL2, hnd2, hkey2, by omega, fun w => ?_⟩
          rw [hsum2, hsn, if_neg hc]
          rfl
      · rintro σ H2 ⟨s2, hd2, hq2, ⟨v6, v7, v8, rfl⟩, R2, hL2, hnd2, hkey2, hlen2, hsum2⟩
        rw [natsV_length] at hlen2
        refine ⟨s2, hd2, ⟨_, _, _, _, rfl⟩, R2, hL2, hnd2, hkey2, by omega, fun w => ?_⟩
        rw [hsum2, natsV_length, List.take_length, take_snoc ex]
        unfold Jm.wt
        rw [Jm.sm_append, Jm.sm_cons, Jm.sm_nil, Nat.add_zero]
    · rintro σ H' ⟨s1, hd1, ⟨v5, v6, v7, v8, rfl⟩, R', hL1, hnd, hkey, hlen, hsum⟩
      rw [helen] at hlen
      rw [helen, List.take_length] at hsum
      refine ⟨hd1, _, rfl, k L _ R' (fun b o hb => ?_) ?_ ⟨hnd, hkey⟩ ?_ hsum⟩
      · by_cases e : b = d
        · rw [e] at hb ⊢
          rw [upd_same]
          exact hd.symm.trans hb
        · rw [upd_ne e]
          exact s1 b o hb e
      · rw [upd_ne (Ne.symm hdL)]
        exact hL1
      · rw [Nat.pow_succ]
        have := Nat.mul_le_mul_left 16 hRl
        omega
end
end Jp

set_option Elab.async false
set_option linter.all false
set_option maxRecDepth 100000
set_option maxHeartbeats 4000000
namespace Jp
open PySem PySem.Spec PyProof.Rows L2
section
variable {P : Program} {w : World} {K : PySem.W.Frag} {mg : Str → Option Value} {base : Heap}
def sp_count_rows (K : PySem.W.Frag) : Sp := fun vs H Q _ => ∃ (a : Addr) (bs : List Nat) (n b high : Nat), vs = [.ref a, .int (n : Nat), .int (b : Nat), .int (high : Nat)] ∧ H a = some (.lst (natsV bs)) ∧ bs.length ≤ n ∧ n ≤ 5 ∧ high ≤ 15 ∧
  ∀ H', Same H H' → Q (.int ((Jm.goB n high (n * b) 0 bs (0, 0) : Nat) : Int)) H'
theorem mul_small {n : Nat} (h : n ≤ 5) : -(2 ^ 64) < ((n : Nat) : Int) ∧ ((n : Nat) : Int) < 2 ^ 64 := ⟨by omega, by omega⟩
theorem shl_small {n : Nat} (h : n ≤ 5) : CPow 1 ((n : Nat) : Int) := ⟨by omega, by omega, by decide⟩
theorem sc_count_rows : FnScope ["begun", "period", "balls", "high", "counts", "beat", "heights"] ["begun", "period", "balls", "high"] (defScope s_count_rows) := ⟨rfl, rfl, rfl, by decide +kernel, rfl, by decide +kernel, by decide +kernel⟩
theorem ok_count_rows {f : Addr} {fd : FuncData} (F : Fun K "count_rows" "count_rows" s_count_rows f fd) (T : Txt mg) (d_counts_with_beat : Def P w K mg base "counts_with_beat" ["counts", "beat", "period", "heights"] 1 (sp_counts_with_beat K)) : FnOk P w K mg base CX0 2 f fd ["begun", "period", "balls", "high"] (sp_count_rows K) := by
  have sc := sc_count_rows
  refine F.ok sc (fun vs H Q E h => ?_) (fun cdv A outer s H vs Q E hr h => ?_)
  · obtain ⟨a, bs, n, b, high, rfl, _⟩ := h
    rfl
  · obtain ⟨a, bs, n, b, high, rfl, ha, hbl, hn5, hh15, k⟩ := h
    have hu := hu_of hr
    refine ⟨_, (pss_cons (ps_set (i := 4) sc.nd rfl (by first | exact Or.inl rfl | exact Or.inr rfl) (pe_dispT hu (pe_tup (pa_cons pe_int (pa_cons pe_int pa_nil))) pe_int))
      (pss_cons (ps_for PassesOwn.never rfl (pi_range1 rfl T.b_range (pa_cons (pv 1) pa_nil)) (pg_name (i := 5) sc.nd rfl (by first | exact Or.inl rfl | exact Or.inr rfl))
      (pss_cons (ps_set (i := 6) sc.nd rfl (by first | exact Or.inl rfl | exact Or.inr rfl) (pe_ifExp (pt_cmp (pc_lt (pv 5) (pe_callB call_len_seq (by rfl) T.b_len PySem.boot_len (pa_cons (pv 0) pa_nil)))) (pe_lst (pa_cons (pe_ix ix_list (pv 0) (pv 5) (fun _ _ => rfl)) pa_nil)) (pe_ofK (pk_range1 rfl (by rfl) T.b_range (pa_cons (pe_op op_add (pv 3) pe_int) pa_nil)) (by rfl) T.b_list PyProof.Rows.boot_list)))
      (pss_one (ps_set (i := 4) sc.nd rfl (by first | exact Or.inl rfl | exact Or.inr rfl) (pcall d_counts_with_beat (hr.mono (by decide)) (pa_cons (pv 4) (pa_cons (pv 5) (pa_cons (pv 1) (pa_cons (pv 6) pa_nil)))))))))
      (pss_one (ps_ret (pe_dget2 hu (pv 4) (pe_tup (pa_cons (pe_op op_sub (pe_op op_shl pe_int (pv 1)) pe_int) (pa_cons (pe_op op_mul (pv 1) (pv 2)) pa_nil))) pe_int ⟨rfl, rfl, rfl, rfl⟩))))), ?_⟩
    intro p hp
    refine ⟨by show 2 ≤ sizeLine; decide, fun T hT => ?_⟩
    have hpT : p ≠ T := ne_of_none (upd_same (a := p)) hT
    refine ⟨by rw [upd_ne hpT]; exact upd_same, T, keyP (0, 0), rfl, upd_same, ?_⟩
    have s1 : Same H (upd (upd (upd H p (.dT [])) T (.tup [V.int 0, V.int 0])) p (.dT (encR [((0, 0), 1)]))) := (((Same.refl H).new hp).new hT).own hp
    refine ⟨_, rfl, _, rfl, by omega, by omega, ?_⟩
    have en : ((n : Nat) : Int).toNat = n := by omega
    rw [en]
    refine for_range (fun i σ H' => Same H H' ∧ ∃ (d : Addr) (v5 v6 : Option V) (R : Jm.Cnt), σ = [some (.ref a), some (.int (n : Nat)), some (.int (b : Nat)), some (.int (high : Nat)), some (.ref d), v5, v6] ∧ H' d = some (.dT (encR R)) ∧ Jm.KeyOk n i R ∧ R.length ≤ 16 ^ i ∧ Jm.wt (Jm.goB n high (n * b) i (bs.drop i)) R = Jm.goB n high (n * b) 0 bs (0, 0))
      ⟨s1, p, none, none, _, rfl, upd_same, Jm.key_start n, by decide, by rw [Jm.start_wt]; rfl⟩ ?_ ?_
    · rintro i σ H' hi ⟨s2, d, v5, v6, R, rfl, hd, hok, hlen, hsum⟩
      have ei : (0 : Int) + (i : Int) = ((i : Nat) : Int) := Int.zero_add _
      have hle : (Jm.heightsAt bs high i).length ≤ 16 := by
        unfold Jm.heightsAt
        split
        · simp
        · rw [List.length_range]
          omega
      refine ⟨_, rfl, _, rfl, _, _, rfl, .inl (SqL.of (s2 _ _ ha)), _, _, rfl, rfl, _, rfl, ite2 (fun hc => ?_) (fun hc => ?_)⟩
      · have hc : (0 : Int) + (i : Int) < (((natsV bs).length : Nat) : Int) := of_decide_eq_true hc
        rw [natsV_length] at hc
        have hib : i < bs.length := by omega
        have hat : atI (natsV bs) ((0 : Int) + (i : Int)) = some (V.int ((bs.getD i 0 : Nat) : Int)) := at_of (j := i) ei (natsV_at (by simp [List.getD, hib]))
        have eh : Jm.heightsAt bs high i = [bs.getD i 0] := if_pos hib
        refine ⟨_, rfl, _, rfl, a, _, _, _, rfl, rfl, SqL.of (s2 _ _ ha), hat, by show 1 ≤ sizeLine; decide, fun z hz => ?_⟩
        refine ⟨_, rfl, _, rfl, _, rfl, _, rfl, d, z, R, i, n, Jm.heightsAt bs high i, by rw [ei]; rfl, by rw [upd_ne (ne_of_none hd hz)]; exact hd, by rw [upd_same, eh]; rfl, hok, hlen, hle, hi, hn5, fun L H2 R' s3 hL hok' hlen' hw => ?_⟩
        exact ⟨(s2.new hz).trans s3, L, _, _, R', rfl, hL, hok', hlen', (Jm.cb_step hn5 hi hok hw).trans hsum⟩
      · have hc : ¬ (0 : Int) + (i : Int) < (((natsV bs).length : Nat) : Int) := fun q => hc (decide_eq_true q)
        rw [natsV_length] at hc
        have hib : ¬ i < bs.length := by omega
        have eh : Jm.heightsAt bs high i = List.range (high + 1) := if_neg hib
        refine ⟨_, rfl, _, _, rfl, rfl, high + 1, rfl, by omega, fun z hz => ?_⟩
        refine ⟨_, rfl, _, rfl, _, rfl, _, rfl, d, z, R, i, n, Jm.heightsAt bs high i, by rw [ei]; rfl, by rw [upd_ne (ne_of_none hd hz)]; exact hd, by rw [upd_same, eh], hok, hlen, hle, hi, hn5, fun L H2 R' s3 hL hok' hlen' hw => ?_⟩
        exact ⟨(s2.new hz).trans s3, L, _, _, R', rfl, hL, hok', hlen', (Jm.cb_step hn5 hi hok hw).trans hsum⟩
    · rintro σ H' ⟨s2, d, v5, v6, R, rfl, hd, hok, hlen, hsum⟩
      refine ⟨_, rfl, d, rfl, .inr ⟨_, .inl hd⟩, _, rfl, _, _, rfl, rfl, shl_small hn5, _, _, rfl, rfl, _, rfl, _, rfl, _, _, rfl, rfl, .inl (mul_small hn5), by show 2 ≤ sizeLine; decide, fun U hU => ?_⟩
      have eU : [V.int ((1 : Int) * 2 ^ (((n : Nat) : Int)).toNat - 1), V.int (((n : Nat) : Int) * ((b : Nat) : Int))] = (keyP (2 ^ n - 1, n * b)).map kV := by
        have hp := Nat.two_pow_pos n
        have e1 : (1 : Int) * 2 ^ (((n : Nat) : Int)).toNat - 1 = ((2 ^ n - 1 : Nat) : Int) := by
          have e2 : (2 : Int) ^ n = ((2 ^ n : Nat) : Int) := by rw [Int.natCast_pow]; rfl
          rw [Int.one_mul, Int.toNat_natCast, e2]
          omega
        rw [e1, ← Int.natCast_mul]
        rfl
      have hdU : d ≠ U := ne_of_none hd hU
      refine ⟨_, DGet.t (k := keyP (2 ^ n - 1, n * b)) (by rw [upd_ne hdU]; exact hd) (by rw [upd_same]; exact congrArg (fun l => some (HO.tup l)) eU), ?_⟩
      have hdr : bs.drop n = [] := List.drop_of_length_le hbl
      rw [hdr] at hsum
      rw [encR_val, Jm.key_end (high := high) hn5 hok, hsum]
      exact k _ (s2.new hU)
end
end Jp

set_option Elab.async false
set_option linter.all false
set_option maxRecDepth 100000
set_option maxHeartbeats 4000000
namespace Jp
open PySem PySem.Spec PyProof.Rows L2
section
variable {P : Program} {w : World} {K : PySem.W.Frag} {mg : Str → Option Value} {base : Heap}
def sp_number_of_row (K : PySem.W.Frag) : Sp := fun vs H Q _ => ∃ (x : Addr) (row : List Nat) (b high J : Nat), vs = [.ref x, .int (b : Nat), .int (high : Nat)] ∧ H x = some (.lst (natsV row)) ∧ row.length ≤ 5 ∧ high ≤ 15 ∧ (∀ y ∈ row, y ≤ 15) ∧ (Jug.allFrom row.length high row.length 0 [] (row.length * b)).findIdx? (fun l => l == row) = some J ∧
  ∀ H', Same H H' → Q (.int ((J : Nat) : Int)) H'
theorem sc_number_of_row : FnScope ["row", "balls", "high", "lesser", "beat", "height"] ["row", "balls", "high"] (defScope s_number_of_row) := ⟨rfl, rfl, rfl, by decide +kernel, rfl, by decide +kernel, by decide +kernel⟩
theorem ok_number_of_row {f : Addr} {fd : FuncData} (F : Fun K "number_of_row" "number_of_row" s_number_of_row f fd) (T : Txt mg) (d_count_rows : Def P w K mg base "count_rows" ["begun", "period", "balls", "high"] 2 (sp_count_rows K)) : FnOk P w K mg base CX0 3 f fd ["row", "balls", "high"] (sp_number_of_row K) := by
  have sc := sc_number_of_row
  refine F.ok sc (fun vs H Q E h => ?_) (fun cdv A outer s H vs Q E hr h => ?_)
  · obtain ⟨x, row, b, high, J, rfl, _⟩ := h
    rfl
  · obtain ⟨x, row, b, high, J, rfl, hx, hn5, hh15, hrow, hJ, k⟩ := h
    refine ⟨_, (pss_cons (ps_set (i := 3) sc.nd rfl (by first | exact Or.inl rfl | exact Or.inr rfl) pe_int)
      (pss_cons (ps_for PassesOwn.never rfl (pi_range1 rfl T.b_range (pa_cons (pe_callB call_len_seq (by rfl) T.b_len PySem.boot_len (pa_cons (pv 0) pa_nil)) pa_nil)) (pg_name (i := 4) sc.nd rfl (by first | exact Or.inl rfl | exact Or.inr rfl))
      (pss_one (ps_for PassesOwn.never rfl (pi_range1 rfl T.b_range (pa_cons (pe_ix ix_list (pv 0) (pv 4) (fun _ _ => rfl)) pa_nil)) (pg_name (i := 5) sc.nd rfl (by first | exact Or.inl rfl | exact Or.inr rfl))
      (pss_one (ps_aug (i := 3) sc.nd rfl (by first | exact Or.inl rfl | exact Or.inr rfl) (pcall d_count_rows (hr.mono (by decide)) (pa_cons (pe_op op_cat (pe_slice sl_list (pv 0) po_none (po_some (pv 4))) (pe_lst (pa_cons (pv 5) pa_nil))) (pa_cons (pe_callB call_len_seq (by rfl) T.b_len PySem.boot_len (pa_cons (pv 0) pa_nil)) (pa_cons (pv 1) (pa_cons (pv 2) pa_nil))))) ip_add)))))
      (pss_one (ps_ret (pv 3))))), ?_⟩
    have hl : ((natsV row).length : Int) = ((row.length : Nat) : Int) := by rw [natsV_length]
    refine ⟨_, rfl, _, _, rfl, .inl (SqL.of hx), _, rfl, by rw [hl]; omega, by rw [hl]; omega, ?_⟩
    have en : (((natsV row).length : Nat) : Int).toNat = row.length := by rw [natsV_length]; omega
    rw [en]
    refine for_range (fun i σ H' => Same H H' ∧ ∃ (lv : Int) (v4 v5 : Option V) (m su lesser : Nat), σ = [some (.ref x), some (.int (b : Nat)), some (.int (high : Nat)), some (.int lv), v4, v5] ∧ lv = (lesser : Nat) ∧ Jm.PlOk row.length high (row.length * b) row J i m su lesser)
      ⟨Same.refl H, 0, none, none, 0, 0, 0, rfl, rfl, Jm.pl_start hJ⟩ ?_ ?_
    · rintro i σ H' hi ⟨s1, lv, v4, v5, m, su, lesser, rfl, rfl, hok⟩
      have ei : (0 : Int) + (i : Int) = ((i : Nat) : Int) := Int.zero_add _
      have hat : atI (natsV row) ((0 : Int) + (i : Int)) = some (V.int ((row.getD i 0 : Nat) : Int)) := at_of (j := i) ei (natsV_at (by simp [List.getD, hi]))
      have h15 : row.getD i 0 ≤ 15 := hrow _ (by simp [List.getD, hi])
      obtain ⟨hsu, m', hok'⟩ := hok.next hn5 rfl hi
      refine ⟨_, rfl, _, rfl, x, _, _, _, rfl, rfl, SqL.of (s1 _ _ hx), hat, _, rfl, by omega, by omega, ?_⟩
      have en2 : ((row.getD i 0 : Nat) : Int).toNat = row.getD i 0 := by omega
      rw [en2]
      refine for_range (fun h σ H2 => Same H H2 ∧ ∃ (lv : Int) (v5 : Option V), σ = [some (.ref x), some (.int (b : Nat)), some (.int (high : Nat)), some (.int lv), some (.int ((0 : Int) + (i : Int))), v5] ∧ lv = ((lesser + Jm.pre (Jm.rowsF row.length high (row.length * b) i m su) h : Nat) : Int))
        ⟨s1, _, _, rfl, rfl⟩ ?_ ?_
      · rintro h σ H2 hh ⟨s2, lv, v5, rfl, rfl⟩
        have hx2 := s2 _ _ hx
        have eh : (0 : Int) + (h : Int) = ((h : Nat) : Int) := Int.zero_add _
        refine ⟨_, rfl, _, rfl, _, rfl, _, rfl, x, _, rfl, SqL.of hx2, fun c hc => ?_⟩
        rw [ei, cut_take (show i ≤ (natsV row).length by rw [natsV_length]; omega)]
        refine ⟨_, rfl, by show 1 ≤ sizeLine; decide, fun d hd => ⟨c, d, _, _, rfl, rfl, by rw [upd_ne (ne_of_none upd_same hd), upd_same], upd_same, ?_, fun e he => ?_⟩⟩
        · rw [List.length_take, natsV_length]
          exact Nat.le_of_lt (small1000 (by rw [List.length_singleton]; omega))
        have s3 : Same H2 (upd (upd (upd H2 c (.lst ((natsV row).take i))) d (.lst [V.int ((0 : Int) + (h : Int))])) e (.lst ((natsV row).take i ++ [V.int ((0 : Int) + (h : Int))]))) := (((Same.refl H2).new hc).new hd).new he
        have ec : (natsV row).take i ++ [V.int ((0 : Int) + (h : Int))] = natsV (row.take i ++ [h]) := by
          rw [natsV_append, eh]
          unfold natsV
          rw [List.map_take]
          rfl
        refine ⟨_, rfl, _, _, rfl, .inl (SqL.of (s3 _ _ hx2)), _, rfl, _, rfl, e, row.take i ++ [h], row.length, b, high, by rw [natsV_length]; rfl, by rw [upd_same, ec], by rw [List.length_append, List.length_take, List.length_singleton]; omega, hn5, hh15, fun H4 s4 => ?_⟩
        rw [hok.count hn5 rfl hi (show su + h ≤ row.length * b by omega)]
        refine ⟨_, _, rfl, rfl, (s2.trans s3).trans s4, _, _, rfl, ?_⟩
        rw [Jm.pre_succ]
        show ((lesser + Jm.pre (Jm.rowsF row.length high (row.length * b) i m su) h : Nat) : Int) + (((Jm.rowsF row.length high (row.length * b) i m su h).length : Nat) : Int) = _
        omega
      · rintro σ H2 ⟨s2, lv, v5, rfl, rfl⟩
        exact ⟨s2, _, _, _, m', _, _, rfl, rfl, hok'⟩
    · rintro σ H' ⟨s1, lv, v4, v5, m, su, lesser, rfl, rfl, hok⟩
      rw [← hok.done rfl] at k
      exact ⟨_, rfl, k _ s1⟩
end
end Jp

set_option Elab.async false
set_option linter.all false
set_option maxRecDepth 100000
set_option maxHeartbeats 4000000
namespace Jp
open PySem PySem.Spec PyProof.Rows L2
section
variable {P : Program} {w : World} {K : PySem.W.Frag} {mg : Str → Option Value} {base : Heap}
def sp_is_count_asked (K : PySem.W.Frag) : Sp := fun vs H Q _ => ∃ (n b high : Int), vs = [.int n, .int b, .int high] ∧ Q (.bl (decide (1 ≤ n ∧ n ≤ 5) && (decide (b ≤ 8) && decide (high ≤ 15)))) H
theorem sc_is_count_asked : FnScope ["n", "b", "high"] ["n", "b", "high"] (defScope s_is_count_asked) := ⟨rfl, rfl, rfl, by decide +kernel, rfl, by decide +kernel, by decide +kernel⟩
theorem ok_is_count_asked {f : Addr} {fd : FuncData} (F : Fun K "is_count_asked" "is_count_asked" s_is_count_asked f fd) (T : Txt mg) : FnOk P w K mg base CX0 1 f fd ["n", "b", "high"] (sp_is_count_asked K) := by
  have sc := sc_is_count_asked
  refine F.ok sc (fun vs H Q E h => ?_) (fun cdv A outer s H vs Q E hr h => ?_)
  · obtain ⟨n, b, high, rfl, _⟩ := h
    rfl
  · obtain ⟨n, b, high, rfl, k⟩ := h
    refine ⟨_, (pss_one (ps_ret (pe_and (pe_chain op_le op_le pe_int (pv 0) (pgl T.c_MOST_COUNTED_BEATS)) (pe_and (pe_cmp (pc_le (pv 1) (pgl T.c_MOST_COUNTED_BALLS))) (pe_one (pe_cmp (pc_le (pv 2) (pgl T.c_MOST_HEIGHT)))))))), ?_⟩
    refine ⟨_, rfl, _, _, rfl, rfl, _, rfl, ite2 (fun h1 => ⟨_, _, rfl, rfl, _, rfl, ite2 (fun h2 => ?_) (fun h2 => ?_)⟩) (fun h1 => ⟨_, rfl, iteF ?_⟩)⟩
    · have h1 : 1 ≤ n := of_decide_eq_true h1
      have h2 : n ≤ 5 := of_decide_eq_true h2
      rw [decide_eq_true (show 1 ≤ n ∧ n ≤ 5 from ⟨h1, h2⟩), Bool.true_and] at k
      refine ⟨_, rfl, _, _, rfl, rfl, _, rfl, ite2 (fun h3 => ?_) (fun h3 => ?_)⟩
      · rw [decide_eq_true (show b ≤ 8 from of_decide_eq_true h3), Bool.true_and] at k
        exact ⟨_, rfl, _, _, rfl, rfl, k⟩
      · rw [decide_eq_false (show ¬ b ≤ 8 from fun q => h3 (decide_eq_true q)), Bool.false_and] at k
        exact k
    · rw [decide_eq_false (show ¬ (1 ≤ n ∧ n ≤ 5) from fun q => h2 (decide_eq_true q.2)), Bool.false_and] at k
      exact k
    · rw [decide_eq_false (show ¬ (1 ≤ n ∧ n ≤ 5) from fun q => h1 (decide_eq_true q.1)), Bool.false_and] at k
      exact k
end
end Jp

set_option Elab.async false
set_option linter.all false
set_option maxRecDepth 100000
set_option maxHeartbeats 4000000
namespace Jp
open PySem PySem.Spec PyProof.Rows L2
section
variable {P : Program} {w : World} {K : PySem.W.Frag} {mg : Str → Option Value} {base : Heap}
def sp_place (K : PySem.W.Frag) : Sp := fun vs H Q _ => ∃ (a : Addr) (m : Int) (t : List Int), vs = [.int m, .ref a] ∧ 0 ≤ m ∧ SqL K H a (t.map V.int) ∧ Jm.Ok8 t ∧ t.length ≤ 64 ∧
  ∀ v H', IntsAt H' v (PyWrjugg.place m t) → Q v H'
theorem sc_place : FnScope ["high", "t", "refusal", "beats", "row", "balls"] ["high", "t"] (defScope s_place) := ⟨rfl, rfl, rfl, by decide +kernel, rfl, by decide +kernel, by decide +kernel⟩
theorem ok_place {f : Addr} {fd : FuncData} (F : Fun K "place" "place" s_place f fd) (T : Txt mg) (d_pattern_refusal : Def P w K mg base "pattern_refusal" ["t"] 5 (sp_pattern_refusal K)) (d_read_beats : Def P w K mg base "read_beats" ["t"] 2 (sp_read_beats K)) (d_row_of : Def P w K mg base "row_of" ["beats"] 1 (sp_row_of K)) (d_is_count_asked : Def P w K mg base "is_count_asked" ["n", "b", "high"] 1 (sp_is_count_asked K)) (d_most_throws_of : Def P w K mg base "most_throws_of" ["beats"] 1 (sp_most_throws_of K)) (d_number_of_row : Def P w K mg base "number_of_row" ["row", "balls", "high"] 3 (sp_number_of_row K)) : FnOk P w K mg base CX0 6 f fd ["high", "t"] (sp_place K) := by
  have sc := sc_place
  refine F.ok sc (fun vs H Q E h => ?_) (fun cdv A outer s H vs Q E hr h => ?_)
  · obtain ⟨a, m, t, rfl, _⟩ := h
    rfl
  · obtain ⟨a, m, t, rfl, hm, hS, h8, h64, k⟩ := h
    refine ⟨_, (pss_cons (ps_set (i := 2) sc.nd rfl (by first | exact Or.inl rfl | exact Or.inr rfl) (pcall d_pattern_refusal (hr.mono (by decide)) (pa_cons (pv 1) pa_nil)))
      (pss_cons (ps_if (pt_cmp (pc_gt (pe_callB call_len_seq (by rfl) T.b_len PySem.boot_len (pa_cons (pv 2) pa_nil)) pe_int)) (pss_one (ps_ret (pv 2))) pss_nil)
      (pss_cons (ps_set (i := 3) sc.nd rfl (by first | exact Or.inl rfl | exact Or.inr rfl) (pcall d_read_beats (hr.mono (by decide)) (pa_cons (pv 1) pa_nil)))
      (pss_cons (ps_set (i := 4) sc.nd rfl (by first | exact Or.inl rfl | exact Or.inr rfl) (pcall d_row_of (hr.mono (by decide)) (pa_cons (pv 3) pa_nil)))
      (pss_cons (ps_set (i := 5) sc.nd rfl (by first | exact Or.inl rfl | exact Or.inr rfl) (pe_op op_fdiv (pe_callB (cr_sum rfl) (by rfl) T.b_sum PyProof.Rows.boot_sum (pa_cons (pv 4) pa_nil)) (pe_callB call_len_seq (by rfl) T.b_len PySem.boot_len (pa_cons (pv 4) pa_nil))))
      (pss_cons (ps_if (pw_or (pt_cmp (pc_gt (pcall d_most_throws_of (hr.mono (by decide)) (pa_cons (pv 3) pa_nil)) pe_int)) (pw_or1 (pt_not (pt_val (pcall d_is_count_asked (hr.mono (by decide)) (pa_cons (pe_callB call_len_seq (by rfl) T.b_len PySem.boot_len (pa_cons (pv 4) pa_nil)) (pa_cons (pv 5) (pa_cons (pv 0) pa_nil)))))))).pt (pss_one (ps_ret (pe_lst (pa_cons (pe_un un_neg pe_int) pa_nil)))) pss_nil)
      (pss_cons (ps_if (pt_cmp (pc_gt (pe_callB (cr_max rfl) (by rfl) T.b_max PyProof.Rows.boot_max (pa_cons (pv 4) pa_nil)) (pv 0))) (pss_one (ps_ret (pe_lst (pa_cons (pe_un un_neg pe_int) pa_nil)))) pss_nil)
      (pss_one (ps_ret (pe_lst (pa_cons (pcall d_number_of_row (hr.mono (by decide)) (pa_cons (pv 4) (pa_cons (pv 5) (pa_cons (pv 0) pa_nil)))) pa_nil))))))))))), ?_⟩
    have ef : PyWrjugg.place m t = Jug.of (Jm.by8 t) (fun p => if (Jug.plain p && Jug.counted p.length (Jug.balls p) m.toNat) = false then Jug.says (-1) else match (Jug.all p.length (Jug.balls p) m.toNat).findIdx? fun (q : Jug.Pattern) => q == p with | none => Jug.says (-4) | some i => Jug.nats [i]) := rfl
    rw [ef] at k
    refine ⟨_, rfl, a, t, rfl, hS, h8, h64, fun v H1 s1 hv => ?_⟩
    obtain ⟨x, rfl, hx⟩ := hv
    refine ⟨_, rfl, _, _, rfl, .inl (SqL.of hx), _, _, rfl, rfl, _, rfl, ite2 (fun hc => ?_) (fun hc => ?_)⟩
    · have hne : Jm.refusal t ≠ [] := fun e => by
        rw [e] at hc
        exact absurd (of_decide_eq_true hc) (by decide)
      rw [Jm.of_refused hne] at k
      exact ⟨_, rfl, k _ _ ⟨x, rfl, hx⟩⟩
    · have he : Jm.refusal t = [] := by
        cases e : Jm.refusal t with
        | nil => rfl
        | cons z r =>
          rw [e] at hc
          exact absurd (decide_eq_true (by simp)) hc
      obtain ⟨p, hp, hcl, eo⟩ := Jm.of_right (f := fun p => if (Jug.plain p && Jug.counted p.length (Jug.balls p) m.toNat) = false then Jug.says (-1) else match (Jug.all p.length (Jug.balls p) m.toNat).findIdx? fun (q : Jug.Pattern) => q == p with | none => Jug.says (-4) | some i => Jug.nats [i]) he
      rw [eo] at k
      obtain ⟨hG, g1, g2⟩ := Jm.read_good h8 hp
      have hrl : (natsV (Jm.rowL p)).length = p.length := by rw [natsV_length, Jm.rowL_len]
      have em : m = ((m.toNat : Nat) : Int) := by omega
      refine ⟨_, rfl, a, t, p, rfl, s1.seq hS, h8, h64, hp, fun v2 H2 s2 hPat => ?_⟩
      refine ⟨_, rfl, v2, p, rfl, hPat, g2, fun x3 H3 s3 hx0 hx3 => ?_⟩
      have hx3i : H3 x3 = some (.lst (((Jm.rowL p).map Int.ofNat).map V.int)) := by rw [hx3, natsV_int]
      refine ⟨_, rfl, x3, _, rfl, SqL.of hx3i, _, rfl, _, _, rfl, .inl (SqL.of hx3), _, _, rfl, rfl, ⟨by rw [hrl]; omega, by rw [hrl]; omega⟩, ?_⟩
      have eb : ((Jm.rowL p).map Int.ofNat).sum / (((natsV (Jm.rowL p)).length : Nat) : Int) = ((Jug.balls p : Nat) : Int) := by
        rw [Jm.sum_cast, hrl, Jm.row_sum, ← Int.natCast_ediv]
        rfl
      have one : ∀ H4, (Jug.plain p && Jug.counted p.length (Jug.balls p) m.toNat) = false → ∀ z, Q (.ref z) (upd H4 z (.lst [.int (-1)])) := fun H4 hbad z => by
        rw [if_pos hbad] at k
        refine k _ _ ⟨z, rfl, ?_⟩
        rw [upd_same]
        rfl
      refine ⟨_, rfl, v2, p, rfl, hPat.same s3, g1, g2, fun H4 s4 => ⟨_, _, rfl, rfl, _, rfl, ite2 (fun hd => iteT ?_) (fun hd => ?_)⟩⟩
      · have hd : (1 : Int) < (((p.map List.length).foldl max 0 : Nat) : Int) := of_decide_eq_true hd
        exact ⟨_, rfl, by show 1 ≤ sizeLine; decide, fun z hz => one _ (by rw [Jm.not_plain (by omega)]; rfl) z⟩
      have hd : ¬ (1 : Int) < (((p.map List.length).foldl max 0 : Nat) : Int) := fun q => hd (decide_eq_true q)
      have hpl : Jug.plain p = true := (Jm.plain_max p).mpr (by omega)
      have hx4 := s4 _ _ hx3
      have ec : Jug.counted p.length (Jug.balls p) m.toNat = (decide (1 ≤ ((p.length : Nat) : Int) ∧ ((p.length : Nat) : Int) ≤ 5) && (decide (((Jug.balls p : Nat) : Int) ≤ 8) && decide (m ≤ 15))) := by
        rw [Bool.eq_iff_iff]
        unfold Jug.counted
        simp only [Bool.and_eq_true, decide_eq_true_eq]
        have e15 : Jug.HIGH = 15 := rfl
        rw [e15]
        omega
      refine ⟨_, rfl, _, _, rfl, .inl (SqL.of hx4), _, rfl, _, rfl, (p.length : Nat), ((Jug.balls p : Nat) : Int), m, by show [V.int (((natsV (Jm.rowL p)).length : Nat) : Int), V.int (((Jm.rowL p).map Int.ofNat).sum / (((natsV (Jm.rowL p)).length : Nat) : Int)), V.int m] = _; rw [eb, hrl], _, rfl, ?_⟩
      rw [← ec]
      cases hc : Jug.counted p.length (Jug.balls p) m.toNat with
      | false => exact iteT ⟨_, rfl, by show 1 ≤ sizeLine; decide, fun z hz => one _ (by rw [hc, Bool.and_false]) z⟩
      | true =>
        rw [hpl, hc, Jm.place_row hpl hG, if_neg (by decide)] at k
        have hc2 := ec.symm.trans hc
        simp only [Bool.and_eq_true, decide_eq_true_eq] at hc2
        have hx4i : H4 x3 = some (.lst (((Jm.rowL p).map Int.ofNat).map V.int)) := s4 _ _ hx3i
        refine iteF ⟨_, rfl, x3, _, rfl, SqL.of hx4i, by rw [List.length_map, Jm.rowL_len]; exact g1, fun M hM hge => ⟨_, rfl, _, _, rfl, rfl, _, rfl, ite2 (fun hf => ?_) (fun hf => ?_)⟩⟩
        · have hf : m < M := of_decide_eq_true hf
          obtain ⟨y, hy, rfl⟩ := List.mem_map.mp hM
          have hno : (Jug.allFrom p.length m.toNat p.length 0 [] (p.length * Jug.balls p)).findIdx? (fun l => l == Jm.rowL p) = none := by
            cases e : (Jug.allFrom p.length m.toNat p.length 0 [] (p.length * Jug.balls p)).findIdx? (fun l => l == Jm.rowL p) with
            | none => rfl
            | some j =>
              have := (Jm.row_in_all g1 hpl hG hcl).mp (Jm.idx_mem e) y hy
              have : m < ((y : Nat) : Int) := hf
              omega
          rw [hno] at k
          refine ⟨_, rfl, by show 1 ≤ sizeLine; decide, fun z hz => k _ _ ⟨z, rfl, ?_⟩⟩
          rw [upd_same]
          rfl
        · have hf : ¬ m < M := fun q => hf (decide_eq_true q)
          have hall : ∀ y ∈ Jm.rowL p, y ≤ m.toNat := fun y hy => by
            have : ((y : Nat) : Int) ≤ M := hge _ (List.mem_map.mpr ⟨y, hy, rfl⟩)
            omega
          obtain ⟨J, hJ⟩ := Jm.mem_idx ((Jm.row_in_all g1 hpl hG hcl).mpr hall)
          rw [hJ] at k
          refine ⟨_, rfl, _, rfl, _, rfl, x3, Jm.rowL p, Jug.balls p, m.toNat, J, by show [V.ref x3, V.int (((Jm.rowL p).map Int.ofNat).sum / (((natsV (Jm.rowL p)).length : Nat) : Int)), V.int m] = _; rw [eb, ← em], hx4, by rw [Jm.rowL_len]; omega, by omega, fun y hy => by have := hall y hy; omega, by rw [Jm.rowL_len]; exact hJ, fun H5 s5 => ⟨by show 1 ≤ sizeLine; decide, fun z hz => k _ _ ⟨z, rfl, ?_⟩⟩⟩
          rw [upd_same]
          rfl
end
end Jp

set_option Elab.async false
set_option linter.all false
set_option maxRecDepth 100000
set_option maxHeartbeats 4000000
namespace Jp
open PySem PySem.Spec PyProof.Rows L2
open PySem.W (Codec)
theorem all_mk {P : Program} {w : World} {K : PySem.W.Frag} {h : Heap} {mg : Str → Option Value} {fa : Addr} (X : K.In h) (G : h.Ns mainGlobals mg) (hfa : mg "place" = some (.ref fa))
    {f_height_of : Addr} {od_height_of an_height_of : Option Addr} {sl_height_of : Array (Option Value)} {oc_height_of kV_height_of dc_height_of pm_height_of cd_height_of ct_height_of : Value}
    {f_bracket_fault : Addr} {od_bracket_fault an_bracket_fault : Option Addr} {sl_bracket_fault : Array (Option Value)} {oc_bracket_fault kV_bracket_fault dc_bracket_fault pm_bracket_fault cd_bracket_fault ct_bracket_fault : Value}
    {f_beat_fault : Addr} {od_beat_fault an_beat_fault : Option Addr} {sl_beat_fault : Array (Option Value)} {oc_beat_fault kV_beat_fault dc_beat_fault pm_beat_fault cd_beat_fault ct_beat_fault : Value}
    {f_beat_end : Addr} {od_beat_end an_beat_end : Option Addr} {sl_beat_end : Array (Option Value)} {oc_beat_end kV_beat_end dc_beat_end pm_beat_end cd_beat_end ct_beat_end : Value}
    {f_text_fault : Addr} {od_text_fault an_text_fault : Option Addr} {sl_text_fault : Array (Option Value)} {oc_text_fault kV_text_fault dc_text_fault pm_text_fault cd_text_fault ct_text_fault : Value}
    {f_read_beats : Addr} {od_read_beats an_read_beats : Option Addr} {sl_read_beats : Array (Option Value)} {oc_read_beats kV_read_beats dc_read_beats pm_read_beats cd_read_beats ct_read_beats : Value}
    {f_landing_counts : Addr} {od_landing_counts an_landing_counts : Option Addr} {sl_landing_counts : Array (Option Value)} {oc_landing_counts kV_landing_counts dc_landing_counts pm_landing_counts cd_landing_counts ct_landing_counts : Value}
    {f_wrong_beat : Addr} {od_wrong_beat an_wrong_beat : Option Addr} {sl_wrong_beat : Array (Option Value)} {oc_wrong_beat kV_wrong_beat dc_wrong_beat pm_wrong_beat cd_wrong_beat ct_wrong_beat : Value}
    {f_pattern_refusal : Addr} {od_pattern_refusal an_pattern_refusal : Option Addr} {sl_pattern_refusal : Array (Option Value)} {oc_pattern_refusal kV_pattern_refusal dc_pattern_refusal pm_pattern_refusal cd_pattern_refusal ct_pattern_refusal : Value}
    {f_most_throws_of : Addr} {od_most_throws_of an_most_throws_of : Option Addr} {sl_most_throws_of : Array (Option Value)} {oc_most_throws_of kV_most_throws_of dc_most_throws_of pm_most_throws_of cd_most_throws_of ct_most_throws_of : Value}
    {f_row_of : Addr} {od_row_of an_row_of : Option Addr} {sl_row_of : Array (Option Value)} {oc_row_of kV_row_of dc_row_of pm_row_of cd_row_of ct_row_of : Value}
    {f_counts_with_beat : Addr} {od_counts_with_beat an_counts_with_beat : Option Addr} {sl_counts_with_beat : Array (Option Value)} {oc_counts_with_beat kV_counts_with_beat dc_counts_with_beat pm_counts_with_beat cd_counts_with_beat ct_counts_with_beat : Value}
    {f_count_rows : Addr} {od_count_rows an_count_rows : Option Addr} {sl_count_rows : Array (Option Value)} {oc_count_rows kV_count_rows dc_count_rows pm_count_rows cd_count_rows ct_count_rows : Value}
    {f_number_of_row : Addr} {od_number_of_row an_number_of_row : Option Addr} {sl_number_of_row : Array (Option Value)} {oc_number_of_row kV_number_of_row dc_number_of_row pm_number_of_row cd_number_of_row ct_number_of_row : Value}
    {f_is_count_asked : Addr} {od_is_count_asked an_is_count_asked : Option Addr} {sl_is_count_asked : Array (Option Value)} {oc_is_count_asked kV_is_count_asked dc_is_count_asked pm_is_count_asked cd_is_count_asked ct_is_count_asked : Value}
    {f_place : Addr} {od_place an_place : Option Addr} {sl_place : Array (Option Value)} {oc_place kV_place dc_place pm_place cd_place ct_place : Value}
    {t_CLOSING : Tok}
    {t_LETTER_A : Tok}
    {t_LETTER_F : Tok}
    {t_MOST_BEATS : Tok}
    {t_MOST_COUNTED_BALLS : Tok}
    {t_MOST_COUNTED_BEATS : Tok}
    {t_MOST_HEIGHT : Tok}
    {t_MOST_THROWS : Tok}
    {t_NINE : Tok}
    {t_OPENING : Tok}
    {t_ZERO : Tok}
    (a_height_of : PySem.W.nsIn K mainGlobals "height_of" = some (some (.ref f_height_of)))
    (l_height_of : K.lookup f_height_of = some ⟨oc_height_of, od_height_of, .func (PySem.W.fnOf "height_of" "height_of" (defArgs s_height_of) (defBody s_height_of) (defScope s_height_of) .none kV_height_of dc_height_of pm_height_of an_height_of cd_height_of ct_height_of), sl_height_of⟩)
    (c_height_of : PySem.W.codeIn K cd_height_of "height_of" = true)
    (k_height_of : PySem.W.keepIn K (.ref f_height_of) = true)
    (a_bracket_fault : PySem.W.nsIn K mainGlobals "bracket_fault" = some (some (.ref f_bracket_fault)))
    (l_bracket_fault : K.lookup f_bracket_fault = some ⟨oc_bracket_fault, od_bracket_fault, .func (PySem.W.fnOf "bracket_fault" "bracket_fault" (defArgs s_bracket_fault) (defBody s_bracket_fault) (defScope s_bracket_fault) .none kV_bracket_fault dc_bracket_fault pm_bracket_fault an_bracket_fault cd_bracket_fault ct_bracket_fault), sl_bracket_fault⟩)
    (c_bracket_fault : PySem.W.codeIn K cd_bracket_fault "bracket_fault" = true)
    (k_bracket_fault : PySem.W.keepIn K (.ref f_bracket_fault) = true)
    (a_beat_fault : PySem.W.nsIn K mainGlobals "beat_fault" = some (some (.ref f_beat_fault)))
    (l_beat_fault : K.lookup f_beat_fault = some ⟨oc_beat_fault, od_beat_fault, .func (PySem.W.fnOf "beat_fault" "beat_fault" (defArgs s_beat_fault) (defBody s_beat_fault) (defScope s_beat_fault) .none kV_beat_fault dc_beat_fault pm_beat_fault an_beat_fault cd_beat_fault ct_beat_fault), sl_beat_fault⟩)
    (c_beat_fault : PySem.W.codeIn K cd_beat_fault "beat_fault" = true)
    (k_beat_fault : PySem.W.keepIn K (.ref f_beat_fault) = true)
    (a_beat_end : PySem.W.nsIn K mainGlobals "beat_end" = some (some (.ref f_beat_end)))
    (l_beat_end : K.lookup f_beat_end = some ⟨oc_beat_end, od_beat_end, .func (PySem.W.fnOf "beat_end" "beat_end" (defArgs s_beat_end) (defBody s_beat_end) (defScope s_beat_end) .none kV_beat_end dc_beat_end pm_beat_end an_beat_end cd_beat_end ct_beat_end), sl_beat_end⟩)
    (c_beat_end : PySem.W.codeIn K cd_beat_end "beat_end" = true)
    (k_beat_end : PySem.W.keepIn K (.ref f_beat_end) = true)
    (a_text_fault : PySem.W.nsIn K mainGlobals "text_fault" = some (some (.ref f_text_fault)))
    (l_text_fault : K.lookup f_text_fault = some ⟨oc_text_fault, od_text_fault, .func (PySem.W.fnOf "text_fault" "text_fault" (defArgs s_text_fault) (defBody s_text_fault) (defScope s_text_fault) .none kV_text_fault dc_text_fault pm_text_fault an_text_fault cd_text_fault ct_text_fault), sl_text_fault⟩)
    (c_text_fault : PySem.W.codeIn K cd_text_fault "text_fault" = true)
    (k_text_fault : PySem.W.keepIn K (.ref f_text_fault) = true)
    (a_read_beats : PySem.W.nsIn K mainGlobals "read_beats" = some (some (.ref f_read_beats)))
    (l_read_beats : K.lookup f_read_beats = some ⟨oc_read_beats, od_read_beats, .func (PySem.W.fnOf "read_beats" "read_beats" (defArgs s_read_beats) (defBody s_read_beats) (defScope s_read_beats) .none kV_read_beats dc_read_beats pm_read_beats an_read_beats cd_read_beats ct_read_beats), sl_read_beats⟩)
    (c_read_beats : PySem.W.codeIn K cd_read_beats "read_beats" = true)
    (k_read_beats : PySem.W.keepIn K (.ref f_read_beats) = true)
    (a_landing_counts : PySem.W.nsIn K mainGlobals "landing_counts" = some (some (.ref f_landing_counts)))
    (l_landing_counts : K.lookup f_landing_counts = some ⟨oc_landing_counts, od_landing_counts, .func (PySem.W.fnOf "landing_counts" "landing_counts" (defArgs s_landing_counts) (defBody s_landing_counts) (defScope s_landing_counts) .none kV_landing_counts dc_landing_counts pm_landing_counts an_landing_counts cd_landing_counts ct_landing_counts), sl_landing_counts⟩)
    (c_landing_counts : PySem.W.codeIn K cd_landing_counts "landing_counts" = true)
    (k_landing_counts : PySem.W.keepIn K (.ref f_landing_counts) = true)
    (a_wrong_beat : PySem.W.nsIn K mainGlobals "wrong_beat" = some (some (.ref f_wrong_beat)))
    (l_wrong_beat : K.lookup f_wrong_beat = some ⟨oc_wrong_beat, od_wrong_beat, .func (PySem.W.fnOf "wrong_beat" "wrong_beat" (defArgs s_wrong_beat) (defBody s_wrong_beat) (defScope s_wrong_beat) .none kV_wrong_beat dc_wrong_beat pm_wrong_beat an_wrong_beat cd_wrong_beat ct_wrong_beat), sl_wrong_beat⟩)
    (c_wrong_beat : PySem.W.codeIn K cd_wrong_beat "wrong_beat" = true)
    (k_wrong_beat : PySem.W.keepIn K (.ref f_wrong_beat) = true)
    (a_pattern_refusal : PySem.W.nsIn K mainGlobals "pattern_refusal" = some (some (.ref f_pattern_refusal)))
    (l_pattern_refusal : K.lookup f_pattern_refusal = some ⟨oc_pattern_refusal, od_pattern_refusal, .func (PySem.W.fnOf "pattern_refusal" "pattern_refusal" (defArgs s_pattern_refusal) (defBody s_pattern_refusal) (defScope s_pattern_refusal) .none kV_pattern_refusal dc_pattern_refusal pm_pattern_refusal an_pattern_refusal cd_pattern_refusal ct_pattern_refusal), sl_pattern_refusal⟩)
    (c_pattern_refusal : PySem.W.codeIn K cd_pattern_refusal "pattern_refusal" = true)
    (k_pattern_refusal : PySem.W.keepIn K (.ref f_pattern_refusal) = true)
    (a_most_throws_of : PySem.W.nsIn K mainGlobals "most_throws_of" = some (some (.ref f_most_throws_of)))
    (l_most_throws_of : K.lookup f_most_throws_of = some ⟨oc_most_throws_of, od_most_throws_of, .func (PySem.W.fnOf "most_throws_of" "most_throws_of" (defArgs s_most_throws_of) (defBody s_most_throws_of) (defScope s_most_throws_of) .none kV_most_throws_of dc_most_throws_of pm_most_throws_of an_most_throws_of cd_most_throws_of ct_most_throws_of), sl_most_throws_of⟩)
    (c_most_throws_of : PySem.W.codeIn K cd_most_throws_of "most_throws_of" = true)
    (k_most_throws_of : PySem.W.keepIn K (.ref f_most_throws_of) = true)
    (a_row_of : PySem.W.nsIn K mainGlobals "row_of" = some (some (.ref f_row_of)))
    (l_row_of : K.lookup f_row_of = some ⟨oc_row_of, od_row_of, .func (PySem.W.fnOf "row_of" "row_of" (defArgs s_row_of) (defBody s_row_of) (defScope s_row_of) .none kV_row_of dc_row_of pm_row_of an_row_of cd_row_of ct_row_of), sl_row_of⟩)
    (c_row_of : PySem.W.codeIn K cd_row_of "row_of" = true)
    (k_row_of : PySem.W.keepIn K (.ref f_row_of) = true)
    (a_counts_with_beat : PySem.W.nsIn K mainGlobals "counts_with_beat" = some (some (.ref f_counts_with_beat)))
    (l_counts_with_beat : K.lookup f_counts_with_beat = some ⟨oc_counts_with_beat, od_counts_with_beat, .func (PySem.W.fnOf "counts_with_beat" "counts_with_beat" (defArgs s_counts_with_beat) (defBody s_counts_with_beat) (defScope s_counts_with_beat) .none kV_counts_with_beat dc_counts_with_beat pm_counts_with_beat an_counts_with_beat cd_counts_with_beat ct_counts_with_beat), sl_counts_with_beat⟩)
    (c_counts_with_beat : PySem.W.codeIn K cd_counts_with_beat "counts_with_beat" = true)
    (k_counts_with_beat : PySem.W.keepIn K (.ref f_counts_with_beat) = true)
    (a_count_rows : PySem.W.nsIn K mainGlobals "count_rows" = some (some (.ref f_count_rows)))
    (l_count_rows : K.lookup f_count_rows = some ⟨oc_count_rows, od_count_rows, .func (PySem.W.fnOf "count_rows" "count_rows" (defArgs s_count_rows) (defBody s_count_rows) (defScope s_count_rows) .none kV_count_rows dc_count_rows pm_count_rows an_count_rows cd_count_rows ct_count_rows), sl_count_rows⟩)
    (c_count_rows : PySem.W.codeIn K cd_count_rows "count_rows" = true)
    (k_count_rows : PySem.W.keepIn K (.ref f_count_rows) = true)
    (a_number_of_row : PySem.W.nsIn K mainGlobals "number_of_row" = some (some (.ref f_number_of_row)))
    (l_number_of_row : K.lookup f_number_of_row = some ⟨oc_number_of_row, od_number_of_row, .func (PySem.W.fnOf "number_of_row" "number_of_row" (defArgs s_number_of_row) (defBody s_number_of_row) (defScope s_number_of_row) .none kV_number_of_row dc_number_of_row pm_number_of_row an_number_of_row cd_number_of_row ct_number_of_row), sl_number_of_row⟩)
    (c_number_of_row : PySem.W.codeIn K cd_number_of_row "number_of_row" = true)
    (k_number_of_row : PySem.W.keepIn K (.ref f_number_of_row) = true)
    (a_is_count_asked : PySem.W.nsIn K mainGlobals "is_count_asked" = some (some (.ref f_is_count_asked)))
    (l_is_count_asked : K.lookup f_is_count_asked = some ⟨oc_is_count_asked, od_is_count_asked, .func (PySem.W.fnOf "is_count_asked" "is_count_asked" (defArgs s_is_count_asked) (defBody s_is_count_asked) (defScope s_is_count_asked) .none kV_is_count_asked dc_is_count_asked pm_is_count_asked an_is_count_asked cd_is_count_asked ct_is_count_asked), sl_is_count_asked⟩)
    (c_is_count_asked : PySem.W.codeIn K cd_is_count_asked "is_count_asked" = true)
    (k_is_count_asked : PySem.W.keepIn K (.ref f_is_count_asked) = true)
    (a_place : PySem.W.nsIn K mainGlobals "place" = some (some (.ref f_place)))
    (l_place : K.lookup f_place = some ⟨oc_place, od_place, .func (PySem.W.fnOf "place" "place" (defArgs s_place) (defBody s_place) (defScope s_place) .none kV_place dc_place pm_place an_place cd_place ct_place), sl_place⟩)
    (c_place : PySem.W.codeIn K cd_place "place" = true)
    (k_place : PySem.W.keepIn K (.ref f_place) = true)
    (g_CLOSING : PySem.W.nsIn K mainGlobals "CLOSING" = some (some (.int 93 t_CLOSING)))
    (g_LETTER_A : PySem.W.nsIn K mainGlobals "LETTER_A" = some (some (.int 97 t_LETTER_A)))
    (g_LETTER_F : PySem.W.nsIn K mainGlobals "LETTER_F" = some (some (.int 102 t_LETTER_F)))
    (g_MOST_BEATS : PySem.W.nsIn K mainGlobals "MOST_BEATS" = some (some (.int 16 t_MOST_BEATS)))
    (g_MOST_COUNTED_BALLS : PySem.W.nsIn K mainGlobals "MOST_COUNTED_BALLS" = some (some (.int 8 t_MOST_COUNTED_BALLS)))
    (g_MOST_COUNTED_BEATS : PySem.W.nsIn K mainGlobals "MOST_COUNTED_BEATS" = some (some (.int 5 t_MOST_COUNTED_BEATS)))
    (g_MOST_HEIGHT : PySem.W.nsIn K mainGlobals "MOST_HEIGHT" = some (some (.int 15 t_MOST_HEIGHT)))
    (g_MOST_THROWS : PySem.W.nsIn K mainGlobals "MOST_THROWS" = some (some (.int 3 t_MOST_THROWS)))
    (g_NINE : PySem.W.nsIn K mainGlobals "NINE" = some (some (.int 57 t_NINE)))
    (g_OPENING : PySem.W.nsIn K mainGlobals "OPENING" = some (some (.int 91 t_OPENING)))
    (g_ZERO : PySem.W.nsIn K mainGlobals "ZERO" = some (some (.int 48 t_ZERO)))
    (z_len : PySem.W.nsIn K mainGlobals "len" = some none)
    (z_list : PySem.W.nsIn K mainGlobals "list" = some none)
    (z_max : PySem.W.nsIn K mainGlobals "max" = some none)
    (z_range : PySem.W.nsIn K mainGlobals "range" = some none)
    (z_sorted : PySem.W.nsIn K mainGlobals "sorted" = some none)
    (z_sum : PySem.W.nsIn K mainGlobals "sum" = some none)
    : ∃ fd : FuncData, (∀ (s : Shared) (us : List Value), us.length = (["high", "t"] : List Str).length → BindsTo s fd ⟨us, []⟩ ((["high", "t"] : List Str).zip us)) ∧ ∀ base : Heap, K.In base → base.Ns mainGlobals mg → FnOk P w K mg base CX0 6 fa fd ["high", "t"] (sp_place K) := by
  have e := hfa.symm.trans (PySem.W.mg_of X G a_place)
  cases e
  have T : Txt mg := ⟨⟨_, PySem.W.mg_of X G g_CLOSING⟩, ⟨_, PySem.W.mg_of X G g_LETTER_A⟩, ⟨_, PySem.W.mg_of X G g_LETTER_F⟩, ⟨_, PySem.W.mg_of X G g_MOST_BEATS⟩, ⟨_, PySem.W.mg_of X G g_MOST_COUNTED_BALLS⟩, ⟨_, PySem.W.mg_of X G g_MOST_COUNTED_BEATS⟩, ⟨_, PySem.W.mg_of X G g_MOST_HEIGHT⟩, ⟨_, PySem.W.mg_of X G g_MOST_THROWS⟩, ⟨_, PySem.W.mg_of X G g_NINE⟩, ⟨_, PySem.W.mg_of X G g_OPENING⟩, ⟨_, PySem.W.mg_of X G g_ZERO⟩, PySem.W.mg_none_of X G z_len, PySem.W.mg_none_of X G z_list, PySem.W.mg_none_of X G z_max, PySem.W.mg_none_of X G z_range, PySem.W.mg_none_of X G z_sorted, PySem.W.mg_none_of X G z_sum⟩
  have F_height_of := fun_mk (st := s_height_of) l_height_of c_height_of k_height_of
  have F_bracket_fault := fun_mk (st := s_bracket_fault) l_bracket_fault c_bracket_fault k_bracket_fault
  have F_beat_fault := fun_mk (st := s_beat_fault) l_beat_fault c_beat_fault k_beat_fault
  have F_beat_end := fun_mk (st := s_beat_end) l_beat_end c_beat_end k_beat_end
  have F_text_fault := fun_mk (st := s_text_fault) l_text_fault c_text_fault k_text_fault
  have F_read_beats := fun_mk (st := s_read_beats) l_read_beats c_read_beats k_read_beats
  have F_landing_counts := fun_mk (st := s_landing_counts) l_landing_counts c_landing_counts k_landing_counts
  have F_wrong_beat := fun_mk (st := s_wrong_beat) l_wrong_beat c_wrong_beat k_wrong_beat
  have F_pattern_refusal := fun_mk (st := s_pattern_refusal) l_pattern_refusal c_pattern_refusal k_pattern_refusal
  have F_most_throws_of := fun_mk (st := s_most_throws_of) l_most_throws_of c_most_throws_of k_most_throws_of
  have F_row_of := fun_mk (st := s_row_of) l_row_of c_row_of k_row_of
  have F_counts_with_beat := fun_mk (st := s_counts_with_beat) l_counts_with_beat c_counts_with_beat k_counts_with_beat
  have F_count_rows := fun_mk (st := s_count_rows) l_count_rows c_count_rows k_count_rows
  have F_number_of_row := fun_mk (st := s_number_of_row) l_number_of_row c_number_of_row k_number_of_row
  have F_is_count_asked := fun_mk (st := s_is_count_asked) l_is_count_asked c_is_count_asked k_is_count_asked
  have F_place := fun_mk (st := s_place) l_place c_place k_place
  have b_height_of := F_height_of.binds (ps := ["byte"]) fun _ _ _ _ _ _ us hl => match us, hl with | [_], _ => rfl
  have b_bracket_fault := F_bracket_fault.binds (ps := ["t", "start"]) fun _ _ _ _ _ _ us hl => match us, hl with | [_, _], _ => rfl
  have b_beat_fault := F_beat_fault.binds (ps := ["t", "start"]) fun _ _ _ _ _ _ us hl => match us, hl with | [_, _], _ => rfl
  have b_beat_end := F_beat_end.binds (ps := ["t", "start"]) fun _ _ _ _ _ _ us hl => match us, hl with | [_, _], _ => rfl
  have b_text_fault := F_text_fault.binds (ps := ["t"]) fun _ _ _ _ _ _ us hl => match us, hl with | [_], _ => rfl
  have b_read_beats := F_read_beats.binds (ps := ["t"]) fun _ _ _ _ _ _ us hl => match us, hl with | [_], _ => rfl
  have b_landing_counts := F_landing_counts.binds (ps := ["beats"]) fun _ _ _ _ _ _ us hl => match us, hl with | [_], _ => rfl
  have b_wrong_beat := F_wrong_beat.binds (ps := ["beats"]) fun _ _ _ _ _ _ us hl => match us, hl with | [_], _ => rfl
  have b_pattern_refusal := F_pattern_refusal.binds (ps := ["t"]) fun _ _ _ _ _ _ us hl => match us, hl with | [_], _ => rfl
  have b_most_throws_of := F_most_throws_of.binds (ps := ["beats"]) fun _ _ _ _ _ _ us hl => match us, hl with | [_], _ => rfl
  have b_row_of := F_row_of.binds (ps := ["beats"]) fun _ _ _ _ _ _ us hl => match us, hl with | [_], _ => rfl
  have b_counts_with_beat := F_counts_with_beat.binds (ps := ["counts", "beat", "period", "heights"]) fun _ _ _ _ _ _ us hl => match us, hl with | [_, _, _, _], _ => rfl
  have b_count_rows := F_count_rows.binds (ps := ["begun", "period", "balls", "high"]) fun _ _ _ _ _ _ us hl => match us, hl with | [_, _, _, _], _ => rfl
  have b_number_of_row := F_number_of_row.binds (ps := ["row", "balls", "high"]) fun _ _ _ _ _ _ us hl => match us, hl with | [_, _, _], _ => rfl
  have b_is_count_asked := F_is_count_asked.binds (ps := ["n", "b", "high"]) fun _ _ _ _ _ _ us hl => match us, hl with | [_, _, _], _ => rfl
  refine ⟨PySem.W.fnOf "place" "place" (defArgs s_place) (defBody s_place) (defScope s_place) .none kV_place dc_place pm_place an_place cd_place ct_place, fun s us hu => match us, hu with | [_, _], _ => .of_eq rfl, fun base _ _ => ?_⟩
  have D_height_of : Def P w K mg base "height_of" ["byte"] 1 (sp_height_of K) := ⟨f_height_of, _, ok_height_of F_height_of T, PySem.W.mg_of X G a_height_of, k_height_of, b_height_of⟩
  have D_bracket_fault : Def P w K mg base "bracket_fault" ["t", "start"] 2 (sp_bracket_fault K) := ⟨f_bracket_fault, _, ok_bracket_fault F_bracket_fault T D_height_of, PySem.W.mg_of X G a_bracket_fault, k_bracket_fault, b_bracket_fault⟩
  have D_beat_fault : Def P w K mg base "beat_fault" ["t", "start"] 3 (sp_beat_fault K) := ⟨f_beat_fault, _, ok_beat_fault F_beat_fault T D_bracket_fault D_height_of, PySem.W.mg_of X G a_beat_fault, k_beat_fault, b_beat_fault⟩
  have D_beat_end : Def P w K mg base "beat_end" ["t", "start"] 1 (sp_beat_end K) := ⟨f_beat_end, _, ok_beat_end F_beat_end T, PySem.W.mg_of X G a_beat_end, k_beat_end, b_beat_end⟩
  have D_text_fault : Def P w K mg base "text_fault" ["t"] 4 (sp_text_fault K) := ⟨f_text_fault, _, ok_text_fault F_text_fault T D_beat_fault D_beat_end, PySem.W.mg_of X G a_text_fault, k_text_fault, b_text_fault⟩
  have D_read_beats : Def P w K mg base "read_beats" ["t"] 2 (sp_read_beats K) := ⟨f_read_beats, _, ok_read_beats F_read_beats T D_beat_end D_height_of, PySem.W.mg_of X G a_read_beats, k_read_beats, b_read_beats⟩
  have D_landing_counts : Def P w K mg base "landing_counts" ["beats"] 1 (sp_landing_counts K) := ⟨f_landing_counts, _, ok_landing_counts F_landing_counts T, PySem.W.mg_of X G a_landing_counts, k_landing_counts, b_landing_counts⟩
  have D_wrong_beat : Def P w K mg base "wrong_beat" ["beats"] 2 (sp_wrong_beat K) := ⟨f_wrong_beat, _, ok_wrong_beat F_wrong_beat T D_landing_counts, PySem.W.mg_of X G a_wrong_beat, k_wrong_beat, b_wrong_beat⟩
  have D_pattern_refusal : Def P w K mg base "pattern_refusal" ["t"] 5 (sp_pattern_refusal K) := ⟨f_pattern_refusal, _, ok_pattern_refusal F_pattern_refusal T D_text_fault D_wrong_beat D_read_beats, PySem.W.mg_of X G a_pattern_refusal, k_pattern_refusal, b_pattern_refusal⟩
  have D_most_throws_of : Def P w K mg base "most_throws_of" ["beats"] 1 (sp_most_throws_of K) := ⟨f_most_throws_of, _, ok_most_throws_of F_most_throws_of T, PySem.W.mg_of X G a_most_throws_of, k_most_throws_of, b_most_throws_of⟩
  have D_row_of : Def P w K mg base "row_of" ["beats"] 1 (sp_row_of K) := ⟨f_row_of, _, ok_row_of F_row_of T, PySem.W.mg_of X G a_row_of, k_row_of, b_row_of⟩
  have D_counts_with_beat : Def P w K mg base "counts_with_beat" ["counts", "beat", "period", "heights"] 1 (sp_counts_with_beat K) := ⟨f_counts_with_beat, _, ok_counts_with_beat F_counts_with_beat T, PySem.W.mg_of X G a_counts_with_beat, k_counts_with_beat, b_counts_with_beat⟩
  have D_count_rows : Def P w K mg base "count_rows" ["begun", "period", "balls", "high"] 2 (sp_count_rows K) := ⟨f_count_rows, _, ok_count_rows F_count_rows T D_counts_with_beat, PySem.W.mg_of X G a_count_rows, k_count_rows, b_count_rows⟩
  have D_number_of_row : Def P w K mg base "number_of_row" ["row", "balls", "high"] 3 (sp_number_of_row K) := ⟨f_number_of_row, _, ok_number_of_row F_number_of_row T D_count_rows, PySem.W.mg_of X G a_number_of_row, k_number_of_row, b_number_of_row⟩
  have D_is_count_asked : Def P w K mg base "is_count_asked" ["n", "b", "high"] 1 (sp_is_count_asked K) := ⟨f_is_count_asked, _, ok_is_count_asked F_is_count_asked T, PySem.W.mg_of X G a_is_count_asked, k_is_count_asked, b_is_count_asked⟩
  exact ok_place F_place T D_pattern_refusal D_read_beats D_row_of D_is_count_asked D_most_throws_of D_number_of_row
end Jp
open PySem PySem.W PyProof.Rows
set_option maxRecDepth 100000 in
set_option maxHeartbeats 0 in
theorem PySem.Challenge.cw_jugglebench_s14_place_holds : PySem.Challenge.rw_jugglebench_s14_place.Holds := by
  w_on; k_headS; (case hw => exact ⟨[.int 0, .list []], by decide +kernel, by decide +kernel⟩)
  k_fillS
  refine L2.walk_specK (r := PySem.Challenge.rw_jugglebench_s14_place) (k := 6) (CX := L2.CX0) (ps := ["high", "t"]) (sp := Jp.sp_place) (by decide +kernel) rfl rfl ⟨rfl, by decide, by decide⟩ (fun w h Y => PySem.W.kIn_of Y) ?F ?S (fun _ _ _ _ z => z)
  case F =>
    intro w mg fa h Y KX G hmg
    refine' Jp.all_mk KX G hmg ?a_height_of ?l_height_of ?c_height_of ?k_height_of ?a_bracket_fault ?l_bracket_fault ?c_bracket_fault ?k_bracket_fault ?a_beat_fault ?l_beat_fault ?c_beat_fault ?k_beat_fault ?a_beat_end ?l_beat_end ?c_beat_end ?k_beat_end ?a_text_fault ?l_text_fault ?c_text_fault ?k_text_fault ?a_read_beats ?l_read_beats ?c_read_beats ?k_read_beats ?a_landing_counts ?l_landing_counts ?c_landing_counts ?k_landing_counts ?a_wrong_beat ?l_wrong_beat ?c_wrong_beat ?k_wrong_beat ?a_pattern_refusal ?l_pattern_refusal ?c_pattern_refusal ?k_pattern_refusal ?a_most_throws_of ?l_most_throws_of ?c_most_throws_of ?k_most_throws_of ?a_row_of ?l_row_of ?c_row_of ?k_row_of ?a_counts_with_beat ?l_counts_with_beat ?c_counts_with_beat ?k_counts_with_beat ?a_count_rows ?l_count_rows ?c_count_rows ?k_count_rows ?a_number_of_row ?l_number_of_row ?c_number_of_row ?k_number_of_row ?a_is_count_asked ?l_is_count_asked ?c_is_count_asked ?k_is_count_asked ?a_place ?l_place ?c_place ?k_place ?g_CLOSING ?g_LETTER_A ?g_LETTER_F ?g_MOST_BEATS ?g_MOST_COUNTED_BALLS ?g_MOST_COUNTED_BEATS ?g_MOST_HEIGHT ?g_MOST_THROWS ?g_NINE ?g_OPENING ?g_ZERO ?z_len ?z_list ?z_max ?z_range ?z_sorted ?z_sum
    (case a_height_of => k_is)
    (case l_height_of => k_is)
    (case c_height_of => k_is)
    (case k_height_of => k_is)
    (case a_bracket_fault => k_is)
    (case l_bracket_fault => k_is)
    (case c_bracket_fault => k_is)
    (case k_bracket_fault => k_is)
    (case a_beat_fault => k_is)
    (case l_beat_fault => k_is)
    (case c_beat_fault => k_is)
    (case k_beat_fault => k_is)
    (case a_beat_end => k_is)
    (case l_beat_end => k_is)
    (case c_beat_end => k_is)
    (case k_beat_end => k_is)
    (case a_text_fault => k_is)
    (case l_text_fault => k_is)
    (case c_text_fault => k_is)
    (case k_text_fault => k_is)
    (case a_read_beats => k_is)
    (case l_read_beats => k_is)
    (case c_read_beats => k_is)
    (case k_read_beats => k_is)
    (case a_landing_counts => k_is)
    (case l_landing_counts => k_is)
    (case c_landing_counts => k_is)
    (case k_landing_counts => k_is)
    (case a_wrong_beat => k_is)
    (case l_wrong_beat => k_is)
    (case c_wrong_beat => k_is)
    (case k_wrong_beat => k_is)
    (case a_pattern_refusal => k_is)
    (case l_pattern_refusal => k_is)
    (case c_pattern_refusal => k_is)
    (case k_pattern_refusal => k_is)
    (case a_most_throws_of => k_is)
    (case l_most_throws_of => k_is)
    (case c_most_throws_of => k_is)
    (case k_most_throws_of => k_is)
    (case a_row_of => k_is)
    (case l_row_of => k_is)
    (case c_row_of => k_is)
    (case k_row_of => k_is)
    (case a_counts_with_beat => k_is)
    (case l_counts_with_beat => k_is)
    (case c_counts_with_beat => k_is)
    (case k_counts_with_beat => k_is)
    (case a_count_rows => k_is)
    (case l_count_rows => k_is)
    (case c_count_rows => k_is)
    (case k_count_rows => k_is)
    (case a_number_of_row => k_is)
    (case l_number_of_row => k_is)
    (case c_number_of_row => k_is)
    (case k_number_of_row => k_is)
    (case a_is_count_asked => k_is)
    (case l_is_count_asked => k_is)
    (case c_is_count_asked => k_is)
    (case k_is_count_asked => k_is)
    (case a_place => k_is)
    (case l_place => k_is)
    (case c_place => k_is)
    (case k_place => k_is)
    (case g_CLOSING => k_is)
    (case g_LETTER_A => k_is)
    (case g_LETTER_F => k_is)
    (case g_MOST_BEATS => k_is)
    (case g_MOST_COUNTED_BALLS => k_is)
    (case g_MOST_COUNTED_BEATS => k_is)
    (case g_MOST_HEIGHT => k_is)
    (case g_MOST_THROWS => k_is)
    (case g_NINE => k_is)
    (case g_OPENING => k_is)
    (case g_ZERO => k_is)
    (case z_len => k_is)
    (case z_list => k_is)
    (case z_max => k_is)
    (case z_range => k_is)
    (case z_sorted => k_is)
    (case z_sum => k_is)
  case S =>
    intro K H xs a hO hwi hask hx
    obtain ⟨x0, x1, u⟩ := a
    have hx : L2.DwAll K H xs [WData.int x0, WData.list (x1.map WData.int)] := hx
    have q : (Codec.inInt 0 4294967295 x0 && ((Codec.inLen 0 64 x1 && x1.all (Codec.inInt 0 255)) && true)) = true := hwi
    obtain ⟨v0, xs0, hv0, hx0, rfl⟩ : ∃ v r, L2.Dw K H v _ ∧ L2.DwAll K H r _ ∧ xs = v :: r := by cases hx with | cons h1 h2 => exact ⟨_, _, h1, h2, rfl⟩
    obtain ⟨v1, xs1, hv1, hx1, rfl⟩ : ∃ v r, L2.Dw K H v _ ∧ L2.DwAll K H r _ ∧ xs0 = v :: r := by cases hx0 with | cons h1 h2 => exact ⟨_, _, h1, h2, rfl⟩
    cases hx1
    obtain rfl : v0 = L2.V.int x0 := by cases hv0; rfl
    obtain ⟨a1, rfl, hs1⟩ : ∃ a, v1 = L2.V.ref a ∧ L2.SqL K H a (x1.map L2.V.int) := by
      cases hv1 with
      | lst hs ha =>
        have e := L2.ints_dw x1 _ ha
        subst e
        exact ⟨_, rfl, hs⟩
    simp only [Bool.and_eq_true] at q

    obtain ⟨q0, ⟨q1, q2⟩, _⟩ := q
    exact ⟨a1, x0, x1, rfl, (Codec.inInt_iff.mp q0).1, hs1, fun z hz => Codec.inInt_iff.mp (List.all_eq_true.mp q2 z hz), (Codec.inNat_iff.mp q1).2, fun v H' ⟨x, e, hx⟩ => by subst e; exact .lst (L2.SqL.of hx) (L2.dw_ints _)⟩
#print axioms PySem.Challenge.cw_jugglebench_s14_place_holds
