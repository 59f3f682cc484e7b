import PyProof.Rows.All
import Wide.All
import OpenK.AllK
import Wide.FinOn
import PyProof.EqAt
import PyProof.EqKinds
import PyProof.TupleCall
import KE.BitLaws
import Open.SpecLaws
import KE.OsHead
import KE.OsGo
import PyProof.Rows.SortRev
import PyProof.MinMaxWalk
import PyProof.ListMulRoad
import PyProof.WalksMore
import PyProof.WalkInts
import PyProof.Rows.TupDisplay
import PySem.Challenge.RW_jugglebench_s06_join
set_option Elab.async false
set_option linter.all false
set_option maxRecDepth 100000
/-! THE HAND LAYER, for ints, bools, texts, own classes, lists, tuples, dicts, comprehensions, walks over dicts, enumerate, zip, reversed, texts, calls, loops. Paste it whole ahead of your own text; what your proof does not reach may be deleted. -/
namespace L2
open PySem PySem.Spec PyProof.Rows

/-- a key: an int or a str -/
abbrev Key := Sum Int Str
def keyIs : Key → Value → Bool
  | .inl k, v => Value.isInt k v
  | .inr x, v => Value.isStrOf x v
def keyH (w : World) : Key → Int
  | .inl k => hashInt k
  | .inr x => hashStr w x
theorem keyIs_shape : ∀ {k : Key} {v : Value}, keyIs k v = true → (∃ i t, k = Sum.inl i ∧ v = Value.int i t) ∨ (∃ x t, k = Sum.inr x ∧ v = Value.str x t)
  | .inl i, v, h => by
    obtain ⟨t, e⟩ := Value.isInt_shape (k := i) (v := v) h
    exact .inl ⟨i, t, rfl, e⟩
  | .inr x, v, h => by
    obtain ⟨t, e⟩ := Value.isStrOf_shape (x := x) (v := v) h
    exact .inr ⟨x, t, rfl, e⟩
theorem keyIs_int (i : Int) (t : Tok) : keyIs (.inl i) (.int i t) = true := by simp [keyIs, Value.isInt]
theorem keyIs_str (x : Str) (t : Tok) : keyIs (.inr x) (.str x t) = true := by simp [keyIs, Value.isStrOf]
theorem key_ll (a b : Int) : decide ((Sum.inl a : Key) = Sum.inl b) = (a == b) := by
  by_cases e : a = b
  · subst e; simp
  · have h : ¬ (Sum.inl a : Key) = Sum.inl b := fun q => e (Sum.inl.inj q)
    rw [decide_eq_false h]
    exact (beq_eq_false_iff_ne.mpr e).symm
theorem key_rr (a b : Str) : decide ((Sum.inr a : Key) = Sum.inr b) = decide (a = b) := by
  by_cases e : a = b
  · subst e; simp
  · have h : ¬ (Sum.inr a : Key) = Sum.inr b := fun q => e (Sum.inr.inj q)
    rw [decide_eq_false h, decide_eq_false e]
theorem key_lr (a : Int) (b : Str) : decide ((Sum.inl a : Key) = Sum.inr b) = false := decide_eq_false (fun q => nomatch q)
theorem key_rl (a : Str) (b : Int) : decide ((Sum.inr a : Key) = Sum.inl b) = false := decide_eq_false (fun q => nomatch q)

def mixKind (prog : Program) (w : World) : PySem.KeyKind prog w Key where
  is := keyIs
  hash := keyH w
  inj := fun v a b ha hb => by
    rcases keyIs_shape ha with ⟨i, t, rfl, rfl⟩ | ⟨x, t, rfl, rfl⟩
    · rcases keyIs_shape hb with ⟨j, u, rfl, e⟩ | ⟨y, u, rfl, e⟩
      · injection e with e1 _; rw [e1]
      · exact nomatch e
    · rcases keyIs_shape hb with ⟨j, u, rfl, e⟩ | ⟨y, u, rfl, e⟩
      · exact nomatch e
      · injection e with e1 _; rw [e1]
  byValue := fun k v h => by
    rcases keyIs_shape h with ⟨i, t, rfl, rfl⟩ | ⟨x, t, rfl, rfl⟩ <;> rfl
  pyHash := fun hv h => by
    rcases keyIs_shape hv with ⟨i, t, rfl, rfl⟩ | ⟨x, t, rfl, rfl⟩
    · exact wpAny_pyHash_int h
    · exact wpAny_pyHash_str h
  eqBool := fun hu hv h => by
    rcases keyIs_shape hu with ⟨i, t, rfl, rfl⟩ | ⟨x, t, rfl, rfl⟩
    · rcases keyIs_shape hv with ⟨j, u, rfl, rfl⟩ | ⟨y, u, rfl, rfl⟩
      · rw [key_ll] at h; exact wpAny_eqBool_int h
      · rw [key_lr] at h; exact SeqAt.EqAt.int_str i t y u _ _ _ _ h
    · rcases keyIs_shape hv with ⟨j, u, rfl, rfl⟩ | ⟨y, u, rfl, rfl⟩
      · rw [key_rl] at h; exact SeqAt.EqAt.str_int x t j u _ _ _ _ h
      · rw [key_rr] at h; exact wpAny_eqBool_str h
  «strs» := fun k x t v h => by
    rcases keyIs_shape h with ⟨i, u, rfl, e⟩ | ⟨y, u, rfl, e⟩
    · exact nomatch e
    · injection e with e1 _
      subst e1
      cases v <;> rfl

theorem mixKind_int (prog : Program) (w : World) (i : Int) (t : Tok) : (mixKind prog w).is (.inl i) (.int i t) = true := keyIs_int i t
theorem mixKind_str (prog : Program) (w : World) (x : Str) (t : Tok) : (mixKind prog w).is (.inr x) (.str x t) = true := keyIs_str x t
end L2

namespace L2
open PySem PySem.Spec PyProof.Rows

/-- a value, without the heap -/
inductive V where
  | non | bl (b : Bool) | int (i : Int) | str (x : Str) | byt (b : Array UInt8) | flt (b : UInt64) | ref (a : Addr) | ty (n : String)
  deriving DecidableEq

def RelV : V → Value → Prop
  | .non, u => u = Value.none
  | .bl b, u => u = Value.bool b
  | .int i, u => ∃ t, u = Value.int i t
  | .str x, u => ∃ t, u = Value.str x t
  | .byt b, u => ∃ t, u = Value.bytes b t
  | .flt b, u => ∃ t, u = Value.float b t
  | .ref a, u => u = Value.ref a
  | .ty n, u => u = Value.type n

abbrev Vals : List V → List Value → Prop := Paired RelV
theorem Vals.length {xs : List V} {us : List Value} (r : Vals xs us) : xs.length = us.length := Paired.length r
theorem Vals.get : ∀ {xs : List V} {us : List Value} {i : Nat} {x : V}, Vals xs us → xs[i]? = some x → ∃ u, us[i]? = some u ∧ RelV x u
  | _, _, _, _, .nil, e => by simp at e
  | _, _, 0, _, .cons r _, e => by simp at e; subst e; exact ⟨_, rfl, r⟩
  | _, _, i + 1, x, .cons _ t, e => by
    obtain ⟨u, h1, h2⟩ := Vals.get (i := i) (x := x) t (by simpa using e)
    exact ⟨u, by simpa using h1, h2⟩
theorem Vals.set {x : V} {u : Value} (r : RelV x u) : ∀ {xs : List V} {us : List Value} (i : Nat), Vals xs us → Vals (xs.set i x) (us.set i u)
  | _, _, _, .nil => .nil
  | _, _, 0, .cons _ t => .cons r t
  | _, _, i + 1, .cons q t => .cons q (Vals.set r i t)
theorem Vals.append : ∀ {xs ys : List V} {us ws : List Value}, Vals xs us → Vals ys ws → Vals (xs ++ ys) (us ++ ws)
  | _, _, _, _, .nil, s => s
  | _, _, _, _, .cons r t, s => .cons r (Vals.append t s)
theorem Vals.take : ∀ {xs : List V} {us : List Value} (n : Nat), Vals xs us → Vals (xs.take n) (us.take n)
  | _, _, 0, _ => .nil
  | _, _, _ + 1, .nil => .nil
  | _, _, n + 1, .cons r t => .cons r (Vals.take n t)
theorem Vals.drop : ∀ {xs : List V} {us : List Value} (n : Nat), Vals xs us → Vals (xs.drop n) (us.drop n)
  | _, _, 0, r => r
  | _, _, _ + 1, .nil => .nil
  | _, _, n + 1, .cons _ t => Vals.drop n t

def RelO : Option V → Option Value → Prop
  | some v, some u => RelV v u
  | none, none => True
  | _, _ => False
def KV {κ : Type} : List (κ × V) → List (κ × Value) → Prop := Paired fun (p : κ × V) (q : κ × Value) => p.1 = q.1 ∧ RelV p.2 q.2

/-- a key of a dict (00_mix): an int or a text -/
def kV : Key → V
  | .inl i => .int i
  | .inr x => .str x

/-- what stands at a tracked address -/
inductive HO where
  /-- a list -/
  | lst (xs : List V)
  /-- a tuple (never changes) -/
  | tup (xs : List V)
  /-- a dict whose keys are ints and texts; one whose keys are tuples of ints and texts (the empty one is both) -/
  | dK (kvs : List (Key × V)) | dT (kvs : List (List Key × V))
  /-- a set of ints: its members, its size -/
  | set (S : Int → Bool) (n : Nat)
  /-- an instance of the class at C, its dict at dx, its attributes -/
  | ins (C dx : Addr) (fs : List (Str × V))
  /-- the dict of the instance at x -/
  | own (x : Addr)
  /-- the dict of an exception -/
  | xd (fs : List (Str × V))
  /-- a bound method, f of x -/
  | met (f x : Addr)
  /-- a range object lo, lo + 1, .. below hi -/
  | rng (lo hi : Int)
  /-- a thing that is known to the object (the script; a dict while a loop walks it): read, never written while it is so -/
  | frz (o : Obj) (u : HO)
  /-- a code object's table -/
  | tbl (ps : Array Value)
  /-- any other thing, by what is true of its one object (a def of one's own: SetO a S n := HO.ext fun h => ..) -/
  | ext (φ : Heap → Prop)

abbrev Hp := Addr → Option HO
def upd (H : Hp) (a : Addr) (o : HO) : Hp := fun b => if b = a then some o else H b
theorem upd_same {H : Hp} {a : Addr} {o : HO} : upd H a o a = some o := by unfold upd; rw [if_pos rfl]
theorem upd_ne {H : Hp} {a b : Addr} {o : HO} (h : b ≠ a) : upd H a o b = H b := by unfold upd; rw [if_neg h]

/-- two objects of different content stand apart -/
theorem ne_of {H : Hp} {a b : Addr} {o u : HO} (h : H a = some o) (h' : H b = some u) (d : o ≠ u) : a ≠ b := by
  intro e; subst e; rw [h] at h'; exact d (Option.some.inj h')
theorem ne_of_none {H : Hp} {a b : Addr} {o : HO} (h : H a = some o) (h' : H b = none) : a ≠ b := by
  intro e; subst e; rw [h] at h'; cases h'

section
variable (P : Program) (w : World)
def ObjOk (H : Hp) (h : Heap) (a : Addr) : HO → Prop
  | .lst xs => xs.length ≤ sizeLine ∧ ∃ (its : List Value) (n : Nat), Vals xs its ∧ h.get? a = some { cls := .type "list", data := .seq its.toArray n }
  | .tup xs => xs.length ≤ sizeLine ∧ ∃ its : List Value, Vals xs its ∧ IsTup h a its.toArray
  | .dK kvs => kvs.length ≤ sizeLine ∧ (a == sysModules) = false ∧ ∃ vs, KV kvs vs ∧ h.DictOf (mixKind P w) a vs
  | .dT kvs => kvs.length ≤ sizeLine ∧ (a == sysModules) = false ∧ ∃ xs : List (List Key × Addr × Value),
      Paired (fun (p : List Key × V) (q : List Key × Addr × Value) => p.1 = q.1 ∧ H q.2.1 = some (.tup (p.1.map kV)) ∧ RelV p.2 q.2.2) kvs xs ∧
      ∃ o es ep, h.get? a = some o ∧ o.ExactDict ∧ o.data = .dict es ep ∧ es.toList = xs.map (entryOfKey (tupleKind (mixKind P w))) ∧ (xs.map (·.1)).Nodup
  | .set S n => h.SetOf (intKind P w) a S n
  | .ins C dx fs => H dx = some (.own a) ∧ fs.length ≤ 1000 ∧ dx ≠ a ∧ h.get? a = some (PySem.W.instObj C dx) ∧
      ∃ mA, h.Ns1 dx mA ∧ (∀ f, RelO (fs.lookup f) (mA f)) ∧ PySem.Within mA (fs.map (·.1))
  | .own _ => ∃ o, h.get? a = some o
  | .xd fs => ∃ mA, h.Ns1 a mA ∧ ∀ f, RelO (fs.lookup f) (mA f)
  | .rng lo hi => ∃ t u v, h.get? a = some { cls := .type "range", data := .fields #[.int lo t, .int hi u, .int 1 v] }
  | .frz o u => h.get? a = some o ∧ ObjOk H h a u
  | .tbl ps => h.get? a = some { cls := .none, data := .fields ps }
  | .met f x => h.get? a = some (PySem.W.methodObj (.ref f) (.ref x))
  | .ext φ => φ h ∧ (∃ o, h.get? a = some o) ∧ ∀ h1 h2 : Heap, φ h1 → (∀ o, h1.get? a = some o → h2.get? a = some o) → φ h2
/-- the abstract heap is held -/
def HOk (H : Hp) (h : Heap) : Prop := ∀ a o, H a = some o → ObjOk P w H h a o
end

section
variable {P : Program} {w : World} {H H' : Hp} {h h' : Heap} {a : Addr} {o : HO}
theorem ObjOk.lt (x : ObjOk P w H h a o) : a < h.objs.size := by
  cases o with
  | lst xs => obtain ⟨_, _, _, _, e⟩ := x; exact Heap.lt_size e
  | tup xs => obtain ⟨_, _, _, p⟩ := x; exact p.lt
  | dK kvs => obtain ⟨_, _, _, _, o, _, _, e, _⟩ := x; exact Heap.lt_size e
  | dT kvs => obtain ⟨_, _, _, _, o, _, _, e, _⟩ := x; exact Heap.lt_size e
  | set S n => obtain ⟨o, _, _, _, e, _⟩ := x; exact Heap.lt_size e
  | ins C dx fs => obtain ⟨_, _, _, e, _⟩ := x; exact Heap.lt_size e
  | own y => obtain ⟨_, e⟩ := x; exact Heap.lt_size e
  | xd fs => obtain ⟨_, ⟨_, _, _, e, _⟩, _⟩ := x; exact Heap.lt_size e
  | rng lo hi => obtain ⟨_, _, _, e⟩ := x; exact Heap.lt_size e
  | frz ob u => obtain ⟨e, _⟩ := x; exact Heap.lt_size e
  | tbl ps => exact Heap.lt_size (show h.get? a = some _ from x)
  | met f y => exact Heap.lt_size (show h.get? a = some _ from x)
  | ext φ => obtain ⟨_, ⟨_, e⟩, _⟩ := x; exact Heap.lt_size e
theorem Paired.mapP {α β : Type} {F G : α → β → Prop} : ∀ {l₁ : List α} {l₂ : List β}, Paired F l₁ l₂ → (∀ a b, F a b → G a b) → Paired G l₁ l₂
  | _, _, .nil, _ => .nil
  | _, _, .cons r t, f => .cons (f _ _ r) (Paired.mapP t f)
theorem Paired.imp' {α β : Type} {F G : α → β → Prop} (f : ∀ a b, F a b → G a b) {l₁ : List α} {l₂ : List β} (r : Paired F l₁ l₂) : Paired G l₁ l₂ := Paired.mapP r f
/-- what an object's description leans on: its own object, its own dict, the tuples -/
theorem ObjOk.stay (x : ObjOk P w H h a o) (k : ∀ b u, (b = a ∨ H b = some (.own a)) → h.get? b = some u → h'.get? b = some u)
    (ho : ∀ b, H b = some (.own a) → H' b = some (.own a)) (ht : ∀ b xs, H b = some (.tup xs) → H' b = some (.tup xs)) : ObjOk P w H' h' a o := by
  induction o with
  | lst xs => obtain ⟨z, its, n, r, e⟩ := x; exact ⟨z, its, n, r, k _ _ (.inl rfl) e⟩
  | tup xs => obtain ⟨z, its, r, ob, e, c⟩ := x; exact ⟨z, its, r, ob, k _ _ (.inl rfl) e, c⟩
  | dK kvs => obtain ⟨z, y, vs, r, ob, es, ep, e, c⟩ := x; exact ⟨z, y, vs, r, ob, es, ep, k _ _ (.inl rfl) e, c⟩
  | dT kvs =>
    obtain ⟨z, y, xs, r, ob, es, ep, e, c⟩ := x
    exact ⟨z, y, xs, Paired.mapP r fun p q z => ⟨z.1, ht _ _ z.2.1, z.2.2⟩, ob, es, ep, k _ _ (.inl rfl) e, c⟩
  | set S n => obtain ⟨ob, es, ep, t, e, c⟩ := x; exact ⟨ob, es, ep, t, k _ _ (.inl rfl) e, c⟩
  | ins C dx fs =>
    obtain ⟨d, z, ne, e, mA, ⟨od, es, ep, e2, c⟩, r⟩ := x
    exact ⟨ho _ d, z, ne, k _ _ (.inl rfl) e, mA, ⟨od, es, ep, k _ _ (.inr d) e2, c⟩, r⟩
  | own y => obtain ⟨ob, e⟩ := x; exact ⟨ob, k _ _ (.inl rfl) e⟩
  | xd fs => obtain ⟨mA, ⟨od, es, ep, e, c⟩, r⟩ := x; exact ⟨mA, ⟨od, es, ep, k _ _ (.inl rfl) e, c⟩, r⟩
  | rng lo hi => obtain ⟨t, u, v, e⟩ := x; exact ⟨t, u, v, k _ _ (.inl rfl) e⟩
  | frz ob u ih => obtain ⟨e, q⟩ := x; exact ⟨k _ _ (.inl rfl) e, ih q⟩
  | tbl ps =>
    have e : h.get? a = some { cls := .none, data := .fields ps } := x
    show h'.get? a = some { cls := .none, data := .fields ps }
    exact k a _ (.inl rfl) e
  | met f y =>
    have e : h.get? a = some (PySem.W.methodObj (.ref f) (.ref y)) := x
    show h'.get? a = some (PySem.W.methodObj (.ref f) (.ref y))
    exact k a _ (.inl rfl) e
  | ext φ => obtain ⟨p, ⟨o, e⟩, st⟩ := x; exact ⟨st _ _ p fun o q => k _ _ (.inl rfl) q, ⟨o, k _ _ (.inl rfl) e⟩, st⟩
theorem HOk.lt (x : HOk P w H h) (e : H a = some o) : a < h.objs.size := (x a o e).lt
theorem HOk.fresh (x : HOk P w H h) (e : h.objs.size ≤ a) : H a = none := by
  cases q : H a with
  | none => rfl
  | some u => exact absurd (Nat.lt_of_lt_of_le (x.lt q) e) (Nat.lt_irrefl _)
/-- every object of the heap is kept -/
theorem HOk.kept (x : HOk P w H h) (k : ∀ b u, h.get? b = some u → h'.get? b = some u) : HOk P w H h' := fun a o e =>
  (x a o e).stay (fun b u _ q => k b u q) (fun _ q => q) fun _ _ q => q
/-- a new object is laid and tracked -/
theorem HOk.laid (x : HOk P w H h) (k : ∀ b u, h.get? b = some u → h'.get? b = some u) (hp : h.objs.size ≤ a) (new : ObjOk P w (upd H a o) h' a o) : HOk P w (upd H a o) h' := fun b u e => by
  have hn := x.fresh hp
  by_cases hb : b = a
  · subst hb; rw [upd_same] at e; cases e; exact new
  · rw [upd_ne hb] at e
    exact (x b u e).stay (fun c v _ q => k c v q) (fun c q => by rw [upd_ne (ne_of_none q hn)]; exact q) fun c xs q => by rw [upd_ne (ne_of_none q hn)]; exact q
end

/-- what may be read as u: it is u, or a known u -/
def Rd (H : Hp) (a : Addr) (u : HO) : Prop := H a = some u ∨ ∃ o, H a = some (.frz o u)

theorem Rd.ok {P : Program} {w : World} {H : Hp} {h : Heap} {a : Addr} {u : HO} (r : Rd H a u) (x : HOk P w H h) : ObjOk P w H h a u := by
  rcases r with r | ⟨o, r⟩
  · exact x a u r
  · obtain ⟨_, q⟩ := x a _ r
    exact q
/-- what may be written -/
def Mut : Option HO → Prop
  | some (.lst _) => True
  | some (.dK _) => True
  | some (.dT _) => True
  | some (.set _ _) => True
  | some (.ins _ _ _) => True
  | some (.ext _) => True
  | _ => False
section
variable {P : Program} {w : World} {H : Hp} {h h' : Heap} {x e : Addr} {o' : HO}
/-- the object at e is changed: x itself, or the dict of the instance x -/
theorem HOk.write (ok : HOk P w H h) (mu : Mut (H x)) (he : e = x ∨ H e = some (.own x)) (k : ∀ b u, b ≠ e → h.get? b = some u → h'.get? b = some u) (heo : ∃ u, h'.get? e = some u)
    (new : ObjOk P w (upd H x o') h' x o') : HOk P w (upd H x o') h' := fun b u q => by
  have nown : ∀ c y, H c = some (.own y) → c ≠ x := fun c y r z => by subst z; rw [r] at mu; exact mu
  have ntup : ∀ c xs, H c = some (.tup xs) → c ≠ x := fun c xs r z => by subst z; rw [r] at mu; exact mu
  by_cases hb : b = x
  · subst hb; rw [upd_same] at q; cases q; exact new
  · rw [upd_ne hb] at q
    by_cases hbe : b = e
    · have q' : H b = some (.own x) := by
        rcases he with z | z
        · exact absurd (hbe.trans z) hb
        · rw [hbe]; exact z
      rw [q] at q'; cases q'
      obtain ⟨v, hv⟩ := heo
      exact ⟨v, by rw [hbe]; exact hv⟩
    · refine (ok b u q).stay (fun c v hc r => k c v ?_ r) (fun c r => by rw [upd_ne (nown c b r)]; exact r) fun c xs r => by rw [upd_ne (ntup c xs r)]; exact r
      rcases hc with rfl | hc
      · exact hbe
      · rintro rfl
        rcases he with z | z
        · exact nown c b hc z
        · rw [hc] at z; cases z; exact hb rfl
end

/-! ### kept unless tracked; of the frames at fs (the callers') the slots may change (an exception that passes writes there); of the records at ex (iterators) nothing is said -/
structure Un (fs ex : List Addr) (H H' : Hp) (h h' : Heap) : Prop where
  keep : ∀ b o, h.get? b = some o → H b = none → b ∉ fs → b ∉ ex → h'.get? b = some o
  slot : ∀ b o, h.get? b = some o → H b = none → b ∈ fs → b ∉ ex → ∃ sl, h'.get? b = some { o with slots := sl }
  free : ∀ b o, h.get? b = some o → H b = none → b ∉ ex → H' b = none
  there : ∀ b o, h.get? b = some o → b ∉ ex → ∃ o', h'.get? b = some o'
  tups : ∀ b xs, H b = some (.tup xs) → H' b = some (.tup xs)
  frzs : ∀ b o u, H b = some (.frz o u) → H' b = some (.frz o u)
  tbls : ∀ b ps, H b = some (.tbl ps) → ∃ more, H' b = some (.tbl (ps ++ more))
section
variable {fs fs' ex ex' : List Addr} {H H1 H2 : Hp} {h h1 h2 h' : Heap} {a x e : Addr} {o : HO}
theorem Un.any (u : Un fs ex H H1 h h1) {b : Addr} {ob : Obj} (q : h.get? b = some ob) (n : H b = none) (hx : b ∉ ex) : ∃ sl, h1.get? b = some { ob with slots := sl } := by
  by_cases hb : b ∈ fs
  · exact u.slot b ob q n hb hx
  · exact ⟨ob.slots, u.keep b ob q n hb hx⟩

theorem Un.kept (k : ∀ b u, h.get? b = some u → h'.get? b = some u) : Un fs ex H H h h' :=
  ⟨fun b ob q _ _ _ => k b ob q, fun b ob q _ _ _ => ⟨ob.slots, k b ob q⟩, fun _ _ _ n _ => n, fun b ob q _ => ⟨ob, k b ob q⟩, fun _ _ q => q, fun _ _ _ q => q, fun _ ps q => ⟨#[], by rw [q]; simp⟩⟩
theorem Un.refl : Un fs ex H H h h := Un.kept fun _ _ q => q
theorem Un.laid (k : ∀ b u, h.get? b = some u → h'.get? b = some u) (hp : h.objs.size ≤ a) (hn : H a = none) : Un fs ex H (upd H a o) h h' where
  keep := fun b u q _ _ _ => k b u q
  slot := fun b u q _ _ _ => ⟨u.slots, k b u q⟩
  free := fun b u q n _ => by rw [upd_ne (Nat.ne_of_lt (Nat.lt_of_lt_of_le (Heap.lt_size q) hp))]; exact n
  there := fun b u q _ => ⟨u, k b u q⟩
  tups := fun b xs q => by rw [upd_ne (ne_of_none q hn)]; exact q
  frzs := fun b u xs q => by rw [upd_ne (ne_of_none q hn)]; exact q
  tbls := fun b ps q => ⟨#[], by rw [upd_ne (ne_of_none q hn), q]; simp⟩
theorem Un.write (mu : Mut (H x)) (he : e = x ∨ H e = some (.own x)) (k : ∀ b u, b ≠ e → h.get? b = some u → h'.get? b = some u) (heo : ∃ u, h'.get? e = some u) : Un fs ex H (upd H x o) h h' := by
  have hx : ∀ b, H b = none → b ≠ x := fun b n z => by subst z; rw [n] at mu; exact mu
  have hb : ∀ b, H b = none → b ≠ e := fun b n z => by
    subst z
    rcases he with r | r
    · exact hx b n r
    · rw [n] at r; cases r
  have hm : ∀ b u, H b = some u → ¬ Mut (some u) → b ≠ x := fun b u q nm z => by subst z; rw [q] at mu; exact nm mu
  refine ⟨fun b u q n _ _ => k b u (hb b n) q, fun b u q n _ _ => ⟨u.slots, k b u (hb b n) q⟩, fun b u q n _ => by rw [upd_ne (hx b n)]; exact n, fun b u q _ => ?_,
    fun b xs q => by rw [upd_ne (hm b _ q fun z => z)]; exact q, fun b u xs q => by rw [upd_ne (hm b _ q fun z => z)]; exact q, fun b ps q => ⟨#[], by rw [upd_ne (hm b _ q fun z => z), q]; simp⟩⟩
  by_cases hbe : b = e
  · subst hbe; exact heo
  · exact ⟨u, k b u hbe q⟩

end

/-! ### the heap without what is tracked -/
def trk (h : Heap) (H : Hp) : List Addr := (List.range h.objs.size).filter fun a => (H a).isSome
def hidT (h : Heap) (H : Hp) : Heap := PySem.W.hideAll h (trk h H)
theorem hidT_size (h : Heap) (H : Hp) : (hidT h H).objs.size = h.objs.size := PySem.W.hideAll_size _ _
theorem hidT_get {h : Heap} {H : Hp} {b : Addr} {o : Obj} (e : h.get? b = some o) (n : H b = none) : (hidT h H).get? b = some o :=
  PySem.W.hideAll_get _ e fun hm => by
    have q : (H b).isSome = true := (List.mem_filter.mp hm).2
    rw [n] at q; simp at q
theorem of_hidT {h : Heap} {H : Hp} {b : Addr} {o : Obj} (e : (hidT h H).get? b = some o) : h.get? b = some o ∧ H b = none := by
  have e' : h.get? b = some o := PySem.W.of_hideAll (trk h H) e
  refine ⟨e', ?_⟩
  cases q : H b with
  | none => rfl
  | some x =>
    have hm : b ∈ trk h H := List.mem_filter.mpr ⟨List.mem_range.mpr (Heap.lt_size e'), by simp [q]⟩
    have z : (hidT h H).get? b = none := PySem.W.hideAll_none (trk h H) hm
    rw [z] at e; cases e

/-! ### OpenK's ledger, filled with every new object but one -/

end L2

namespace L2
open PySem PySem.Spec PyProof.Rows

/-- the module's facts, over the base: the heap at the law's entry without what is tracked there -/
structure Mod (K : PySem.W.Frag) (mg : Str → Option Value) (base : Heap) : Prop where
  kin : K.In base
  glob : base.Ns mainGlobals mg
  blt : ∃ mb, base.Ns builtinsNs mb ∧ ∀ x : Str, x ≠ "__name__" → mb x = bootBuiltins x
  nolimit : base.NoLimit

/-- the context: a def's body (or a comprehension's block) running. base: fixed through the whole law; s₀, H₀: the entry; outer: the frames whose slots others may change (a def's callers); stack: all frames that run;
   ex: iterators that were made ahead of the entry and are walked here (a comprehension's); fn: the names whose cells were made at the entry (a def: all; a comprehension's block: its own); calm: not within an except suite; pn: pins that every state bears; xe: what is wanted of an exception that leaves the code -/
structure Cx where
  prog : Program
  w : World
  K : PySem.W.Frag
  mg : Str → Option Value
  base : Heap
  A : Around
  N : List Str
  s_0 : Shared
  H_0 : Hp
  env : Env
  outer : List Env
  stack : List Env
  ex : List Addr
  fn : Str → Bool
  calm : Bool
  pn : List (Addr × Obj)
  xe : Value → Shared → Prop
/-- the callers' frames -/
def frs (l : List Env) : List Addr := l.filterMap (·.frame)
abbrev Cx.fs (X : Cx) : List Addr := frs X.outer

def Vis (sc : Scope) (x : Str) : Prop := sc.names.lookup x = some .local ∨ sc.names.lookup x = some .cell ∨ sc.names.lookup x = some .free
def Loc (sc : Scope) (x : Str) : Prop := sc.names.lookup x = some .local ∨ sc.names.lookup x = some .cell
def Look (env : Env) (h : Heap) (m : Str → Option Value) (x : Str) (u : Value) : Prop :=
  (env.kindOf x = some .local ∧ m x = some u) ∨ ((env.kindOf x = some .cell ∨ env.kindOf x = some .free) ∧ ∃ c, env.cells.lookup x = some c ∧ h.IsCell c (some u))

structure Cx.Ok (X : Cx) : Prop where
  mod : Mod X.K X.mg X.base
  kind : X.env.scope.kind = .function
  glob : X.env.globals = mainGlobals
  blt : X.env.builtins = builtinsNs
  above : X.s_0.heap.objs.size ≤ X.env.locals
  inj : ∀ x y c, X.env.cells.lookup x = some c → X.env.cells.lookup y = some c → x = y
  has : ∀ x, (X.env.kindOf x = some .cell ∨ X.env.kindOf x = some .free) → ∃ c, X.env.cells.lookup x = some c
  cab : ∀ x c, X.fn x = true → X.env.cells.lookup x = some c → X.s_0.heap.objs.size ≤ c
  hd : X.calm = true → X.A.handled = none
  frames : X.A.frames = some X.stack
  stk : X.stack = X.outer ∨ (X.stack = X.env :: X.outer ∧ X.env.frame = some X.env.locals)
  exf : ∀ b ∈ X.ex, b ≠ X.env.locals ∧ ∀ x c, X.env.cells.lookup x = some c → c ≠ b
  bs : ∀ b o, X.base.get? b = some o → X.s_0.heap.get? b = some o ∧ X.H_0 b = none
  bsz : X.base.objs.size ≤ X.s_0.heap.objs.size
  noex : ∀ b o, X.base.get? b = some o → b ∉ X.ex
  exfs : ∀ b ∈ X.ex, b ∉ X.fs
  funs : X.s_0.heap.FunFrames X.base X.outer
  frf : ∀ b ∈ X.fs, X.H_0 b = none

structure Inv (X : Cx) (pins : List (Addr × Obj)) (σ : List (Option V)) (H : Hp) (s : Shared) : Prop where
  ok : X.Ok
  os : s.os = X.s_0.os
  bare : AllBare s.gens
  base : Un X.fs X.ex X.H_0 H X.s_0.heap s.heap
  loc : ∃ m, s.heap.Ns X.env.locals m ∧ ∀ (i : Nat) (x : Str) (v : V), X.N[i]? = some x → σ[i]? = some (some v) → Vis X.env.scope x → ∃ u, RelV v u ∧ Look X.env s.heap m x u
  cell : ∀ x c, X.env.cells.lookup x = some c → ∃ v, s.heap.IsCell c v
  free : H X.env.locals = none
  freeC : ∀ x c, X.env.cells.lookup x = some c → H c = none
  pin : ∀ p ∈ X.pn ++ pins, s.heap.get? p.1 = some p.2 ∧ H p.1 = none ∧ p.1 ≠ X.env.locals ∧ p.1 ∉ X.fs ∧ ∀ v, p.2.data ≠ .cell v
  hok : HOk X.prog X.w H s.heap
  len : σ.length = X.N.length

section
variable {X : Cx} {pins : List (Addr × Obj)} {σ : List (Option V)} {H H' : Hp} {s : Shared} {h' : Heap}

theorem Cx.Ok.nofr (ok : X.Ok) {b : Addr} {o : Obj} (e : X.base.get? b = some o) : b ∉ X.fs := fun hb => by
  have := (ok.funs.mem hb).1
  rw [e] at this; cases this
theorem Inv.bs (I : Inv X pins σ H s) : ∀ b o, X.base.get? b = some o → s.heap.get? b = some o ∧ H b = none := fun b o e =>
  ⟨I.base.keep b o (I.ok.bs b o e).1 (I.ok.bs b o e).2 (I.ok.nofr e) (I.ok.noex b o e), I.base.free b o (I.ok.bs b o e).1 (I.ok.bs b o e).2 (I.ok.noex b o e)⟩
theorem Inv.bk (I : Inv X pins σ H s) : ∀ b o, X.base.get? b = some o → s.heap.get? b = some o := fun b o e => (I.bs b o e).1
theorem Inv.mod (I : Inv X pins σ H s) : Mod X.K X.mg X.base := I.ok.mod
theorem Inv.kIn (I : Inv X pins σ H s) : X.K.In s.heap := I.ok.mod.kin.keeps I.bk

theorem Inv.lt (I : Inv X pins σ H s) : X.env.locals < s.heap.objs.size := let ⟨_, hn, _⟩ := I.loc; hn.lt
theorem Inv.sz (I : Inv X pins σ H s) : X.s_0.heap.objs.size ≤ s.heap.objs.size := Nat.le_trans I.ok.above (Nat.le_of_lt I.lt)
theorem Inv.nofs (I : Inv X pins σ H s) {a : Addr} (h : s.heap.objs.size ≤ a) : a ∉ X.fs := fun hb => by
  obtain ⟨_, o, ho, _⟩ := I.ok.funs.mem hb
  exact absurd (Nat.lt_of_lt_of_le (Heap.lt_size ho) (Nat.le_trans I.sz h)) (Nat.lt_irrefl _)
theorem Inv.cne (I : Inv X pins σ H s) : ∀ x c, X.env.cells.lookup x = some c → c ≠ X.env.locals := fun x c e z => by
  obtain ⟨v, o, ho, hd⟩ := I.cell x c e
  obtain ⟨m, ⟨o', es, ep, ho', hd', _⟩, _⟩ := I.loc
  rw [z, ho'] at ho; cases ho; rw [hd'] at hd; cases hd
theorem Inv.funs (I : Inv X pins σ H s) : s.heap.FunFrames X.base X.outer := by
  have all : ∀ (l : List Env), (∀ b ∈ frs l, b ∈ X.fs) → X.s_0.heap.FunFrames X.base l → s.heap.FunFrames X.base l := by
    intro l
    induction l with
    | nil => intro _ _; trivial
    | cons env r ih =>
      intro hs hl
      obtain ⟨hk, ⟨L, o, hf, hn, ho, hd⟩, hr⟩ := hl
      have hL : L ∈ X.fs := hs L (by unfold frs; rw [List.filterMap_cons, hf]; exact List.mem_cons_self)
      obtain ⟨sl, e⟩ := I.base.slot L o ho (I.ok.frf L hL) hL fun z => I.ok.exfs L z hL
      exact ⟨hk, ⟨L, _, hf, hn, e, hd⟩, ih (fun b hb => hs b (by unfold frs; rw [List.filterMap_cons, hf]; exact List.mem_cons_of_mem _ hb)) hr⟩
  exact all X.outer (fun _ hb => hb) I.ok.funs

/-- the frames that run, for a call -/
theorem Inv.stack (I : Inv X pins σ H s) : s.heap.FunFrames X.base X.stack := by
  rcases I.ok.stk with e | ⟨e, hf⟩
  · rw [e]; exact I.funs
  · rw [e]
    obtain ⟨m, hn, _⟩ := I.loc
    refine .cons (by rw [I.ok.kind]; decide) hf hn ?_ I.funs
    exact Heap.get?_none_of_le (Nat.le_trans I.ok.bsz I.ok.above)
theorem Inv.stkSub (I : Inv X pins σ H s) : ∀ b ∈ frs X.stack, b ∈ X.env.locals :: X.fs := fun b hb => by
  rcases I.ok.stk with e | ⟨e, hf⟩
  · rw [e] at hb; exact List.mem_cons_of_mem _ hb
  · rw [e] at hb
    unfold frs at hb
    rw [List.filterMap_cons, hf] at hb
    exact hb
theorem Inv.stkFree (I : Inv X pins σ H s) : ∀ b ∈ frs X.stack, H b = none := fun b hb => by
  rcases List.mem_cons.mp (I.stkSub b hb) with e | hb
  · rw [e]; exact I.free
  · obtain ⟨_, o, ho, _⟩ := I.ok.funs.mem hb
    exact I.base.free b o ho (I.ok.frf b hb) fun z => I.ok.exfs b z hb

/-- THE STEP: the untracked objects but the frame and the records at ch are kept (the callers' frames up to slots), the frame's map is kept, the new abstract heap is held -/
theorem Inv.step {g' : Array GenState} {t' : Nat} {d' : Drawn} {ch : List Addr} (I : Inv X pins σ H s)
    (hch : ∀ b ∈ ch, (b ∈ X.ex ∨ X.s_0.heap.objs.size ≤ b) ∧ b ≠ X.env.locals ∧ (∀ x c, X.env.cells.lookup x = some c → c ≠ b) ∧ ∀ p ∈ X.pn ++ pins, p.1 ≠ b)
    (keep : ∀ b o, b ≠ X.env.locals → b ∉ X.fs → b ∉ ch → s.heap.get? b = some o → H b = none → h'.get? b = some o)
    (slot : ∀ b o, b ≠ X.env.locals → b ∈ X.fs → b ∉ ch → s.heap.get? b = some o → H b = none → ∃ sl, h'.get? b = some { o with slots := sl }) (free : ∀ b o, b ∉ ch → s.heap.get? b = some o → H b = none → H' b = none)
    (there : ∀ b o, b ∉ ch → s.heap.get? b = some o → ∃ o', h'.get? b = some o')
    (tups : ∀ b xs, H b = some (.tup xs) → H' b = some (.tup xs)) (frzs : ∀ b o u, H b = some (.frz o u) → H' b = some (.frz o u)) (tbls : ∀ b ps, H b = some (.tbl ps) → ∃ more, H' b = some (.tbl (ps ++ more)))
    (ns : ∀ m, s.heap.Ns X.env.locals m → h'.Ns X.env.locals m) (hok : HOk X.prog X.w H' h') (hg : AllBare g') :
    Inv X pins σ H' { s with heap := h', gens := g', drawn := d', toks := t' } := by
  have neL : ∀ b o, X.s_0.heap.get? b = some o → b ≠ X.env.locals := fun b o e => Nat.ne_of_lt (Nat.lt_of_lt_of_le (Heap.lt_size e) I.ok.above)
  have neC : ∀ b o, X.s_0.heap.get? b = some o → b ∉ X.ex → b ∉ ch := fun b o e hx hb => by
    rcases (hch b hb).1 with z | z
    · exact hx z
    · exact absurd (Nat.lt_of_lt_of_le (Heap.lt_size e) z) (Nat.lt_irrefl _)
  have cellK : ∀ x c, X.env.cells.lookup x = some c → ∀ v, s.heap.IsCell c v → h'.IsCell c v := fun x c e v ⟨o, ho, hd⟩ => by
    have nch : c ∉ ch := fun z => (hch c z).2.2.1 x c e rfl
    by_cases hc : c ∈ X.fs
    · obtain ⟨sl, q⟩ := slot c o (I.cne x c e) hc nch ho (I.freeC x c e)
      exact ⟨_, q, hd⟩
    · exact ⟨o, keep c o (I.cne x c e) hc nch ho (I.freeC x c e), hd⟩
  refine ⟨I.ok, I.os, hg, ⟨fun b o e n hb hx => ?_, fun b o e n hb hx => ?_, fun b o e n hx => ?_, fun b o e hx => ?_, fun b xs e => tups b xs (I.base.tups b xs e), fun b o xs e => frzs b o xs (I.base.frzs b o xs e), fun b ps e => ?_⟩, ?_, fun x c e => ?_, ?_, fun x c e => ?_, fun p hp => ?_, hok, I.len⟩
  · exact keep b o (neL b o e) hb (neC b o e hx) (I.base.keep b o e n hb hx) (I.base.free b o e n hx)
  · obtain ⟨sl, e1⟩ := I.base.slot b o e n hb hx
    obtain ⟨sl', e2⟩ := slot b _ (neL b o e) hb (neC b o e hx) e1 (I.base.free b o e n hx)
    exact ⟨sl', e2⟩
  · obtain ⟨o', e1⟩ := I.base.there b o e hx
    exact free b o' (neC b o e hx) e1 (I.base.free b o e n hx)
  · obtain ⟨o', e1⟩ := I.base.there b o e hx
    exact there b o' (neC b o e hx) e1
  · obtain ⟨m1, e1⟩ := I.base.tbls b ps e
    obtain ⟨m2, e2⟩ := tbls b _ e1
    exact ⟨m1 ++ m2, by rw [e2, Array.append_assoc]⟩
  · obtain ⟨m, hn, hl⟩ := I.loc
    refine ⟨m, ns m hn, fun i x v e1 e2 e3 => ?_⟩
    obtain ⟨u, r, l⟩ := hl i x v e1 e2 e3
    refine ⟨u, r, ?_⟩
    rcases l with l | ⟨k, c, e, z⟩
    · exact .inl l
    · exact .inr ⟨k, c, e, cellK x c e _ z⟩
  · obtain ⟨v, z⟩ := I.cell x c e
    exact ⟨v, cellK x c e v z⟩
  · obtain ⟨m, ⟨o, _, _, ho, _⟩, _⟩ := I.loc
    exact free _ o (fun z => (hch _ z).2.1 rfl) ho I.free
  · obtain ⟨v, o, ho, hd⟩ := I.cell x c e
    exact free c o (fun z => (hch c z).2.2.1 x c e rfl) ho (I.freeC x c e)
  · obtain ⟨e, n, ne, nf, d⟩ := I.pin p hp
    have nch : p.1 ∉ ch := fun z => (hch p.1 z).2.2.2 p hp rfl
    exact ⟨keep p.1 p.2 ne nf nch e n, free p.1 p.2 nch e n, ne, nf, d⟩
/-- .. where the frame's own object is kept too -/
theorem Inv.un {t' : Nat} (I : Inv X pins σ H s) (u : Un X.fs [] H H' s.heap h') (hok : HOk X.prog X.w H' h') : Inv X pins σ H' { s with heap := h', toks := t' } := by
  obtain ⟨m, ⟨o, es, ep, ho, r⟩, _⟩ := id I.loc
  obtain ⟨sl, hL⟩ := u.any ho I.free (by simp)
  exact I.step (g' := s.gens) (d' := s.drawn) (ch := []) (fun _ z => nomatch z) (fun b o _ hb _ e n => u.keep b o e n hb (by simp)) (fun b o _ hb _ e n => u.slot b o e n hb (by simp)) (fun b o _ e n => u.free b o e n (by simp)) (fun b o _ e => u.there b o e (by simp)) u.tups u.frzs u.tbls (fun m' hm => by
    obtain ⟨o', es', ep', ho', r'⟩ := hm
    rw [ho] at ho'; cases ho'
    exact ⟨_, es', ep', hL, r'⟩) hok I.bare
/-- behind a call (or a comprehension's block): the slots of this frame may have changed too, the records at ch may have turned -/
theorem Inv.call {g' : Array GenState} {t' : Nat} {d' : Drawn} {ch : List Addr} (I : Inv X pins σ H s) (u : Un (frs X.stack) ch H H' s.heap h') (hok : HOk X.prog X.w H' h') (hg : AllBare g')
    (hch : ∀ b ∈ ch, (b ∈ X.ex ∨ X.s_0.heap.objs.size ≤ b) ∧ b ≠ X.env.locals ∧ (∀ x c, X.env.cells.lookup x = some c → c ≠ b) ∧ ∀ p ∈ X.pn ++ pins, p.1 ≠ b) :
    Inv X pins σ H' { s with heap := h', gens := g', drawn := d', toks := t' } := by
  obtain ⟨m, ⟨o, es, ep, ho, r⟩, _⟩ := id I.loc
  obtain ⟨sl, hL⟩ := u.any ho I.free fun z => (hch _ z).2.1 rfl
  exact I.step (ch := ch) hch (fun b o hL hb hc e n => u.keep b o e n (fun z => (List.mem_cons.mp (I.stkSub b z)).elim hL hb) hc) (fun b o _ _ hc e n => u.any e n hc) (fun b o hc e n => u.free b o e n hc) (fun b o hc e => u.there b o e hc) u.tups u.frzs u.tbls (fun m' hm => by
    obtain ⟨o', es', ep', ho', r'⟩ := hm
    rw [ho] at ho'; cases ho'
    exact ⟨_, es', ep', hL, r'⟩) hok hg
/-- an untracked record of ours (an iterator) has turned -/
theorem Inv.turned {t' : Nat} {it : Addr} (I : Inv X pins σ H s) (k : ∀ b o, b ≠ it → s.heap.get? b = some o → h'.get? b = some o) (hn : H it = none) (hL : it ≠ X.env.locals)
    (h1 : it ∈ X.ex ∨ X.s_0.heap.objs.size ≤ it) (h2 : ∀ x c, X.env.cells.lookup x = some c → c ≠ it) (h3 : ∀ p ∈ X.pn ++ pins, p.1 ≠ it) : Inv X pins σ H { s with heap := h', toks := t' } := by
  have nit : ∀ b u, H b = some u → b ≠ it := fun b u e z => by rw [z, hn] at e; cases e
  refine I.step (g' := s.gens) (d' := s.drawn) (ch := [it]) (fun b hb => ?_) (fun b o _ _ hc e _ => k b o (fun z => hc (by simp [z])) e) (fun b o _ _ hc e _ => ⟨o.slots, k b o (fun z => hc (by simp [z])) e⟩) (fun _ _ _ _ n => n)
    (fun b o hc e => ⟨o, k b o (fun z => hc (by simp [z])) e⟩) (fun _ _ e => e) (fun _ _ _ e => e) (fun b ps e => ⟨#[], by rw [e]; simp⟩) (fun m hm => ?_) (fun b u e => ?_) I.bare
  · have e : b = it := by simpa using hb
    subst e
    exact ⟨h1, hL, h2, h3⟩
  · obtain ⟨o, es, ep, ho, r⟩ := hm
    exact ⟨o, es, ep, k _ o (Ne.symm hL) ho, r⟩
  · refine (I.hok b u e).stay (fun c v hc q => k c v ?_ q) (fun _ q => q) fun _ _ q => q
    rcases hc with z | z
    · rw [z]; exact nit b u e
    · exact nit c _ z
theorem Inv.tok (I : Inv X pins σ H s) (t : Nat) : Inv X pins σ H { s with toks := t } := I.un (h' := s.heap) (t' := t) Un.refl I.hok
/-- all objects kept -/
theorem Inv.kept {t' : Nat} (I : Inv X pins σ H s) (k : ∀ b u, s.heap.get? b = some u → h'.get? b = some u) : Inv X pins σ H { s with heap := h', toks := t' } := I.un (Un.kept k) (I.hok.kept k)
/-- a new object laid and tracked -/
theorem Inv.laid {a : Addr} {o : HO} {t' : Nat} (I : Inv X pins σ H s) (k : ∀ b u, s.heap.get? b = some u → h'.get? b = some u) (hp : s.heap.objs.size ≤ a) (new : ObjOk X.prog X.w (upd H a o) h' a o) :
    Inv X pins σ (upd H a o) { s with heap := h', toks := t' } := I.un (Un.laid k hp (I.hok.fresh hp)) (I.hok.laid k hp new)
/-- an object written -/
theorem Inv.write {x e : Addr} {o : HO} {t' : Nat} (I : Inv X pins σ H s) (mu : Mut (H x)) (he : e = x ∨ H e = some (.own x)) (k : ∀ b u, b ≠ e → s.heap.get? b = some u → h'.get? b = some u) (heo : ∃ u, h'.get? e = some u)
    (new : ObjOk X.prog X.w (upd H x o) h' x o) : Inv X pins σ (upd H x o) { s with heap := h', toks := t' } := I.un (Un.write mu he k heo) (I.hok.write mu he k heo new)
/-- forgetting slots, pins -/
theorem Inv.weak {σ' : List (Option V)} (I : Inv X pins σ H s) (hl : σ'.length = σ.length) (w : ∀ (i : Nat) v, σ'[i]? = some (some v) → σ[i]? = some (some v)) : Inv X pins σ' H s :=
  ⟨I.ok, I.os, I.bare, I.base, let ⟨m, hn, hl'⟩ := I.loc; ⟨m, hn, fun i x v e1 e2 e3 => hl' i x v e1 (w i v e2) e3⟩, I.cell, I.free, I.freeC, I.pin, I.hok, hl.trans I.len⟩
theorem Inv.pins_of {pins' : List (Addr × Obj)} (I : Inv X pins σ H s) (h : ∀ p ∈ pins', s.heap.get? p.1 = some p.2 ∧ H p.1 = none ∧ p.1 ≠ X.env.locals ∧ p.1 ∉ X.fs ∧ ∀ v, p.2.data ≠ .cell v) : Inv X pins' σ H s :=
  ⟨I.ok, I.os, I.bare, I.base, I.loc, I.cell, I.free, I.freeC, fun p hp => (List.mem_append.mp hp).elim (fun z => I.pin p (List.mem_append_left _ z)) (h p), I.hok, I.len⟩

theorem nodup_ix {N : List Str} (hN : N.Nodup) {i j : Nat} {x : Str} (a : N[i]? = some x) (b : N[j]? = some x) : i = j := by
  obtain ⟨h1, e1⟩ := List.getElem?_eq_some_iff.mp a
  obtain ⟨h2, e2⟩ := List.getElem?_eq_some_iff.mp b
  exact (List.getElem_inj hN).mp (e1.trans e2.symm)

/-- a name is stored; what changed -/
theorem store_ok2 {M : Model} {A : Around} {E : Value → Shared → Prop} {i : Nat} {x : Str} {v : V} {u : Value} {Q : Unit → Shared → Prop} (I : Inv X pins σ H s) (hN : X.N.Nodup) (hi : X.N[i]? = some x) (hx : Loc X.env.scope x) (r : RelV v u)
    (h : ∀ s', Inv X pins (σ.set i (some v)) H s' → (∃ a, Heap.SameBut a s.heap s'.heap ∧ (a = X.env.locals ∨ X.env.cells.lookup x = some a)) → Q () s') (hf : X.fn x = true ∨ X.env.scope.names.lookup x = some .local := by first | exact .inl rfl | exact .inr rfl | assumption) : wpAny M A (storeName X.env x u) Q E s := by
  obtain ⟨m, hn, hl⟩ := id I.loc
  have hcls : (X.env.scope.kind == .class || (X.env.scope.kind == .module && X.env.locals != X.env.globals)) = false := by rw [I.ok.kind]; rfl
  have hiσ : i < σ.length := by rw [I.len]; exact (List.getElem?_eq_some_iff.mp hi).1
  have cne := I.cne
  have tracked : ∀ {a : Addr} {h' : Heap}, (∃ o, s.heap.get? a = some o ∧ H a = none) → Heap.SameBut a s.heap h' → HOk X.prog X.w H h' := fun {a h'} ha hs b ob e => by
    obtain ⟨_, _, hfree⟩ := ha
    refine (I.hok b ob e).stay (fun c w' hc q => (hs.2 c ?_).trans q) (fun _ q => q) fun _ _ q => q
    rintro rfl
    rcases hc with rfl | hc
    · rw [hfree] at e; cases e
    · rw [hfree] at hc; cases hc
  rcases hx with hk | hk
  · refine wpAny_storeName_local hk hn (fun h' hn' hs => ?_) hcls
    obtain ⟨oL, _, _, hoL, _⟩ := id hn
    refine h _ ⟨I.ok, I.os, I.bare, ⟨fun b o e n hb hx => ?_, fun b o e n hb hx => ?_, I.base.free, fun b o e hx => ?_, I.base.tups, I.base.frzs, I.base.tbls⟩, ⟨_, hn', fun j y v' e1 e2 e3 => ?_⟩, fun y c e => ?_, I.free, I.freeC, fun p hp => ?_, tracked ⟨oL, hoL, I.free⟩ hs, by simpa using I.len⟩ ⟨_, hs, .inl rfl⟩
    · exact (hs.2 b (Nat.ne_of_lt (Nat.lt_of_lt_of_le (Heap.lt_size e) I.ok.above))).trans (I.base.keep b o e n hb hx)
    · obtain ⟨sl, e1⟩ := I.base.slot b o e n hb hx
      exact ⟨sl, (hs.2 b (Nat.ne_of_lt (Nat.lt_of_lt_of_le (Heap.lt_size e) I.ok.above))).trans e1⟩
    · obtain ⟨o', e1⟩ := I.base.there b o e hx
      exact ⟨o', (hs.2 b (Nat.ne_of_lt (Nat.lt_of_lt_of_le (Heap.lt_size e) I.ok.above))).trans e1⟩
    · by_cases hj : j = i
      · subst hj
        rw [hi] at e1; cases e1
        rw [List.getElem?_set_self hiσ] at e2
        cases e2
        exact ⟨u, r, .inl ⟨hk, by simp⟩⟩
      · rw [List.getElem?_set_ne (Ne.symm hj)] at e2
        obtain ⟨u', r', q⟩ := hl j y v' e1 e2 e3
        refine ⟨u', r', ?_⟩
        rcases q with ⟨k, e⟩ | ⟨k, c, e, z⟩
        · refine .inl ⟨k, ?_⟩
          have : y ≠ x := fun e => hj (nodup_ix hN e1 (e ▸ hi))
          simp [this, e]
        · exact .inr ⟨k, c, e, z.sameBut hs (cne y c e)⟩
    · obtain ⟨w', z⟩ := I.cell y c e
      exact ⟨w', z.sameBut hs (cne y c e)⟩
    · obtain ⟨e, n, ne, nf, d⟩ := I.pin p hp
      exact ⟨(hs.2 p.1 ne).trans e, n, ne, nf, d⟩
  · have hfn : X.fn x = true := by
      rcases hf with z | z
      · exact z
      · rw [z] at hk; cases hk
    obtain ⟨c, hc⟩ := I.ok.has x (.inl hk)
    obtain ⟨w', z⟩ := I.cell x c hc
    refine wpAny_storeName_cell I.ok.kind hk hc z (fun h' hc' hs => ?_)
    obtain ⟨oc, hoc, hocd⟩ := id z
    refine h { s with heap := h' } ⟨I.ok, I.os, I.bare, ⟨fun b o e n hb hx => ?_, fun b o e n hb hx => ?_, I.base.free, fun b o e hx => ?_, I.base.tups, I.base.frzs, I.base.tbls⟩, ⟨m, hn.sameBut hs (Ne.symm (cne x c hc)), fun j y v' e1 e2 e3 => ?_⟩, fun y c' e => ?_, I.free, I.freeC, fun p hp => ?_, tracked ⟨oc, hoc, I.freeC x c hc⟩ hs, by simpa using I.len⟩ ⟨c, hs, .inr hc⟩
    · exact (hs.2 b (Nat.ne_of_lt (Nat.lt_of_lt_of_le (Heap.lt_size e) (I.ok.cab x c hfn hc)))).trans (I.base.keep b o e n hb hx)
    · obtain ⟨sl, e1⟩ := I.base.slot b o e n hb hx
      exact ⟨sl, (hs.2 b (Nat.ne_of_lt (Nat.lt_of_lt_of_le (Heap.lt_size e) (I.ok.cab x c hfn hc)))).trans e1⟩
    · obtain ⟨o', e1⟩ := I.base.there b o e hx
      exact ⟨o', (hs.2 b (Nat.ne_of_lt (Nat.lt_of_lt_of_le (Heap.lt_size e) (I.ok.cab x c hfn hc)))).trans e1⟩
    · by_cases hj : j = i
      · subst hj
        rw [hi] at e1; cases e1
        rw [List.getElem?_set_self hiσ] at e2
        cases e2
        exact ⟨u, r, .inr ⟨.inl hk, c, hc, hc'⟩⟩
      · rw [List.getElem?_set_ne (Ne.symm hj)] at e2
        obtain ⟨u', r', q⟩ := hl j y v' e1 e2 e3
        refine ⟨u', r', ?_⟩
        rcases q with q | ⟨k, c', e, z'⟩
        · exact .inl q
        · refine .inr ⟨k, c', e, z'.sameBut hs ?_⟩
          rintro rfl
          exact hj (nodup_ix hN e1 (I.ok.inj _ _ _ e hc ▸ hi))
    · by_cases hcc : c' = c
      · subst hcc; exact ⟨_, hc'⟩
      · obtain ⟨w2, z2⟩ := I.cell y c' e
        exact ⟨w2, z2.sameBut hs hcc⟩
    · obtain ⟨e, n, ne, nf, d⟩ := I.pin p hp
      refine ⟨(hs.2 p.1 ?_).trans e, n, ne, nf, d⟩
      intro q
      rw [q, hoc] at e
      have q' : oc = p.2 := Option.some.inj e
      exact d w' (by rw [← q']; exact hocd)
theorem store_ok {M : Model} {A : Around} {E : Value → Shared → Prop} {i : Nat} {x : Str} {v : V} {u : Value} {Q : Unit → Shared → Prop} (I : Inv X pins σ H s) (hN : X.N.Nodup) (hi : X.N[i]? = some x) (hx : Loc X.env.scope x) (r : RelV v u)
    (h : ∀ s', Inv X pins (σ.set i (some v)) H s' → Q () s') (hf : X.fn x = true ∨ X.env.scope.names.lookup x = some .local := by first | exact .inl rfl | exact .inr rfl | assumption) : wpAny M A (storeName X.env x u) Q E s :=
  store_ok2 I hN hi hx r (fun s' I' _ => h s' I') hf
/-- behind a call or a block, the state as it is -/
theorem Inv.call' {s' : Shared} {ch : List Addr} (I : Inv X pins σ H s) (ho : s'.os = s.os) (u : Un (frs X.stack) ch H H' s.heap s'.heap) (hok : HOk X.prog X.w H' s'.heap) (hg : AllBare s'.gens)
    (hch : ∀ b ∈ ch, (b ∈ X.ex ∨ X.s_0.heap.objs.size ≤ b) ∧ b ≠ X.env.locals ∧ (∀ x c, X.env.cells.lookup x = some c → c ≠ b) ∧ ∀ p ∈ X.pn ++ pins, p.1 ≠ b) : Inv X pins σ H' s' := by
  obtain ⟨h', g', d', t', o'⟩ := s'
  have e : o' = s.os := ho
  subst e
  exact I.call (g' := g') (t' := t') (d' := d') u hok hg hch
end

/-! ### the judgements -/
/-- an exception: its class, its own dict's address (where it has one), the abstract heap behind it -/
abbrev XK := Value → Option Addr → Hp → Prop
abbrev St := List (Option V)
abbrev VK := V → Hp → Prop
/-- an expression's reading; a test's; an argument list's -/
abbrev TE := St → Hp → VK → Prop
abbrev TT := St → Hp → (Bool → Hp → Prop) → Prop
abbrev TA := St → Hp → (List V → Hp → Prop) → Prop
/-- what is wanted behind a statement -/
structure Ends where
  nx : St → Hp → Prop
  rt : VK
  bk : St → Hp → Prop := fun _ _ => False
  ct : St → Hp → Prop := fun _ _ => False
abbrev TS := Ends → St → Hp → Prop

def EP (X : Cx) (pins : List (Addr × Obj)) (σ : St) (Q : VK) (u : Value) (s' : Shared) : Prop := ∃ v H', Inv X pins σ H' s' ∧ RelV v u ∧ Q v H'
def TP (X : Cx) (pins : List (Addr × Obj)) (σ : St) (Q : Bool → Hp → Prop) (b : Bool) (s' : Shared) : Prop := ∃ H', Inv X pins σ H' s' ∧ Q b H'
def AP (X : Cx) (pins : List (Addr × Obj)) (σ : St) (Q : List V → Hp → Prop) (us : List Value) (s' : Shared) : Prop := ∃ vs H', Inv X pins σ H' s' ∧ Vals vs us ∧ Q vs H'
def SP (X : Cx) (pins : List (Addr × Obj)) (D : Ends) (f : Flow) (s' : Shared) : Prop :=
  match f with
  | .next => ∃ σ' H', Inv X pins σ' H' s' ∧ D.nx σ' H'
  | .brk => ∃ σ' H', Inv X pins σ' H' s' ∧ D.bk σ' H'
  | .cont => ∃ σ' H', Inv X pins σ' H' s' ∧ D.ct σ' H'
  | .ret u => ∃ v σ' H', Inv X pins σ' H' s' ∧ RelV v u ∧ D.rt v H'

def PE (X : Cx) (e : Expr) (t : TE) : Prop :=
  ∀ (pins : List (Addr × Obj)) (s : Shared) (σ : St) (H : Hp) (Q : VK), Inv X pins σ H s → t σ H Q → wpAny (model X.prog X.w) X.A (eval e X.env) (EP X pins σ Q) X.xe s
def PT (X : Cx) (e : Expr) (t : TT) : Prop :=
  ∀ (pins : List (Addr × Obj)) (s : Shared) (σ : St) (H : Hp) (Q : Bool → Hp → Prop), Inv X pins σ H s → t σ H Q → wpAny (model X.prog X.w) X.A (isTrue e X.env (eval e X.env)) (TP X pins σ Q) X.xe s
/-- a test whatever its 'whole' is (and, or) -/
def PW (X : Cx) (e : Expr) (t : TT) : Prop :=
  ∀ (whole : Sem Value) (pins : List (Addr × Obj)) (s : Shared) (σ : St) (H : Hp) (Q : Bool → Hp → Prop), Inv X pins σ H s → t σ H Q → wpAny (model X.prog X.w) X.A (isTrue e X.env whole) (TP X pins σ Q) X.xe s
theorem PW.pt {X : Cx} {e : Expr} {t : TT} (h : PW X e t) : PT X e t := h _
/-- an argument list (no star), from the left -/
def PA (X : Cx) (es : List Expr) (t : TA) : Prop :=
  ∀ (pos : Pos) (pins : List (Addr × Obj)) (s : Shared) (σ : St) (H : Hp) (Q : List V → Hp → Prop), Inv X pins σ H s → t σ H Q → wpAny (model X.prog X.w) X.A (spliced (backTo pos (starEach es X.env))) (AP X pins σ Q) X.xe s
def PS (X : Cx) (st : Stmt) (t : TS) : Prop :=
  ∀ (pins : List (Addr × Obj)) (s : Shared) (σ : St) (H : Hp) (D : Ends), Inv X pins σ H s → t D σ H → wpAny (model X.prog X.w) X.A (exec st X.env) (SP X pins D) X.xe s
def PSs (X : Cx) (st : List Stmt) (t : TS) : Prop :=
  ∀ (pins : List (Addr × Obj)) (s : Shared) (σ : St) (H : Hp) (D : Ends), Inv X pins σ H s → t D σ H → wpAny (model X.prog X.w) X.A (execs st X.env) (SP X pins D) X.xe s
/-- weaken the end -/
theorem thn {α : Type} {t : Sem α} {Q Q' : α → Shared → Prop} {M : Model} {A : Around} {E : Value → Shared → Prop} {s : Shared} (h : wpAny M A t Q E s) (hQ : ∀ a s, Q a s → Q' a s) : wpAny M A t Q' E s := wpAny_mono h hQ fun _ _ x => x
end L2

namespace L2
open PySem PySem.Spec PyProof.Rows
section
variable {X : Cx}

/-- two expressions in a row -/
theorem bin {a b : Expr} {ta tb : TE} (ha : PE X a ta) (hb : PE X b tb) {pins : List (Addr × Obj)} {s : Shared} {σ : St} {H : Hp} {R : V → V → Hp → Prop} (I : Inv X pins σ H s) (h : ta σ H fun x H1 => tb σ H1 fun y H2 => R x y H2)
    {α : Type} {Q : α → Shared → Prop} {f : Value → Value → Sem α}
    (hf : ∀ v u s2 x y H2, Inv X pins σ H2 s2 → RelV x v → RelV y u → R x y H2 → wpAny (model X.prog X.w) X.A (f v u) Q X.xe s2) :
    wpAny (model X.prog X.w) X.A (eval a X.env) (fun v s₁ => wpAny (model X.prog X.w) X.A (eval b X.env) (fun u s₂ => wpAny (model X.prog X.w) X.A (f v u) Q X.xe s₂) X.xe s₁) X.xe s := by
  refine thn (ha pins s σ H _ I h) fun v s1 ⟨x, H1, I1, r1, q1⟩ => ?_
  refine thn (hb pins s1 σ H1 _ I1 q1) fun u s2 ⟨y, H2, I2, r2, q2⟩ => ?_
  exact hf v u s2 x y H2 I2 r1 r2 q2

/-! ### names and constants -/
def tVar (i : Nat) : TE := fun σ H Q => ∃ v, σ[i]? = some (some v) ∧ Q v H
def tC (v : V) : TE := fun _ H Q => Q v H
theorem pe_var {i : Nat} {x : Str} {pos : Pos} (hN : X.N[i]? = some x) (hv : Vis X.env.scope x) (hd : (x == ("__debug__" : Str)) = false := by decide) (hcd : (x == ("__classdict__" : Str)) = false := by decide) : PE X (.Name x pos) (tVar i) := by
  intro pins s σ H Q I h
  obtain ⟨v, e, h⟩ := h
  obtain ⟨m, hn, hl⟩ := I.loc
  obtain ⟨u, r, l⟩ := hl i x v hN e hv
  have fin : EP X pins σ Q u s := ⟨v, H, I, r, h⟩
  rcases l with ⟨hk, hm⟩ | ⟨hk, c, hc, hcell⟩
  · exact wpAny_Name (wpAny_loadName_local I.ok.kind hk hn hm fin) hd
  · rcases hk with hk | hk
    · exact wpAny_Name (wpAny_loadName_cell I.ok.kind hk hc hcell fin) hd
    · exact wpAny_Name (wpAny_loadName_free I.ok.kind hk hc hcell fin hcd) hd
theorem pe_int {i j pos} : PE X (.Constant (.int i) j pos) (tC (.int i)) := fun _ _ _ H _ I h => wpAny_Constant_int ⟨.int i, H, I.tok _, ⟨_, rfl⟩, h⟩
theorem pe_bl {b j pos} : PE X (.Constant (.bool b) j pos) (tC (.bl b)) := fun _ _ _ H _ I h => Constant_bool ⟨.bl b, H, I, rfl, h⟩

/-- a global name of the def -/
def Gl (X : Cx) (x : Str) : Prop := X.env.kindOf x = some .globalImplicit
theorem ld_glob {E : Value → Shared → Prop} {pins : List (Addr × Obj)} {s : Shared} {σ : St} {H : Hp} {x : Str} {u : Value} {pos : Pos} {Q : Value → Shared → Prop} (I : Inv X pins σ H s) (hg : Gl X x) (hm : X.mg x = some u) (h : Q u s)
    (hd : (x == ("__debug__" : Str)) = false := by decide) : wpAny (model X.prog X.w) X.A (eval (.Name x pos) X.env) Q E s :=
  Calls.Name_function_global I.ok.kind hg (Calls.loadGlobal_global (by rw [I.ok.glob]; exact I.mod.glob.keeps I.bk) hm h) hd
theorem ld_blt {E : Value → Shared → Prop} {pins : List (Addr × Obj)} {s : Shared} {σ : St} {H : Hp} {x : Str} {u : Value} {pos : Pos} {Q : Value → Shared → Prop} (I : Inv X pins σ H s) (hg : Gl X x) (hm : X.mg x = none) (hv : bootBuiltins x = some u) (h : Q u s)
    (hn : x ≠ "__name__" := by decide) (hd : (x == ("__debug__" : Str)) = false := by decide) : wpAny (model X.prog X.w) X.A (eval (.Name x pos) X.env) Q E s := by
  obtain ⟨mb, h1, h2⟩ := I.mod.blt
  exact Calls.Name_function_global I.ok.kind hg (Calls.loadGlobal_builtin (by rw [I.ok.glob]; exact I.mod.glob.keeps I.bk) hm (by rw [I.ok.blt]; exact h1.keeps I.bk) ((h2 x hn).trans hv) h) hd
/-- a module's constant, a class, a function, as a value -/
theorem pe_glob {x : Str} {v : V} {u : Value} {pos : Pos} (hg : Gl X x) (hm : X.mg x = some u) (r : RelV v u) (hd : (x == ("__debug__" : Str)) = false := by decide) : PE X (.Name x pos) (tC v) :=
  fun _ _ _ H _ I h => ld_glob I hg hm ⟨v, H, I, r, h⟩ hd

/-! ### arithmetic -/
/-- two ints -/
def t2I (ta tb : TE) (k : Int → Int → Hp → Prop) : St → Hp → Prop := fun σ H => ta σ H fun x H1 => tb σ H1 fun y H2 => ∃ i j, x = .int i ∧ y = .int j ∧ k i j H2

variable {a b : Expr} {ta tb : TE} {pos : Pos}

/-! ### comparisons -/
def PC (X : Cx) (op : CmpOp) (a b : Expr) (t : TE) : Prop :=
  ∀ (pins : List (Addr × Obj)) (s : Shared) (σ : St) (H : Hp) (Q : VK), Inv X pins σ H s → t σ H Q →
    wpAny (model X.prog X.w) X.A (eval a X.env) (fun v s₁ => wpAny (model X.prog X.w) X.A (eval b X.env) (fun u s₂ => wpAny (model X.prog X.w) X.A (compareOp op v u) (EP X pins σ Q) X.xe s₂) X.xe s₁) X.xe s
theorem nobehind (b : Expr) {op : CmpOp} (h : op ≠ .In) (h2 : op ≠ .NotIn) : behindInMarks op b = false := by
  have e1 : (op == CmpOp.In) = false := by cases op <;> first | rfl | exact absurd rfl h
  have e2 : (op == CmpOp.NotIn) = false := by cases op <;> first | rfl | exact absurd rfl h2
  cases b <;> simp [behindInMarks, e1, e2]
def tCmp (p : Int → Int → Bool) (ta tb : TE) : TE := fun σ H Q => t2I ta tb (fun i j H2 => Q (.bl (p i j)) H2) σ H
abbrev tLt : TE → TE → TE := tCmp fun i j => decide (i < j)
abbrev tLe : TE → TE → TE := tCmp fun i j => decide (i ≤ j)
abbrev tGt : TE → TE → TE := tCmp fun i j => decide (j < i)
abbrev tGe : TE → TE → TE := tCmp fun i j => decide (j ≤ i)
abbrev tEqI : TE → TE → TE := tCmp fun i j => decide (i = j)
abbrev tNeI : TE → TE → TE := tCmp fun i j => !decide (i = j)
/-- a comparison of two ints, by its rule -/
theorem pc_int {op : CmpOp} {p : Int → Int → Bool} (ha : PE X a ta) (hb : PE X b tb)
    (rule : ∀ (i j : Int) (t u : Tok) (Q : Value → Shared → Prop) (s : Shared), Q (.bool (p i j)) s → wpAny (model X.prog X.w) X.A (compareOp op (.int i t) (.int j u)) Q X.xe s) : PC X op a b (tCmp p ta tb) := by
  intro pins s σ H Q I h
  refine bin ha hb I h fun v u s2 x y H2 I2 rx ry q => ?_
  obtain ⟨i, j, rfl, rfl, q⟩ := q
  obtain ⟨t, rfl⟩ := rx
  obtain ⟨t', rfl⟩ := ry
  exact rule i j t t' _ s2 ⟨.bl _, H2, I2, rfl, q⟩
theorem pc_lt (ha : PE X a ta) (hb : PE X b tb) : PC X .Lt a b (tLt ta tb) := pc_int ha hb fun _ _ _ _ _ _ h => lt_int h
theorem pc_le (ha : PE X a ta) (hb : PE X b tb) : PC X .LtE a b (tLe ta tb) := pc_int ha hb fun _ _ _ _ _ _ h => le_int h
theorem pc_gt (ha : PE X a ta) (hb : PE X b tb) : PC X .Gt a b (tGt ta tb) := pc_int ha hb fun _ _ _ _ _ _ h => gt_int h
theorem pc_ge (ha : PE X a ta) (hb : PE X b tb) : PC X .GtE a b (tGe ta tb) := pc_int ha hb fun _ _ _ _ _ _ h => ge_int h
theorem pc_eqI (ha : PE X a ta) (hb : PE X b tb) : PC X .Eq a b (tEqI ta tb) := pc_int ha hb fun _ _ _ _ _ _ h => eq_int (by rw [Bool.beq_eq_decide_eq]; exact h)
theorem pc_neI (ha : PE X a ta) (hb : PE X b tb) : PC X .NotEq a b (tNeI ta tb) := pc_int ha hb fun _ _ _ _ _ _ h => ne_int (by rw [bne, Bool.beq_eq_decide_eq]; exact h)
/-- is None -/
def tIsN (ta : TE) : TE := fun σ H Q => ta σ H fun x H1 => Q (.bl (decide (x = .non))) H1

theorem RelV.none_iff {x : V} {v : Value} (r : RelV x v) : (v == Value.none) = decide (x = .non) := by
  cases x with
  | non => cases r; rfl
  | bl _ => cases r; rfl
  | int _ => obtain ⟨t, rfl⟩ := r; rfl
  | str _ => obtain ⟨t, rfl⟩ := r; rfl
  | byt _ => obtain ⟨t, rfl⟩ := r; rfl
  | flt _ => obtain ⟨t, rfl⟩ := r; rfl
  | ref _ => cases r; rfl
  | ty _ => cases r; rfl
theorem pc_isN {j pos'} (ha : PE X a ta) : PC X .Is a (.Constant .none j pos') (tIsN ta) := by
  intro pins s σ H Q I h
  refine thn (ha pins s σ H _ I h) fun v s1 ⟨x, H1, I1, r1, q1⟩ => ?_
  exact Constant_none (is_none_gen ⟨.bl _, H1, I1, by rw [r1.none_iff]; rfl, q1⟩)

/-- a comparison as a value, as a test -/
def tB (t : TE) : TT := fun σ H Q => t σ H fun x H1 => ∃ c, x = .bl c ∧ Q c H1
theorem pe_cmp {op : CmpOp} {t : TE} (h : PC X op a b t) (h1 : behindInMarks op b = false := by first | exact nobehind _ (by decide) (by decide) | rfl) : PE X (.Compare a [op] [b] pos) t := fun pins s σ H Q I hw => wpAny_Compare1 (h pins s σ H Q I hw) h1
theorem pt_cmp {op : CmpOp} {t : TE} (h : PC X op a b t) (h1 : behindInMarks op b = false := by first | exact nobehind _ (by decide) (by decide) | rfl) : PT X (.Compare a [op] [b] pos) (tB t) := by
  intro pins s σ H Q I hw
  refine wpAny_isTrue_Compare1 (thn (h pins s σ H _ I hw) fun v s1 h1 => thn h1 fun u s2 h2 => thn h2 fun c s3 ⟨x, H1, I1, r1, q1⟩ => ?_) h1
  obtain ⟨d, rfl, q⟩ := q1
  cases r1
  exact wpAny_truthy_bool ⟨H1, I1, q⟩
/-- an expression whose value is a bool, as a test -/
theorem pt_val {e : Expr} {t : TE} (h : PE X e t) (he : ∀ whole, isTrue e X.env whole = (do let v ← whole; standAt e.pos; holding [v] (truthy v)) := by intro _; rfl) : PT X e (tB t) := by
  intro pins s σ H Q I hw
  refine isTrue_plain (thn (h pins s σ H _ I hw) fun v s1 ⟨x, H1, I1, r1, q1⟩ => ?_) (he _)
  obtain ⟨d, rfl, q⟩ := q1
  cases r1
  exact wpAny_truthy_bool ⟨H1, I1, q⟩

/-! ### and, or, not -/
variable {tA tB' : TT} {rest : List Expr}
def tAnd (t u : TT) : TT := fun σ H Q => t σ H fun c H1 => if c = true then u σ H1 Q else Q false H1
def tOr (t u : TT) : TT := fun σ H Q => t σ H fun c H1 => if c = true then Q true H1 else u σ H1 Q
def tNot (t : TT) : TT := fun σ H Q => t σ H fun c H1 => Q (!c) H1
theorem pw_and1 (ha : PT X a tA) : PW X (.BoolOp .And [a] pos) tA := by
  intro wh pins s σ H Q I h
  refine isTrue_and (thn (ha pins s σ H Q I h) fun c s1 e => ?_)
  cases c with
  | true => exact isTrue_and_nil e
  | false => exact e
theorem pw_or1 (ha : PT X a tA) : PW X (.BoolOp .Or [a] pos) tA := by
  intro wh pins s σ H Q I h
  refine isTrue_or (thn (ha pins s σ H Q I h) fun c s1 e => ?_)
  cases c with
  | false => exact isTrue_or_nil e
  | true => exact e
theorem pw_and (ha : PT X a tA) (hb : PW X (.BoolOp .And (b :: rest) pos) tB') : PW X (.BoolOp .And (a :: b :: rest) pos) (tAnd tA tB') := by
  intro wh pins s σ H Q I h
  refine isTrue_and (thn (ha pins s σ H _ I h) fun c s1 ⟨H1, I1, q1⟩ => ?_)
  cases c with
  | true => exact hb wh pins s1 σ H1 Q I1 q1
  | false => exact ⟨H1, I1, q1⟩
theorem pw_or (ha : PT X a tA) (hb : PW X (.BoolOp .Or (b :: rest) pos) tB') : PW X (.BoolOp .Or (a :: b :: rest) pos) (tOr tA tB') := by
  intro wh pins s σ H Q I h
  refine isTrue_or (thn (ha pins s σ H _ I h) fun c s1 ⟨H1, I1, q1⟩ => ?_)
  cases c with
  | true => exact ⟨H1, I1, q1⟩
  | false => exact hb wh pins s1 σ H1 Q I1 q1
theorem pt_not (ha : PT X a tA) : PT X (.UnaryOp .Not a pos) (tNot tA) := by
  intro pins s σ H Q I h
  exact isTrue_not (ha pins s σ H (fun c H1 => Q (!c) H1) I h)
/-- .. as values (bools) -/
def tAndV (ta tb : TE) : TE := fun σ H Q => ta σ H fun x H1 => ∃ c, x = .bl c ∧ if c = true then tb σ H1 Q else Q (.bl false) H1

theorem pe_one {op} {t : TE} (h : PE X a t) : PE X (.BoolOp op [a] pos) t := fun pins s σ H Q I hw => BoolOp_one (h pins s σ H Q I hw)
theorem pe_and (ha : PE X a ta) (hb : PE X (.BoolOp .And (b :: rest) pos) tb) : PE X (.BoolOp .And (a :: b :: rest) pos) (tAndV ta tb) := by
  intro pins s σ H Q I h
  refine BoolOp_and (thn (ha pins s σ H _ I h) fun v s1 ⟨x, H1, I1, r1, q1⟩ => ?_)
  obtain ⟨c, rfl, q1⟩ := q1
  cases r1
  refine wpAny_truthy_bool ?_
  cases c with
  | true => exact hb pins s1 σ H1 Q I1 q1
  | false => exact ⟨.bl false, H1, I1, rfl, q1⟩

/-- a if t else b -/
def tIf (t : TT) (ta tb : TE) : TE := fun σ H Q => t σ H fun c H1 => if c = true then ta σ H1 Q else tb σ H1 Q
theorem pe_ifExp {c : Expr} (hc : PT X c tA) (ha : PE X a ta) (hb : PE X b tb) : PE X (.IfExp c a b pos) (tIf tA ta tb) := by
  intro pins s σ H Q I h
  refine wpAny_IfExp (thn (hc pins s σ H _ I h) fun d s1 ⟨H1, I1, q1⟩ => ?_)
  cases d with
  | true => exact ha pins s1 σ H1 Q I1 q1
  | false => exact hb pins s1 σ H1 Q I1 q1
end
end L2

namespace L2
open PySem PySem.Spec PyProof.Rows

/-! ### a list, a tuple that is read: tracked, frozen, or an object of the module -/
def SqL (K : PySem.W.Frag) (H : Hp) (a : Addr) (xs : List V) : Prop :=
  Rd H a (.lst xs) ∨
    ∃ (o : Obj) (its : Array Value) (n : Nat), K.lookup a = some o ∧ o.cls = .type "list" ∧ o.dict = none ∧ o.data = .seq its n ∧ its.size ≤ sizeLine ∧ Vals xs its.toList
def SqT (K : PySem.W.Frag) (H : Hp) (a : Addr) (xs : List V) : Prop :=
  Rd H a (.tup xs) ∨
    ∃ (o : Obj) (its : Array Value) (n : Nat), K.lookup a = some o ∧ o.cls = .type "tuple" ∧ o.data = .seq its n ∧ its.size ≤ sizeLine ∧ Vals xs its.toList
def absV : Value → Option V
  | .none => some .non
  | .bool b => some (.bl b)
  | .int i _ => some (.int i)
  | .str x _ => some (.str x)
  | .bytes b _ => some (.byt b)
  | .float b _ => some (.flt b)
  | .ref a => some (.ref a)
  | .type n => some (.ty n)
  | _ => none
theorem RelV.abs {x : V} {u : Value} (r : RelV x u) : absV u = some x := by
  cases x with
  | non => cases r; rfl
  | bl _ => cases r; rfl
  | int _ => obtain ⟨t, rfl⟩ := r; rfl
  | str _ => obtain ⟨t, rfl⟩ := r; rfl
  | byt _ => obtain ⟨t, rfl⟩ := r; rfl
  | flt _ => obtain ⟨t, rfl⟩ := r; rfl
  | ref _ => cases r; rfl
  | ty _ => cases r; rfl
theorem RelV.inj {x y : V} {u : Value} (r : RelV x u) (q : RelV y u) : x = y := Option.some.inj (r.abs.symm.trans q.abs)
theorem Vals.inj : ∀ {xs ys : List V} {us : List Value}, Vals xs us → Vals ys us → xs = ys
  | _, _, _, .nil, .nil => rfl
  | _, _, _, .cons r t, .cons r' t' => by rw [r.inj r', Vals.inj t t']
section
variable {X : Cx} {pins : List (Addr × Obj)} {σ : St} {H : Hp} {s : Shared} {a : Addr} {xs ys : List V}
theorem SqL.of {K : PySem.W.Frag} (h : H a = some (.lst xs)) : SqL K H a xs := .inl (.inl h)
theorem SqT.of {K : PySem.W.Frag} (h : H a = some (.tup xs)) : SqT K H a xs := .inl (.inl h)
theorem Inv.list (I : Inv X pins σ H s) (h : SqL X.K H a xs) : ∃ its : List Value, Vals xs its ∧ PlainL s.heap a its.toArray ∧ xs.length ≤ sizeLine := by
  rcases h with h | ⟨o, its, n, hk, hc, hd, hs, hz, r⟩
  · obtain ⟨z, its, n, r, e⟩ := h.ok I.hok
    exact ⟨its, r, ⟨_, n, e, rfl, rfl, rfl⟩, z⟩
  · refine ⟨its.toList, r, ⟨o, n, I.kIn a o hk, hc, hd, by simpa using hs⟩, ?_⟩
    have e := r.length
    simp only [Array.length_toList] at e
    omega
theorem Inv.tuple (I : Inv X pins σ H s) (h : SqT X.K H a xs) : ∃ its : List Value, Vals xs its ∧ IsTup s.heap a its.toArray ∧ xs.length ≤ sizeLine := by
  rcases h with h | ⟨o, its, n, hk, hc, hs, hz, r⟩
  · obtain ⟨z, its, r, p⟩ := h.ok I.hok
    exact ⟨its, r, p, z⟩
  · refine ⟨its.toList, r, ⟨o, I.kIn a o hk, hc, n, by simpa using hs⟩, ?_⟩
    have e := r.length
    simp only [Array.length_toList] at e
    omega
theorem Inv.list_inj (I : Inv X pins σ H s) (h : SqL X.K H a xs) (h' : SqL X.K H a ys) : xs = ys := by
  obtain ⟨its, r, ⟨o, n, e, _, _, d⟩, _⟩ := I.list h
  obtain ⟨its', r', ⟨o', n', e', _, _, d'⟩, _⟩ := I.list h'
  rw [e] at e'; cases e'
  rw [d] at d'
  injection d' with d1 _
  have : its = its' := by simpa using congrArg Array.toList d1
  subst this
  exact r.inj r'

end

/-! ### another wish about exceptions -/
abbrev Cx.wish (X : Cx) (E : Value → Shared → Prop) : Cx := { X with xe := E }
/-- no exception leaves -/
abbrev Cx.nox (X : Cx) : Cx := X.wish fun _ _ => False
theorem Cx.Ok.wish {X : Cx} (ok : X.Ok) (E : Value → Shared → Prop) : (X.wish E).Ok :=
  ⟨ok.mod, ok.kind, ok.glob, ok.blt, ok.above, ok.inj, ok.has, ok.cab, ok.hd, ok.frames, ok.stk, ok.exf, ok.bs, ok.bsz, ok.noex, ok.exfs, ok.funs, ok.frf⟩
theorem Cx.Ok.unwish {X : Cx} {E : Value → Shared → Prop} (ok : (X.wish E).Ok) : X.Ok :=
  ⟨ok.mod, ok.kind, ok.glob, ok.blt, ok.above, ok.inj, ok.has, ok.cab, ok.hd, ok.frames, ok.stk, ok.exf, ok.bs, ok.bsz, ok.noex, ok.exfs, ok.funs, ok.frf⟩
section
variable {X : Cx} {pins : List (Addr × Obj)} {σ : St} {H : Hp} {s : Shared} {E : Value → Shared → Prop}
theorem Inv.wish (I : Inv X pins σ H s) (E : Value → Shared → Prop) : Inv (X.wish E) pins σ H s := ⟨I.ok.wish E, I.os, I.bare, I.base, I.loc, I.cell, I.free, I.freeC, I.pin, I.hok, I.len⟩
theorem Inv.unwish (I : Inv (X.wish E) pins σ H s) : Inv X pins σ H s := ⟨I.ok.unwish, I.os, I.bare, I.base, I.loc, I.cell, I.free, I.freeC, I.pin, I.hok, I.len⟩
theorem SP.unwish {D : Ends} {f : Flow} {s' : Shared} (h : SP (X.wish E) pins D f s') : SP X pins D f s' := by
  cases f with
  | next => obtain ⟨σ', H', I, q⟩ := h; exact ⟨σ', H', I.unwish, q⟩
  | brk => obtain ⟨σ', H', I, q⟩ := h; exact ⟨σ', H', I.unwish, q⟩
  | cont => obtain ⟨σ', H', I, q⟩ := h; exact ⟨σ', H', I.unwish, q⟩
  | ret u => obtain ⟨v, σ', H', I, r, q⟩ := h; exact ⟨v, σ', H', I.unwish, r, q⟩

theorem PSs.nox {st : List Stmt} {t : TS} (h : PSs X.nox st t) : PSs X st t := fun pins s σ H D I hw =>
  wpAny_mono (h pins s σ H D (I.wish _) hw) (fun _ _ q => q.unwish) fun _ _ z => False.elim z
end

/-! ### blocks and small statements -/
section
variable {X : Cx} {st : Stmt} {rest : List Stmt} {t u : TS} {e : Expr} {te : TE} {pos : Pos}
def tNext : TS := fun D σ H => D.nx σ H
def tSeq (t u : TS) : TS := fun D σ H => t { D with nx := u D } σ H
theorem pss_nil : PSs X [] tNext := fun _ _ σ H _ I h => wpAny_execs_nil ⟨σ, H, I, h⟩
theorem pss_cons (h1 : PS X st t) (h2 : PSs X rest u) : PSs X (st :: rest) (tSeq t u) := by
  intro pins s σ H D I h
  refine wpAny_execs_cons (thn (h1 pins s σ H { D with nx := u D } I h) fun f s1 q => ?_)
  cases f with
  | next =>
    obtain ⟨σ', H', I', q⟩ := q
    exact h2 pins s1 σ' H' D I' q
  | ret v => exact q
  | brk => exact q
  | cont => exact q
theorem pss_one (h1 : PS X st t) : PSs X [st] t := by
  intro pins s σ H D I h
  refine wpAny_execs_cons (thn (h1 pins s σ H D I h) fun f s1 q => ?_)
  cases f with
  | next => exact wpAny_execs_nil q
  | ret v => exact q
  | brk => exact q
  | cont => exact q
def tBreak : TS := fun D σ H => D.bk σ H

theorem ps_break : PS X (.Break pos) tBreak := fun _ _ σ H _ I h => wpAny_Break ⟨σ, H, I, h⟩

/-- in a def's body nothing is shown -/
theorem Inv.quiet {pins : List (Addr × Obj)} {σ : St} {H : Hp} {s : Shared} (I : Inv X pins σ H s) : interactive X.env = false := by simp [interactive, I.ok.kind]

/-- an expression whose value is dropped -/
def tDrop (te : TE) : TS := fun D σ H => te σ H fun _ H1 => D.nx σ H1
theorem ps_expr (he : PE X e te) (hs : swapsWith e none pos.line X.env = pure false := by rfl) : PS X (.Expr e pos) (tDrop te) := by
  intro pins s σ H D I h
  exact wpAny_Expr_any (thn (he pins s σ H _ I h) fun v s1 ⟨x, H1, I1, r1, q1⟩ => ⟨σ, H1, I1, q1⟩) I.quiet hs
def tRet (te : TE) : TS := fun D σ H => te σ H D.rt
theorem ps_ret (he : PE X e te) : PS X (.Return (some e) pos) (tRet te) := by
  intro pins s σ H D I h
  exact wpAny_Return_some (thn (he pins s σ H _ I h) fun v s1 ⟨x, H1, I1, r1, q1⟩ => ⟨x, σ, H1, I1, r1, q1⟩)

def tIfS (c : TT) (t u : TS) : TS := fun D σ H => c σ H fun b H1 => if b = true then t D σ H1 else u D σ H1
theorem ps_if {c : Expr} {a b : List Stmt} {tc : TT} (hc : PT X c tc) (ha : PSs X a t) (hb : PSs X b u) : PS X (.If c a b pos) (tIfS tc t u) := by
  intro pins s σ H D I h
  refine wpAny_If (thn (hc pins s σ H _ I h) fun d s1 ⟨H1, I1, q1⟩ => ?_)
  cases d with
  | true => exact ha pins s1 σ H1 D I1 q1
  | false => exact hb pins s1 σ H1 D I1 q1

end

/-! ### targets -/
abbrev TG := V → St → Hp → (St → Hp → Prop) → Prop

def PG (X : Cx) (target : Expr) (t : TG) : Prop :=
  ∀ (pins : List (Addr × Obj)) (s : Shared) (σ : St) (H : Hp) (v : V) (u : Value) (Q : St → Hp → Prop), Inv X pins σ H s → RelV v u → t v σ H Q →
    wpAny (model X.prog X.w) X.A (assign target X.env u) (fun _ s' => ∃ σ' H', Inv X pins σ' H' s' ∧ Q σ' H') X.xe s

/-- o[i] = v, by values -/
abbrev TSet := V → V → V → Hp → (Hp → Prop) → Prop
def PSet (X : Cx) (t : TSet) : Prop :=
  ∀ (pins : List (Addr × Obj)) (s : Shared) (σ : St) (H : Hp) (o i v : V) (ov iv u : Value) (Q : Hp → Prop), Inv X pins σ H s → RelV o ov → RelV i iv → RelV v u → t o i v H Q →
    wpAny (model X.prog X.w) X.A (setItem ov iv u) (fun _ s' => ∃ H', Inv X pins σ H' s' ∧ Q H') X.xe s
/-- a op= b, by values -/
abbrev TIp := V → V → Hp → VK → Prop
def PIp (X : Cx) (op : Operator) (t : TIp) : Prop :=
  ∀ (pins : List (Addr × Obj)) (s : Shared) (σ : St) (H : Hp) (x y : V) (v u : Value) (Q : VK), Inv X pins σ H s → RelV x v → RelV y u → t x y H Q →
    wpAny (model X.prog X.w) X.A (inplaceOp op v u) (EP X pins σ Q) X.xe s
section
variable {X : Cx} {pos : Pos}
def gName (i : Nat) : TG := fun v σ H Q => Q (σ.set i (some v)) H
theorem pg_name {i : Nat} {x : Str} (hN : X.N.Nodup) (hi : X.N[i]? = some x) (hx : Loc X.env.scope x) (hf : X.fn x = true ∨ X.env.scope.names.lookup x = some .local := by first | exact .inl rfl | exact .inr rfl | assumption) : PG X (.Name x pos) (gName i) := by
  intro pins s σ H v u Q I r h
  exact wpAny_assign_Name (store_ok I hN hi hx r (fun s' I' => ⟨_, H, I', h⟩) hf)

/-- target = value -/
def tAsg (te : TE) (g : TG) : TS := fun D σ H => te σ H fun x H1 => g x σ H1 D.nx

/-- name = value -/
theorem ps_set {i : Nat} {x : Str} {e : Expr} {te : TE} {pos' : Pos} (hN : X.N.Nodup) (hi : X.N[i]? = some x) (hx : Loc X.env.scope x) (he : PE X e te) (hs : swapsWith e (some (.Name x pos')) pos.line X.env = pure false := by rfl) (hf : X.fn x = true ∨ X.env.scope.names.lookup x = some .local := by first | exact .inl rfl | exact .inr rfl | assumption) :
    PS X (.Assign [.Name x pos'] e pos) (tAsg te (gName i)) := by
  intro pins s σ H D I h
  refine wpAny_Assign_Name (thn (he pins s σ H _ I h) fun v s1 ⟨y, H1, I1, r1, q1⟩ => ?_) hs
  exact store_ok I1 hN hi hx r1 (fun s2 I2 => ⟨_, H1, I2, q1⟩) hf

/-- name op= e -/
def tAug (i : Nat) (te : TE) (ti : TIp) : TS := fun D σ H => ∃ x, σ[i]? = some (some x) ∧ te σ H fun y H1 => ti x y H1 fun z H2 => D.nx (σ.set i (some z)) H2
theorem ps_aug {i : Nat} {x : Str} {e : Expr} {te : TE} {op : Operator} {ti : TIp} {pos' : Pos} (hN : X.N.Nodup) (hi : X.N[i]? = some x) (hx : Loc X.env.scope x) (he : PE X e te) (ho : PIp X op ti) (hf : X.fn x = true ∨ X.env.scope.names.lookup x = some .local := by first | exact .inl rfl | exact .inr rfl | assumption) :
    PS X (.AugAssign (.Name x pos') op e pos) (tAug i te ti) := by
  intro pins s σ H D I h
  obtain ⟨v, e1, h⟩ := h
  obtain ⟨m, hn, hl⟩ := I.loc
  have vis : Vis X.env.scope x := by rcases hx with k | k; exact .inl k; exact .inr (.inl k)
  obtain ⟨u, r, l⟩ := hl i x v hi e1 vis
  refine wpAny_AugAssign_Name ?_
  have go : wpAny (model X.prog X.w) X.A (eval e X.env) (fun w s₂ => wpAny (model X.prog X.w) X.A (inplaceOp op u w) (fun r s₃ => wpAny (model X.prog X.w) X.A (storeName X.env x r) (fun _ => SP X pins D .next) X.xe s₃) X.xe s₂) X.xe s := by
    refine thn (he pins s σ H _ I h) fun w s1 ⟨y, H1, I1, r1, q1⟩ => ?_
    refine thn (ho pins s1 σ H1 v y u w _ I1 r r1 q1) fun z s2 ⟨zv, H2, I2, r2, q2⟩ => ?_
    exact store_ok I2 hN hi hx r2 (fun s3 I3 => ⟨_, H2, I3, q2⟩) hf
  rcases l with ⟨hk, hm⟩ | ⟨hk, c, hc, hcell⟩
  · exact wpAny_loadName_local I.ok.kind hk hn hm go
  · rcases hk with hk | hk
    · exact wpAny_loadName_cell I.ok.kind hk hc hcell go
    · rcases hx with k | k
      · have : X.env.scope.names.lookup x = some .free := hk
        rw [k] at this; cases this
      · have : X.env.scope.names.lookup x = some .free := hk
        rw [k] at this; cases this
/-- o[i] op= e -/
def tAugS (to ti te : TE) (tget : V → V → Hp → VK → Prop) (tip : TIp) (tset : TSet) : TS := fun D σ H => to σ H fun o H1 => ti σ H1 fun i H2 => tget o i H2 fun x H3 => te σ H3 fun y H4 => tip x y H4 fun z H5 => tset o i z H5 fun H6 => D.nx σ H6
/-- o[i], by values -/
def PGet (X : Cx) (t : V → V → Hp → VK → Prop) : Prop :=
  ∀ (pins : List (Addr × Obj)) (s : Shared) (σ : St) (H : Hp) (o i : V) (ov iv : Value) (Q : VK), Inv X pins σ H s → RelV o ov → RelV i iv → t o i H Q →
    wpAny (model X.prog X.w) X.A (getItem ov iv) (EP X pins σ Q) X.xe s
theorem ps_augS {o i e : Expr} {to ti te : TE} {tget : V → V → Hp → VK → Prop} {tip : TIp} {tset : TSet} {op : Operator} {tpos : Pos} (ho : PE X o to) (hi : PE X i ti) (hg : PGet X tget) (he : PE X e te) (hp : PIp X op tip) (hs : PSet X tset)
    (ha : ∀ ov iv new, augStore i ov iv new = (do holding [new, ov, iv] (setItem ov iv new); release [new, ov, iv] []; pure .next) := by intros; rfl) : PS X (.AugAssign (.Subscript o i tpos) op e pos) (tAugS to ti te tget tip tset) := by
  intro pins s σ H D I h
  refine wpAny_AugAssign_SubscriptAny (thn (ho pins s σ H _ I h) fun ov s1 ⟨x1, H1, I1, r1, q1⟩ => ?_) ha
  refine thn (hi pins s1 σ H1 _ I1 q1) fun iv s2 ⟨x2, H2, I2, r2, q2⟩ => ?_
  refine thn (hg pins s2 σ H2 x1 x2 ov iv _ I2 r1 r2 q2) fun old s3 ⟨x3, H3, I3, r3, q3⟩ => ?_
  refine thn (he pins s3 σ H3 _ I3 q3) fun v s4 ⟨x4, H4, I4, r4, q4⟩ => ?_
  refine thn (hp pins s4 σ H4 x3 x4 old v _ I4 r3 r4 q4) fun new s5 ⟨x5, H5, I5, r5, q5⟩ => ?_
  exact thn (hs pins s5 σ H5 x1 x2 x5 ov iv new _ I5 r1 r2 r5 q5) fun _ s6 ⟨H6, I6, q6⟩ => ⟨σ, H6, I6, q6⟩
/-- ints -/
def ipI (f : Int → Int → Int) : TIp := fun x y H Q => ∃ i j, x = .int i ∧ y = .int j ∧ Q (.int (f i j)) H
theorem ip_add : PIp X .Add (ipI fun i j => i + j) := by
  intro pins s σ H x y v u Q I r1 r2 h
  obtain ⟨i, j, e1, e2, q⟩ := h
  subst e1; subst e2
  obtain ⟨t, rfl⟩ := r1
  obtain ⟨t', rfl⟩ := r2
  exact iadd_int ⟨.int _, H, I.tok _, ⟨_, rfl⟩, q⟩

end

/-! ### while -/
section
variable {X : Cx} {pos : Pos}
/-- the invariant W with its measure -/
def tWhile (c : TT) (tb : TS) : TS := fun D σ H => ∃ W : Nat → St → Hp → Prop, (∃ m, W m σ H) ∧ ∀ m σ H, W m σ H →
  c σ H fun b H1 => if b = true then ∃ N : St → Hp → Prop, (∀ σ' H', N σ' H' → ∃ m', m' < m ∧ W m' σ' H') ∧ tb { D with nx := N, ct := N, bk := D.nx } σ H1 else D.nx σ H1
theorem ps_while {c : Expr} {body : List Stmt} {tc : TT} {tb : TS} (hp : PassesOwn (model X.prog X.w) X.A X.env X.xe) (hc : PT X c tc) (hb : PSs X body tb) : PS X (.While c body [] pos) (tWhile tc tb) := by
  intro pins s σ H D I h
  obtain ⟨W, ⟨m0, w0⟩, turn⟩ := h
  refine wpAny_While (codeAny_whileLoop (fun n s' => ∃ σ' H', Inv X pins σ' H' s' ∧ W n σ' H') ?_ m0 ⟨σ, H, I, w0⟩)
  rintro n s1 ⟨σ1, H1, I1, w1⟩
  refine wpAny_passesOwn hp (thn (hc pins s1 σ1 H1 _ I1 (turn n σ1 H1 w1)) fun b s2 ⟨H2, I2, q2⟩ => ?_)
  cases b with
  | true =>
    obtain ⟨N, hN, q2⟩ := q2
    rw [if_pos rfl]
    refine wpAny_passesOwn hp (thn (hb pins s2 σ1 H2 _ I2 q2) fun f s3 q3 => ?_)
    cases f with
    | next =>
      obtain ⟨σ3, H3, I3, n3⟩ := q3
      obtain ⟨m', hm, w3⟩ := hN σ3 H3 n3
      exact ⟨m', hm, σ3, H3, I3, w3⟩
    | cont =>
      obtain ⟨σ3, H3, I3, n3⟩ := q3
      obtain ⟨m', hm, w3⟩ := hN σ3 H3 n3
      exact ⟨m', hm, σ3, H3, I3, w3⟩
    | brk => exact q3
    | ret v => exact q3
  | false =>
    rw [if_neg Bool.false_ne_true]
    exact wpAny_execs_nil ⟨σ1, H2, I2, q2⟩
end

/-! ### what a loop or a comprehension walks -/
/-- at turn i: it yields x (the heap may grow), or it stops -/
structure It where
  go : Nat → Hp → Prop
  yld : Nat → Hp → V → Hp → Prop
  stop : Nat → Hp → Prop
/-- the iterator's own objects may turn: they are not the frame's, not pinned, younger than the entry (or a comprehension's own) -/
def FpOk (X : Cx) (pins : List (Addr × Obj)) (H : Hp) (b : Addr) : Prop :=
  H b = none ∧ b ≠ X.env.locals ∧ b ∉ X.fs ∧ (b ∈ X.ex ∨ X.s_0.heap.objs.size ≤ b) ∧ (∀ x c, X.env.cells.lookup x = some c → c ≠ b) ∧ ∀ p ∈ X.pn ++ pins, p.1 ≠ b
theorem Inv.fpOk {X : Cx} {pins : List (Addr × Obj)} {σ : St} {H H' : Hp} {s : Shared} {b : Addr} (I : Inv X pins σ H s) (hb : s.heap.objs.size ≤ b) (hn : H' b = none) : FpOk X pins H' b := by
  refine ⟨hn, Nat.ne_of_gt (Nat.lt_of_lt_of_le I.lt hb), I.nofs hb, .inr (Nat.le_trans I.sz hb), fun x c e z => ?_, fun p hp z => ?_⟩
  · obtain ⟨v, q⟩ := I.cell x c e
    exact absurd (Nat.lt_of_lt_of_le q.lt (by rw [z]; exact hb)) (Nat.lt_irrefl _)
  · exact absurd (Nat.lt_of_lt_of_le (Heap.lt_size (I.pin p hp).1) (by rw [z]; exact hb)) (Nat.lt_irrefl _)
structure Turn (P : Program) (w : World) (K : PySem.W.Frag) (tg : Expr) (J : It) (fp : List Addr) (it : Addr) (tn : Nat → Heap → Prop) : Prop where
  mem : it ∈ fp
  obj : ∀ i h, tn i h → ∀ b ∈ fp, ∃ o, h.get? b = some o ∧ ∀ v, o.data ≠ .cell v
  keep : ∀ i h h', tn i h → (∀ b ∈ fp, ∀ o, h.get? b = some o → h'.get? b = some o) → tn i h'
  item : ∀ (X : Cx), X.prog = P → X.w = w → X.K = K → X.calm = true → ∀ (i : Nat) (pins : List (Addr × Obj)) (s : Shared) (σ : St) (H : Hp) (E : Value → Shared → Prop), Inv X pins σ H s → (∀ b ∈ fp, FpOk X pins H b) → tn i s.heap → J.go i H →
    wpAny (model P w) X.A (pyNext (.ref it)) (fun r s1 => ∃ u, r = some u ∧
      wpAny (model P w) X.A (letOwnedTupleGo tg (.ref it) u) (fun _ s2 => ∃ x H', Inv X pins σ H' s2 ∧ RelV x u ∧ J.yld i H x H' ∧ tn (i + 1) s2.heap ∧ ∀ b ∈ fp, H' b = none) E s1) E s
  done : ∀ (X : Cx), X.prog = P → X.w = w → X.K = K → X.calm = true → ∀ (i : Nat) (pins : List (Addr × Obj)) (s : Shared) (σ : St) (H : Hp) (E : Value → Shared → Prop), Inv X pins σ H s → (∀ b ∈ fp, FpOk X pins H b) → tn i s.heap → J.stop i H →
    wpAny (model P w) X.A (pyNext (.ref it)) (fun r s1 => r = none ∧ Inv X pins σ H s1) E s
  self : ∀ (A : Around) (i : Nat) (s : Shared) (Q : Value → Shared → Prop) (E : Value → Shared → Prop), tn i s.heap → Q (.ref it) s → wpAny (model P w) A (pyIter (.ref it)) Q E s
abbrev TI := St → Hp → (It → Hp → Prop) → Prop
/-- an iterator has come -/
def PIE (X : Cx) (pins : List (Addr × Obj)) (σ : St) (tg : Expr) (R : It → Hp → Prop) (itv : Value) (s2 : Shared) : Prop :=
  ∃ (it : Addr) (fp : List Addr) (tn : Nat → Heap → Prop) (J : It) (H' : Hp), itv = .ref it ∧ Inv X pins σ H' s2 ∧ Turn X.prog X.w X.K tg J fp it tn ∧ tn 0 s2.heap ∧ (∀ b ∈ fp, FpOk X pins H' b) ∧ R J H'
def PI (X : Cx) (tg iter : Expr) (wi : TI) : Prop :=
  ∀ (pins : List (Addr × Obj)) (s : Shared) (σ : St) (H : Hp) (R : It → Hp → Prop), Inv X pins σ H s → wi σ H R →
    wpAny (model X.prog X.w) X.A (eval iter X.env) (fun v s1 => wpAny (model X.prog X.w) X.A (pyIter v) (PIE X pins σ tg R) X.xe s1) X.xe s

/-- the step ahead of the store is nothing for an iterator that keeps no tuple -/
theorem go_of {M : Model} {A : Around} {E : Value → Shared → Prop} {s : Shared} {tg : Expr} {it : Addr} {u : Value} {o : Obj} {n : String} {vs : Array Value} {Q : Unit → Shared → Prop} (ho : s.heap.get? it = some o) (hc : o.cls = .type n) (hd : o.data = .fields vs)
    (hn : ["enumerate", "zip", "dict_itemiterator", "dict_reverseitemiterator", "odict_iterator", "itertools.zip_longest", "itertools.pairwise"].contains n = false) (hQ : Q () s) : wpAny M A (letOwnedTupleGo tg (.ref it) u) Q E s := by
  unfold letOwnedTupleGo
  cases tg <;> first
    | exact wpAny_pure hQ
    | (cases u <;> first
        | exact wpAny_pure hQ
        | (refine wpAny_bind (wpAny_load ho ?_)
           rw [hc, hd]
           show wpAny M A (if (["enumerate", "zip", "dict_itemiterator", "dict_reverseitemiterator", "odict_iterator", "itertools.zip_longest", "itertools.pairwise"].contains n && vs[0]? == some (rawInt _)) = true then _ else _) Q E s
           rw [if_neg (by intro h; rw [hn, Bool.false_and] at h; cases h)]
           exact wpAny_pure hQ))

/-- the list at a, as it stands at each turn (a loop may append to it) -/
def Itl (K : PySem.W.Frag) (a : Addr) : It :=
  ⟨fun i H => ∃ xs x, SqL K H a xs ∧ xs[i]? = some x, fun i H x H' => H' = H ∧ ∀ xs, SqL K H a xs → xs[i]? = some x, fun i H => ∃ xs, SqL K H a xs ∧ xs.length ≤ i⟩

/-- lo, lo + 1, .. (n of them) -/
def Itr (lo : Int) (n : Nat) : It := ⟨fun i _ => i < n, fun i H x H' => H' = H ∧ x = .int (lo + i), fun i _ => n ≤ i⟩
theorem turn_list {P : Program} {w : World} {K : PySem.W.Frag} {tg : Expr} (a it : Addr) : Turn P w K tg (Itl K a) [it] it (fun i h => h.IsListIter it a i) where
  mem := by simp
  obj := fun i h st b hb => by
    have e : b = it := by simpa using hb
    subst e
    obtain ⟨o, e, c, d⟩ := st
    exact ⟨o, e, fun v z => by rw [d] at z; cases z⟩
  keep := fun i h h' st k => st.at fun o e => k it (by simp) o e
  item := by
    intro X hP hw hK hc i pins s σ H E I hf st hg
    subst hP hw hK
    obtain ⟨xs, x, hq, hx⟩ := hg
    obtain ⟨its, rv, p, hz⟩ := I.list hq
    obtain ⟨u, hu, ru⟩ := rv.get hx
    obtain ⟨f0, f1, f2, f3, f4, f5⟩ := hf it (by simp)
    refine wpAny_pyNext_list_item st p.isList (x := u) (by simpa using hu) fun h' st' sb => ?_
    have I1 : Inv X pins σ H { s with heap := h' } := I.turned (t' := s.toks) (fun b o hb e => (sb.2 b hb).trans e) f0 f1 f3 f4 f5
    obtain ⟨o, e, c, d⟩ := id st'
    exact ⟨u, rfl, go_of (s := { s with heap := h' }) e c d (by decide) ⟨x, H, I1, ru, ⟨rfl, fun ys hy => by rw [I.list_inj hy hq]; exact hx⟩, st', fun b hb => (hf b hb).1⟩⟩
  done := by
    intro X hP hw hK hc i pins s σ H E I hf st hg
    subst hP hw hK
    obtain ⟨xs, hq, hx⟩ := hg
    obtain ⟨its, rv, p, hz⟩ := I.list hq
    obtain ⟨f0, f1, f2, f3, f4, f5⟩ := hf it (by simp)
    have hl := rv.length
    exact wpAny_pyNext_list_end (I.ok.hd hc) st p.isList (by simp; omega) fun h' eb => ⟨rfl, I.turned (t' := s.toks) (fun b o hb e => eb b o hb e) f0 f1 f3 f4 f5⟩
  self := fun _ _ _ _ _ st h => wpAny_pyIter_listiter st h

theorem turn_range {P : Program} {w : World} {K : PySem.W.Frag} {tg : Expr} (it : Addr) (lo : Int) (n : Nat) : Turn P w K tg (Itr lo n) [it] it (fun i h => IsRangeIter h it (lo + (i : Nat) * 1) ((n : Int) - (i : Nat)) 1) where
  mem := by simp
  obj := fun i h st b hb => by
    have e : b = it := by simpa using hb
    subst e
    exact ⟨_, st, fun v z => by
      have z' : Data.fields _ = Data.cell v := z
      cases z'⟩
  keep := fun i h h' st k => k it (by simp) _ st
  item := by
    intro X hP hw hK hc i pins s σ H E I hf st hg
    subst hP hw hK
    obtain ⟨f0, f1, f2, f3, f4, f5⟩ := hf it (by simp)
    have W := Walks.range (prog := X.prog) (w := X.w) (I.ok.hd hc) it lo 1 n
    refine W.item i s _ _ hg st fun v h' tk hv st' kk => ?_
    obtain ⟨t, rfl⟩ := hv
    have I1 : Inv X pins σ H { s with heap := h', toks := tk } := I.turned (fun b o hb e => kk b o (by simpa using hb) e) f0 f1 f3 f4 f5
    refine ⟨_, rfl, go_of (s := { s with heap := h', toks := tk }) (n := "range_iterator") st' rfl rfl (by decide) ⟨.int (lo + i), H, I1, ⟨t, ?_⟩, ⟨rfl, rfl⟩, st', fun b hb => (hf b hb).1⟩⟩
    rw [Int.mul_one]
  done := by
    intro X hP hw hK hc i pins s σ H E I hf st hg
    subst hP hw hK
    obtain ⟨f0, f1, f2, f3, f4, f5⟩ := hf it (by simp)
    exact wpAny_pyNext_range_end (I.ok.hd hc) st (by have : n ≤ i := hg; omega) fun h' eb => ⟨rfl, I.turned (t' := s.toks) (fun b o hb e => eb b o hb e) f0 f1 f3 f4 f5⟩
  self := fun _ _ _ _ _ st h => wpAny_pyIter_rangeiter st h
end L2

namespace L2
open PySem PySem.Spec PyProof.Rows
section
variable {X : Cx} {tg : Expr}
def iList (K : PySem.W.Frag) (tl : TE) : TI := fun σ H R => tl σ H fun x H1 => ∃ a, x = .ref a ∧ (∃ xs, SqL K H1 a xs) ∧ R (Itl K a) H1

theorem pi_list {l : Expr} {tl : TE} (hl : PE X l tl) : PI X tg l (iList X.K tl) := by
  intro pins s σ H R I h
  refine thn (hl pins s σ H _ I h) fun v s1 ⟨x, H1, I1, r1, q1⟩ => ?_
  obtain ⟨a, e, ⟨xs, hq⟩, q⟩ := q1
  subst e
  cases r1
  obtain ⟨its, rv, p, hz⟩ := I1.list hq
  refine wpAny_pyIter_list p.isList ?_
  refine ⟨s1.heap.objs.size, [s1.heap.objs.size], _, _, H1, rfl, I1.kept (t' := s1.toks) fun b o e => Heap.get?_push_of_some _ e, turn_list a _, ⟨_, Heap.get?_push_size _ rfl, rfl, rfl⟩, fun b hb => ?_, q⟩
  have e : b = s1.heap.objs.size := by simpa using hb
  subst e
  exact I1.fpOk (Nat.le_refl _) (I1.hok.fresh (Nat.le_refl _))

/-- a range object just made, walked -/
theorem range_it {pins : List (Addr × Obj)} {σ : St} {H : Hp} {s : Shared} {R : It → Hp → Prop} {E : Value → Shared → Prop} {lo hi : Int} {t u v : Tok} {tk : Nat} (I : Inv X pins σ H s) (h1 : -(2 ^ 62) ≤ lo) (h2 : lo < 2 ^ 62) (h3 : -(2 ^ 62) ≤ hi) (h4 : hi < 2 ^ 62)
    (q : R (Itr lo (hi - lo).toNat) H) : wpAny (model X.prog X.w) X.A (pyIter (.ref s.heap.objs.size)) (PIE X pins σ tg R) E { s with heap := s.heap.push { cls := .type "range", data := .fields #[.int lo t, .int hi u, .int 1 v] }, toks := tk } := by
  refine wpAny_pyIter_range (IsRange.new ..) (small_one h1 h2 h3 h4) ?_
  have I1 : Inv X pins σ H { s with heap := s.heap.push { cls := .type "range", data := .fields #[.int lo t, .int hi u, .int 1 v] }, toks := tk } := I.kept fun b o e => Heap.get?_push_of_some _ e
  refine ⟨(s.heap.push { cls := .type "range", data := .fields #[.int lo t, .int hi u, .int 1 v] }).objs.size, [(s.heap.push { cls := .type "range", data := .fields #[.int lo t, .int hi u, .int 1 v] }).objs.size], _, _, H, rfl,
    I1.kept (t' := tk) fun b o e => Heap.get?_push_of_some _ e, turn_range _ lo (hi - lo).toNat, ?_, fun b hb => ?_, q⟩
  · have e1 : lo + ((0 : Nat) : Int) * 1 = lo := by simp
    have e2 : (((hi - lo).toNat : Nat) : Int) - ((0 : Nat) : Int) = Builtin.Range.rangeSize lo hi 1 := by rw [rangeSize_one]; split <;> omega
    show IsRangeIter _ _ (lo + ((0 : Nat) : Int) * 1) ((((hi - lo).toNat : Nat) : Int) - ((0 : Nat) : Int)) 1
    rw [e1, e2]
    exact Heap.get?_push_size _ rfl
  · have e : b = (s.heap.push { cls := .type "range", data := .fields #[.int lo t, .int hi u, .int 1 v] }).objs.size := by simpa using hb
    subst e
    exact I1.fpOk (Nat.le_refl _) (I1.hok.fresh (Nat.le_refl _))
def iRng1 (ta : TA) : TI := fun σ H R => ta σ H fun vs H1 => ∃ j : Int, vs = [.int j] ∧ -(2 ^ 62) ≤ j ∧ j < 2 ^ 62 ∧ R (Itr 0 j.toNat) H1
def iRng2 (ta : TA) : TI := fun σ H R => ta σ H fun vs H1 => ∃ i j : Int, vs = [.int i, .int j] ∧ (-(2 ^ 62) ≤ i ∧ i < 2 ^ 62 ∧ -(2 ^ 62) ≤ j ∧ j < 2 ^ 62) ∧ R (Itr i (j - i).toNat) H1
theorem pi_range1 {a : Expr} {ta : TA} {p pos : Pos} (hg : Gl X "range") (hm : X.mg "range" = none) (ha : PA X [a] ta) (hs : starEach [a] X.env = [(false, eval a X.env)] := by rfl) : PI X tg (.Call (.Name "range" p) [a] [] pos) (iRng1 ta) := by
  intro pins s σ H R I h
  refine Call_ (ld_blt I hg hm boot_range (PyProof.Rows.callWith_type1 (thn (ha pos pins s σ H _ I h) fun us s1 ⟨vs, H1, I1, r1, q1⟩ => ?_) hs rfl))
  obtain ⟨j, e, q1, q2, q⟩ := q1
  subst e
  cases r1 with
  | cons r rr =>
    cases rr
    obtain ⟨t, rfl⟩ := r
    exact call_range_1 (range_it I1 (by omega) (by omega) q1 q2 (by simpa using q))
theorem pi_range2 {a b : Expr} {ta : TA} {p pos : Pos} (hg : Gl X "range") (hm : X.mg "range" = none) (ha : PA X [a, b] ta) (hs : starEach [a, b] X.env = [(false, eval a X.env), (false, eval b X.env)] := by rfl) (hs2 : starEach [b] X.env = [(false, eval b X.env)] := by rfl) :
    PI X tg (.Call (.Name "range" p) [a, b] [] pos) (iRng2 ta) := by
  intro pins s σ H R I h
  refine Call_ (ld_blt I hg hm boot_range (PyProof.Rows.callWith_type1 (thn (ha pos pins s σ H _ I h) fun us s1 ⟨vs, H1, I1, r1, q1⟩ => ?_) (by rw [hs, hs2]) (by rw [hs2]; rfl)))
  obtain ⟨i, j, e, ⟨q1, q2, q3, q4⟩, q⟩ := q1
  subst e
  cases r1 with
  | cons r rr =>
    cases rr with
    | cons r' rr =>
      cases rr
      obtain ⟨t, rfl⟩ := r
      obtain ⟨t', rfl⟩ := r'
      exact call_range_2 (range_it I1 q1 q2 q3 q4 q)

/-! ### for -/
/-- W: the invariant by the turn and a measure; N: what the body is to reach -/
def tFor (wi : TI) (g : TG) (tb : TS) : TS := fun D σ H => wi σ H fun J H1 => ∃ W : Nat → Nat → St → Hp → Prop, (∃ m, W 0 m σ H1) ∧ ∀ i m σ H, W i m σ H →
  (J.stop i H ∧ D.nx σ H) ∨ (J.go i H ∧ ∃ N : St → Hp → Prop, (∀ σ' H', N σ' H' → ∃ m', m' < m ∧ W (i + 1) m' σ' H') ∧ ∀ x H', J.yld i H x H' → g x σ H' fun σ2 H2 => tb { D with nx := N, ct := N, bk := D.nx } σ2 H2)
/-- the records at fp as they stand -/
def pinsAt (fp : List Addr) (h : Heap) : List (Addr × Obj) := fp.filterMap fun b => (h.get? b).map fun o => (b, o)
theorem mem_pinsAt {fp : List Addr} {h : Heap} {b : Addr} {o : Obj} (hb : b ∈ fp) (e : h.get? b = some o) : (b, o) ∈ pinsAt fp h := List.mem_filterMap.mpr ⟨b, hb, by rw [e]; rfl⟩
theorem of_pinsAt {fp : List Addr} {h : Heap} {p : Addr × Obj} (hp : p ∈ pinsAt fp h) : p.1 ∈ fp ∧ h.get? p.1 = some p.2 := by
  obtain ⟨b, hb, e⟩ := List.mem_filterMap.mp hp
  cases q : h.get? b with
  | none => rw [q] at e; cases e
  | some o =>
    rw [q] at e
    have e' : (b, o) = p := Option.some.inj e
    subst e'
    exact ⟨hb, q⟩
theorem Inv.pinned {pins : List (Addr × Obj)} {σ : St} {H : Hp} {s : Shared} {fp : List Addr} (I : Inv X pins σ H s) (hf : ∀ b ∈ fp, FpOk X pins H b) (ho : ∀ b ∈ fp, ∃ o, s.heap.get? b = some o ∧ ∀ v, o.data ≠ .cell v) : Inv X (pins ++ pinsAt fp s.heap) σ H s :=
  I.pins_of fun p hp => (List.mem_append.mp hp).elim (fun z => I.pin p (List.mem_append_right _ z)) fun z => by
    obtain ⟨hb, e⟩ := of_pinsAt z
    obtain ⟨f0, f1, f2, _⟩ := hf p.1 hb
    obtain ⟨o, e', d⟩ := ho p.1 hb
    rw [e] at e'; cases e'
    exact ⟨e, f0, f1, f2, d⟩
theorem Inv.unpinned {pins pl : List (Addr × Obj)} {σ : St} {H : Hp} {s : Shared} (I : Inv X (pins ++ pl) σ H s) : Inv X pins σ H s := I.pins_of fun p hp => I.pin p (List.mem_append_right _ (List.mem_append_left _ hp))
theorem ps_for {iter : Expr} {body : List Stmt} {wi : TI} {g : TG} {tb : TS} {pos : Pos} (hp : PassesOwn (model X.prog X.w) X.A X.env X.xe) (hc : X.calm = true) (hi : PI X tg iter wi) (hg : PG X tg g) (hb : PSs X body tb)
    (hs : ∀ x, foldedSetIterable iter X.env x = pure x := by intro _; rfl) : PS X (.For tg iter body [] pos) (tFor wi g tb) := by
  intro pins s σ H D I h
  refine wpAny_For (thn (hi pins s σ H _ I h) fun v s1 h1 => thn h1 fun itv s2 h2 => ?_) hs
  obtain ⟨it, fp, tn, J, H2, e, I2, T, st2, f2, W, ⟨m0, w0⟩, turn⟩ := h2
  subst e
  -- what stays true of the iterator's objects through the loop
  have stat : ∀ {H' : Hp}, (∀ b ∈ fp, H' b = none) → ∀ b ∈ fp, FpOk X pins H' b := fun hn b hb => ⟨hn b hb, (f2 b hb).2⟩
  refine codeAny_forLoop_any (fun n s' => ∃ i σ' H', Inv X pins σ' H' s' ∧ tn i s'.heap ∧ (∀ b ∈ fp, H' b = none) ∧ W i n σ' H') ?_ m0 ⟨0, σ, H2, I2, st2, fun b hb => (f2 b hb).1, w0⟩
  rintro n s3 ⟨i, σ3, H3, I3, st3, fr3, w3⟩
  rcases turn i n σ3 H3 w3 with ⟨stop, qn⟩ | ⟨go, N, hN, step⟩
  · refine wpAny_passesOwn hp (thn (T.done X rfl rfl rfl hc i pins s3 σ3 H3 X.xe I3 (stat fr3) st3 stop) fun r s4 ⟨hr, I4⟩ => ?_)
    subst hr
    exact wpAny_execs_nil ⟨σ3, H3, I4, qn⟩
  · refine wpAny_passesOwn hp (thn (T.item X rfl rfl rfl hc i pins s3 σ3 H3 X.xe I3 (stat fr3) st3 go) fun r s4 ⟨u, hr, h4⟩ => ?_)
    subst hr
    refine wpAny_passesOwn hp (thn h4 fun _ s5 ⟨x, H5, I5, r5, y5, st5, fr5⟩ => ?_)
    have I5' := I5.pinned (stat fr5) (T.obj _ _ st5)
    refine wpAny_passesOwn hp (thn (hg _ s5 σ3 H5 x u _ I5' r5 (step x H5 y5)) fun _ s6 ⟨σ6, H6, I6, q6⟩ => ?_)
    refine wpAny_passesOwn hp (thn (hb _ s6 σ6 H6 _ I6 q6) fun f s7 q7 => ?_)
    have again : ∀ {σ7 : St} {H7 : Hp}, Inv X (pins ++ pinsAt fp s5.heap) σ7 H7 s7 → N σ7 H7 → ∃ m, m < n ∧ ∃ i σ' H', Inv X pins σ' H' s7 ∧ tn i s7.heap ∧ (∀ b ∈ fp, H' b = none) ∧ W i m σ' H' := fun {σ7 H7} I7 n7 => by
      obtain ⟨m', hm, w7⟩ := hN σ7 H7 n7
      refine ⟨m', hm, i + 1, σ7, H7, I7.unpinned, T.keep _ _ _ st5 fun b hb o e => (I7.pin (b, o) (List.mem_append_right _ (List.mem_append_right _ (mem_pinsAt hb e)))).1, fun b hb => ?_, w7⟩
      obtain ⟨o, e, d⟩ := T.obj _ _ st5 b hb
      exact (I7.pin (b, o) (List.mem_append_right _ (List.mem_append_right _ (mem_pinsAt hb e)))).2.1
    cases f with
    | next => obtain ⟨σ7, H7, I7, n7⟩ := q7; exact again I7 n7
    | cont => obtain ⟨σ7, H7, I7, n7⟩ := q7; exact again I7 n7
    | brk => obtain ⟨σ7, H7, I7, q7⟩ := q7; exact ⟨σ7, H7, I7.unpinned, q7⟩
    | ret v => obtain ⟨x7, σ7, H7, I7, r7, q7⟩ := q7; exact ⟨x7, σ7, H7, I7.unpinned, r7, q7⟩
end

/-! ### the forms one uses -/
/-- over a list that the body leaves as it is -/
theorem for_list {K : PySem.W.Frag} {a : Addr} {xs : List V} {g : TG} {tb : TS} {D : Ends} {σ : St} {H : Hp} (Pv : Nat → St → Hp → Prop) (h0 : Pv 0 σ H) (hl : ∀ i σ H, i ≤ xs.length → Pv i σ H → SqL K H a xs)
    (hs : ∀ i x σ H, xs[i]? = some x → Pv i σ H → g x σ H fun σ2 H2 => tb { D with nx := Pv (i + 1), ct := Pv (i + 1), bk := D.nx } σ2 H2) (hd : ∀ σ H, Pv xs.length σ H → D.nx σ H) :
    ∃ W : Nat → Nat → St → Hp → Prop, (∃ m, W 0 m σ H) ∧ ∀ i m σ H, W i m σ H →
      ((Itl K a).stop i H ∧ D.nx σ H) ∨ ((Itl K a).go i H ∧ ∃ N : St → Hp → Prop, (∀ σ' H', N σ' H' → ∃ m', m' < m ∧ W (i + 1) m' σ' H') ∧ ∀ x H', (Itl K a).yld i H x H' → g x σ H' fun σ2 H2 => tb { D with nx := N, ct := N, bk := D.nx } σ2 H2) := by
  refine ⟨fun i m σ H => m = xs.length - i ∧ i ≤ xs.length ∧ Pv i σ H, ⟨xs.length, by simp, Nat.zero_le _, h0⟩, ?_⟩
  rintro i m σ H ⟨rfl, hi, p⟩
  have q := hl i σ H hi p
  by_cases hlt : i < xs.length
  · refine .inr ⟨⟨xs, xs[i], q, by simp [hlt]⟩, Pv (i + 1), fun σ' H' p' => ⟨xs.length - (i + 1), by omega, rfl, hlt, p'⟩, fun x H' y => ?_⟩
    obtain ⟨e, y⟩ := y
    subst e
    exact hs i x σ _ (y xs q) p
  · have e : i = xs.length := by omega
    subst e
    exact .inl ⟨⟨xs, q, Nat.le_refl _⟩, hd σ H p⟩

theorem for_range {lo : Int} {n : Nat} {g : TG} {tb : TS} {D : Ends} {σ : St} {H : Hp} (Pv : Nat → St → Hp → Prop) (h0 : Pv 0 σ H)
    (hs : ∀ i σ H, i < n → Pv i σ H → g (.int (lo + i)) σ H fun σ2 H2 => tb { D with nx := Pv (i + 1), ct := Pv (i + 1), bk := D.nx } σ2 H2) (hd : ∀ σ H, Pv n σ H → D.nx σ H) :
    ∃ W : Nat → Nat → St → Hp → Prop, (∃ m, W 0 m σ H) ∧ ∀ i m σ H, W i m σ H →
      ((Itr lo n).stop i H ∧ D.nx σ H) ∨ ((Itr lo n).go i H ∧ ∃ N : St → Hp → Prop, (∀ σ' H', N σ' H' → ∃ m', m' < m ∧ W (i + 1) m' σ' H') ∧ ∀ x H', (Itr lo n).yld i H x H' → g x σ H' fun σ2 H2 => tb { D with nx := N, ct := N, bk := D.nx } σ2 H2) := by
  refine ⟨fun i m σ H => m = n - i ∧ i ≤ n ∧ Pv i σ H, ⟨n, by simp, Nat.zero_le _, h0⟩, ?_⟩
  rintro i m σ H ⟨rfl, hi, p⟩
  by_cases hlt : i < n
  · refine .inr ⟨hlt, Pv (i + 1), fun σ' H' p' => ⟨n - (i + 1), by omega, rfl, hlt, p'⟩, fun x H' y => ?_⟩
    obtain ⟨e, y⟩ := y
    subst e y
    exact hs i σ _ hlt p
  · have e : i = n := by omega
    subst e
    exact .inl ⟨Nat.le_refl _, hd σ H p⟩

end L2

namespace L2
open PySem PySem.Spec PyProof.Rows

abbrev R2 := V → V → Hp → VK → Prop
/-- a two-place operation on values: f is binaryOp op, inplaceOp op or compareOp op -/
def OpR (X : Cx) (f : Value → Value → Sem Value) (r : R2) : Prop :=
  ∀ (pins : List (Addr × Obj)) (s : Shared) (σ : St) (H : Hp) (x y : V) (v u : Value) (Q : VK), Inv X pins σ H s → RelV x v → RelV y u → r x y H Q →
    wpAny (model X.prog X.w) X.A (f v u) (EP X pins σ Q) X.xe s
/-- a one-place operation -/
def UnR (X : Cx) (f : Value → Sem Value) (r : V → Hp → VK → Prop) : Prop :=
  ∀ (pins : List (Addr × Obj)) (s : Shared) (σ : St) (H : Hp) (x : V) (v : Value) (Q : VK), Inv X pins σ H s → RelV x v → r x H Q →
    wpAny (model X.prog X.w) X.A (f v) (EP X pins σ Q) X.xe s
/-- a call of a value that is known (a builtin, a type) with values -/
def CallR (X : Cx) (f : Value) (r : List V → Hp → VK → Prop) : Prop :=
  ∀ (pins : List (Addr × Obj)) (s : Shared) (σ : St) (H : Hp) (xs : List V) (us : List Value) (Q : VK), Inv X pins σ H s → Vals xs us → r xs H Q →
    wpAny (model X.prog X.w) X.A (call f us) (EP X pins σ Q) X.xe s

def tOp (r : R2) (ta tb : TE) : TE := fun σ H Q => ta σ H fun x H1 => tb σ H1 fun y H2 => r x y H2 Q
def tUn (r : V → Hp → VK → Prop) (ta : TE) : TE := fun σ H Q => ta σ H fun x H1 => r x H1 Q
/-- ints in, under C, and a value out -/
def rI (C : Int → Int → Prop) (g : Int → Int → V) : R2 := fun x y H Q => ∃ i j, x = .int i ∧ y = .int j ∧ C i j ∧ Q (g i j) H
def rI0 (g : Int → Int → V) : R2 := fun x y H Q => ∃ i j, x = .int i ∧ y = .int j ∧ Q (g i j) H
def rU (g : Int → V) : V → Hp → VK → Prop := fun x H Q => ∃ i, x = .int i ∧ Q (g i) H

section
variable {X : Cx} {a b c : Expr} {ta tb tc : TE} {pos : Pos}

theorem binT (ha : PE X a ta) (hb : PE X b tb) {pins : List (Addr × Obj)} {s : Shared} {σ : St} {H : Hp} {R : V → V → Hp → Prop} (I : Inv X pins σ H s)
    (h : ta σ H fun x H1 => tb σ H1 fun y H2 => R x y H2) {Q : Value → Shared → Prop} {f : Value → Value → Sem Value}
    (hf : ∀ v u s2 x y H2, Inv X pins σ H2 s2 → RelV x v → RelV y u → R x y H2 → wpAny (model X.prog X.w) X.A (f v u) Q X.xe s2) :
    wpAny (model X.prog X.w) X.A (eval a X.env) (fun v s₁ => wpAny (model X.prog X.w) X.A (eval b X.env) (fun u s₂ => wpAny (model X.prog X.w) X.A (f v u) Q X.xe s₂) X.xe s₁) X.xe s := by
  refine thn (ha pins s σ H _ I h) fun v s1 ⟨x, H1, I1, r1, q1⟩ => ?_
  refine thn (hb pins s1 σ H1 _ I1 q1) fun u s2 ⟨y, H2, I2, r2, q2⟩ => ?_
  exact hf v u s2 x y H2 I2 r1 r2 q2

theorem pe_op {op : Operator} {r : R2} (ho : OpR X (binaryOp op) r) (ha : PE X a ta) (hb : PE X b tb) : PE X (.BinOp a op b pos) (tOp r ta tb) := by
  intro pins s σ H Q I h
  exact wpAny_BinOp (binT ha hb I h fun v u s2 x y H2 I2 rx ry q => ho pins s2 σ H2 x y v u Q I2 rx ry q)
theorem pe_un {op : UnaryOp} {r : V → Hp → VK → Prop} (ho : UnR X (unaryOp op) r) (ha : PE X a ta) : PE X (.UnaryOp op a pos) (tUn r ta) := by
  intro pins s σ H Q I h
  exact UnaryOp_ (thn (ha pins s σ H _ I h) fun v s1 ⟨x, H1, I1, r1, q1⟩ => ho pins s1 σ H1 x v Q I1 r1 q1)

/-! ### ints -/
theorem opI {f : Value → Value → Sem Value} {C : Int → Int → Prop} {g : Int → Int → Int}
    (rule : ∀ (i j : Int) (t u : Tok) (s : Shared) (Q : Value → Shared → Prop) (E : Value → Shared → Prop), C i j → Q (.int (g i j) s.toks) { s with toks := s.toks + 1 } → wpAny (model X.prog X.w) X.A (f (.int i t) (.int j u)) Q E s) :
    OpR X f (rI C fun i j => .int (g i j)) := by
  intro pins s σ H x y v u Q I rx ry h
  obtain ⟨i, j, rfl, rfl, hc, q⟩ := h
  obtain ⟨t, rfl⟩ := rx
  obtain ⟨t', rfl⟩ := ry
  exact rule i j t t' s _ _ hc ⟨.int (g i j), H, I.tok _, ⟨_, rfl⟩, q⟩
theorem opI0 {f : Value → Value → Sem Value} {g : Int → Int → Int}
    (rule : ∀ (i j : Int) (t u : Tok) (s : Shared) (Q : Value → Shared → Prop) (E : Value → Shared → Prop), Q (.int (g i j) s.toks) { s with toks := s.toks + 1 } → wpAny (model X.prog X.w) X.A (f (.int i t) (.int j u)) Q E s) :
    OpR X f (rI0 fun i j => .int (g i j)) := by
  intro pins s σ H x y v u Q I rx ry h
  obtain ⟨i, j, rfl, rfl, q⟩ := h
  obtain ⟨t, rfl⟩ := rx
  obtain ⟨t', rfl⟩ := ry
  exact rule i j t t' s _ _ ⟨.int (g i j), H, I.tok _, ⟨_, rfl⟩, q⟩
theorem opB0 {f : Value → Value → Sem Value} {g : Int → Int → Bool}
    (rule : ∀ (i j : Int) (t u : Tok) (s : Shared) (Q : Value → Shared → Prop) (E : Value → Shared → Prop), Q (.bool (g i j)) s → wpAny (model X.prog X.w) X.A (f (.int i t) (.int j u)) Q E s) :
    OpR X f (rI0 fun i j => .bl (g i j)) := by
  intro pins s σ H x y v u Q I rx ry h
  obtain ⟨i, j, rfl, rfl, q⟩ := h
  obtain ⟨t, rfl⟩ := rx
  obtain ⟨t', rfl⟩ := ry
  exact rule i j t t' s _ _ ⟨.bl (g i j), H, I, rfl, q⟩

theorem op_add : OpR X (binaryOp .Add) (rI0 fun i j => .int (i + j)) := opI0 fun _ _ _ _ _ _ _ q => add_int q
theorem op_sub : OpR X (binaryOp .Sub) (rI0 fun i j => .int (i - j)) := opI0 fun _ _ _ _ _ _ _ q => sub_int q

/-- % by a positive divisor of any size -/
theorem op_mod : OpR X (binaryOp .Mod) (rI (fun _ j => 0 < j) fun i j => .int (i % j)) := opI fun i j _ _ _ _ _ hc q => by
  have h1 : (0 : Int) < j := hc
  exact mod_int' (by omega) (by rw [Int.fmod_eq_emod_of_nonneg i (by omega)]; exact q)

theorem unI {f : Value → Sem Value} {g : Int → Int}
    (rule : ∀ (i : Int) (t : Tok) (s : Shared) (Q : Value → Shared → Prop) (E : Value → Shared → Prop), Q (.int (g i) s.toks) { s with toks := s.toks + 1 } → wpAny (model X.prog X.w) X.A (f (.int i t)) Q E s) :
    UnR X f (rU fun i => .int (g i)) := by
  intro pins s σ H x v Q I rx h
  obtain ⟨i, rfl, q⟩ := h
  obtain ⟨t, rfl⟩ := rx
  exact rule i t s _ _ ⟨.int (g i), H, I.tok _, ⟨_, rfl⟩, q⟩
theorem un_neg : UnR X (unaryOp .USub) (rU fun i => .int (-i)) := unI fun _ _ _ _ _ q => neg_int q

/-! ### bools among ints: n += (a < b) -/

end

/-! ### comparisons -/

section
variable {X : Cx} {a b c : Expr} {ta tb tc : TE} {pos : Pos}

theorem op_le : OpR X (compareOp .LtE) (rI0 fun i j => .bl (decide (i ≤ j))) := opB0 fun _ _ _ _ _ _ _ q => le_int q

theorem nomark (b : Expr) {op : CmpOp} (h : op ≠ .In := by decide) (h2 : op ≠ .NotIn := by decide) : behindInMarks op b = false := by
  have e1 : (op == CmpOp.In) = false := by cases op <;> first | rfl | exact absurd rfl h
  have e2 : (op == CmpOp.NotIn) = false := by cases op <;> first | rfl | exact absurd rfl h2
  cases b <;> simp [behindInMarks, e1, e2]

/-- a reading of a value as a test -/
def tTest (t : TE) : TT := fun σ H Q => t σ H fun x H' => ∃ k, x = .bl k ∧ Q k H'
theorem pt_cmpR {op : CmpOp} {r : R2} (ho : OpR X (compareOp op) r) (ha : PE X a ta) (hb : PE X b tb) (hm : behindInMarks op b = false) : PT X (.Compare a [op] [b] pos) (tTest (tOp r ta tb)) := by
  intro pins s σ H Q I h
  refine wpAny_isTrue_Compare1 (thn (ha pins s σ H _ I h) fun v s1 ⟨x, H1, I1, r1, q1⟩ => thn (hb pins s1 σ H1 _ I1 q1) fun u s2 ⟨y, H2, I2, r2, q2⟩ =>
    thn (ho pins s2 σ H2 x y v u _ I2 r1 r2 q2) fun c s3 ⟨z, H3, I3, r3, k, e, q3⟩ => ?_) hm
  subst e
  cases r3
  exact wpAny_truthy_bool ⟨H3, I3, q3⟩
/-- a op1 b op2 c -/
def tChain (r r' : R2) (ta tb tc : TE) : TE := fun σ H Q => ta σ H fun x H1 => tb σ H1 fun y H2 => r x y H2 fun z H3 => ∃ k, z = .bl k ∧
  (if k = true then tc σ H3 fun w' H4 => r' y w' H4 Q else Q (.bl false) H3)

theorem pt_chain {op op' : CmpOp} {r r' : R2} (ho : OpR X (compareOp op) r) (ho' : OpR X (compareOp op') r') (ha : PE X a ta) (hb : PE X b tb) (hc : PE X c tc)
    (hm : lastMarks [op, op'] [b, c] = false := by with_unfolding_all rfl) : PT X (.Compare a [op, op'] [b, c] pos) (tTest (tChain r r' ta tb tc)) := by
  intro pins s σ H Q I h
  refine isTrue_chain (thn (ha pins s σ H _ I h) fun v s1 ⟨x, H1, I1, r1, q1⟩ => test_link (thn (hb pins s1 σ H1 _ I1 q1) fun u s2 ⟨y, H2, I2, r2, q2⟩ =>
    thn (ho pins s2 σ H2 x y v u _ I2 r1 r2 q2) fun d s3 ⟨z, H3, I3, r3, k, e, q3⟩ => ?_)) hm
  subst e
  cases r3
  refine wpAny_truthy_bool ?_
  cases k with
  | false =>
    obtain ⟨k', e', q'⟩ := q3
    cases e'
    exact ite_ff ⟨H3, I3, q'⟩
  | true =>
    refine ite_tt (test_last (thn (hc pins s3 σ H3 _ I3 q3) fun w' s4 ⟨z', H4, I4, r4, q4⟩ => thn (ho' pins s4 σ H4 y z' u w' _ I4 r2 r4 q4) fun d' s5 ⟨z2, H5, I5, r5, k2, e2, q5⟩ => ?_))
    subst e2
    cases r5
    exact wpAny_truthy_bool ⟨H5, I5, q5⟩

/-! ### truth -/

theorem line63 : (sizeLine : Nat) < 2 ^ 63 := by rw [sizeLine_eq]; decide

/-! ### strs and bytes -/

/-! ### scalar builtins, by CallR -/
theorem vals1 {x : V} {us : List Value} (r : Vals [x] us) : ∃ u, us = [u] ∧ RelV x u := by
  cases r with
  | cons r1 r2 => cases r2; exact ⟨_, rfl, r1⟩

end
end L2

namespace L2
open PySem PySem.Spec PyProof.Rows

/-! ### an instance, its attributes a map -/

section
variable {prog : Program} {w : World} {A : Around} {E : Value → Shared → Prop} {s : Shared} {K : PySem.W.Frag} {x dx C f : Addr} {mA : Str → Option Value} {name : Str} {v : Value}

end

/-! ### the attributes as a list of pairs -/

theorem RelO.some_of {v : V} {o : Option Value} (r : RelO (some v) o) : ∃ u, o = some u ∧ RelV v u := by
  cases o with
  | none => exact (show False from r).elim
  | some u => exact ⟨u, rfl, r⟩

section
variable {P : Program} {w : World} {H H' : Hp} {h h' : Heap} {a C dx : Addr} {fs fs' : List (Str × V)}

end

/-! ### what of the text a class must have -/

section
variable {X : Cx} {pins : List (Addr × Obj)} {σ : St} {H : Hp} {s : Shared} {a C dx : Addr} {fs : List (Str × V)} {f : Str} {v : V} {A : Around} {E : Value → Shared → Prop}

end

/-! ### readings and rules -/

section
variable {X : Cx} {o e value : Expr} {f : Str} {pos pos' tpos : Pos} {ta tv : TE}

end

/-! ### isinstance -/
section
variable {X : Cx} {pins : List (Addr × Obj)} {σ : St} {H : Hp} {s : Shared} {A : Around} {E : Value → Shared → Prop} {Q : Value → Shared → Prop} {c : Value} {b : Bool}

end
end L2

namespace L2
open PySem PySem.Spec PyProof.Rows

/-! ### room -/
structure Room (k : Nat) (A : Around) : Prop where
  hd : A.handled = none
  dp : A.depth + 3 * k + 5 < recursionLimit
  un : A.units + 16 * k + 200 < cLine
theorem Room.mono {j k : Nat} {A : Around} (r : Room k A) (h : j ≤ k) : Room j A := ⟨r.hd, by have := r.dp; omega, by have := r.un; omega⟩
theorem Room.deeper {k : Nat} {A : Around} (r : Room (k + 1) A) (env : Env) : Room k (A.deeper env) :=
  ⟨r.hd, by have := r.dp; show A.depth + 1 + 3 * k + 5 < _; omega, by have := r.un; show A.units + 3 + 16 * k + 200 < _; omega⟩

theorem Room.depth {k : Nat} {A : Around} (r : Room k A) : A.depth < recursionLimit := by have := r.dp; omega
theorem Room.units {k : Nat} {A : Around} (r : Room k A) : A.units + 64 < cLine := by have := r.un; omega

/-! ### argument lists and displays -/
def tNil : TA := fun _ H Q => Q [] H
def tCons (ta : TE) (tr : TA) : TA := fun σ H Q => ta σ H fun x H1 => tr σ H1 fun xs H2 => Q (x :: xs) H2
section
variable {X : Cx} {e : Expr} {es : List Expr} {te : TE} {t : TA} {pos : Pos}
theorem pa_nil : PA X [] tNil := fun _ _ _ _ H Q I h => Calls.spliced_nil ⟨[], H, I, .nil, h⟩
theorem pa_cons (ha : PE X e te) (hr : PA X es t) (hs : starEach (e :: es) X.env = (false, eval e X.env) :: starEach es X.env := by rfl) : PA X (e :: es) (tCons te t) := by
  intro pos pins s σ H Q I h
  rw [hs]
  show wpAny _ _ (spliced ((false, eval e X.env) :: backTo pos (starEach es X.env))) _ _ s
  refine Calls.spliced_cons (thn (ha pins s σ H _ I h) fun u s1 ⟨x, H1, I1, r1, q1⟩ => ?_)
  exact thn (hr pos pins s1 σ H1 _ I1 q1) fun us s2 ⟨xs, H2, I2, r2, q2⟩ => ⟨x :: xs, H2, I2, .cons r1 r2, q2⟩

/-- a tuple, a list of written items -/
def tTup (t : TA) : TE := fun σ H Q => t σ H fun xs H1 => xs.length ≤ sizeLine ∧ ∀ p, H1 p = none → Q (.ref p) (upd H1 p (.tup xs))
def tLst (t : TA) : TE := fun σ H Q => t σ H fun xs H1 => xs.length ≤ sizeLine ∧ ∀ p, H1 p = none → Q (.ref p) (upd H1 p (.lst xs))
theorem pe_tup {x1} (h : PA X es t) : PE X (.Tuple es x1 pos) (tTup t) := by
  intro pins s σ H Q I hq
  refine wpAny_Tuple_spliced (thn (h pos pins s σ H _ I hq) fun us s1 ⟨xs, H1, I1, r, z, q⟩ => ⟨by rw [← r.length]; exact z, ?_⟩)
  have hf : H1 s1.heap.objs.size = none := I1.hok.fresh (Nat.le_refl _)
  refine ⟨.ref s1.heap.objs.size, upd H1 s1.heap.objs.size (.tup xs), I1.laid (t' := s1.toks) (fun b u e => Heap.get?_push_of_some _ e) (Nat.le_refl _) ?_, rfl, q _ hf⟩
  exact ⟨z, us, r, ⟨_, Heap.get?_push_size _ rfl, rfl, _, rfl⟩⟩
theorem pe_lst (h : PA X es t) : PE X (.List es pos) (tLst t) := by
  intro pins s σ H Q I hq
  refine wpAny_List_spliced (thn (h pos pins s σ H _ I hq) fun us s1 ⟨xs, H1, I1, r, z, q⟩ => ⟨by rw [← r.length]; exact z, ?_⟩)
  have hf : H1 s1.heap.objs.size = none := I1.hok.fresh (Nat.le_refl _)
  refine ⟨.ref s1.heap.objs.size, upd H1 s1.heap.objs.size (.lst xs), I1.laid (t' := s1.toks) (fun b u e => Heap.get?_push_of_some _ e) (Nat.le_refl _) ?_, rfl, q _ hf⟩
  exact ⟨z, us, 0, r, Heap.get?_push_size _ rfl⟩
end

/-! ### what a def promises -/
/-- a def's promise: the bound arguments in the parameters' order, the heap, the wanted end, the wanted exception -/
abbrev Sp := List V → Hp → VK → XK → Prop
/-- how an exception lies behind a call (file 08 gives it): the callers' frames, abstract heap and state ahead of the call, the wish, the exception, the state -/
abbrev CXT := List Env → Hp → Shared → XK → Value → Shared → Prop

/-- the state at a call -/
structure Env0 (P : Program) (w : World) (K : PySem.W.Frag) (mg : Str → Option Value) (base : Heap) (A : Around) (outer : List Env) (s : Shared) (H : Hp) : Prop where
  frames : A.frames = some outer
  mod : Mod K mg base
  bs : ∀ b o, base.get? b = some o → s.heap.get? b = some o ∧ H b = none
  bsz : base.objs.size ≤ s.heap.objs.size
  funs : s.heap.FunFrames base outer
  frf : ∀ b ∈ frs outer, H b = none
  hok : HOk P w H s.heap
  bare : AllBare s.gens
/-- a call's end -/
def CE (outer : List Env) (P : Program) (w : World) (H : Hp) (s : Shared) (Q : VK) (u : Value) (s' : Shared) : Prop :=
  ∃ v H', s'.os = s.os ∧ AllBare s'.gens ∧ Un (frs outer) [] H H' s.heap s'.heap ∧ HOk P w H' s'.heap ∧ RelV v u ∧ Q v H'
def CR (CX : CXT) (outer : List Env) (P : Program) (w : World) (H : Hp) (s : Shared) (Q : VK) (E : XK) (r : Result) (s' : Shared) : Prop :=
  match r with
  | .ok (.ret u) => CE outer P w H s Q u s'
  | .ok _ => False
  | .error e => CX outer H s E e s'
structure FnOk (P : Program) (w : World) (K : PySem.W.Frag) (mg : Str → Option Value) (base : Heap) (CX : CXT) (k : Nat) (f : Addr) (fd : FuncData) (ps : List Str) (sp : Sp) : Prop where
  len : ∀ vs H Q E, sp vs H Q E → vs.length = ps.length
  run : ∀ (A : Around) (outer : List Env) (s : Shared) (H : Hp) (args : Args) (us : List Value) (vs : List V) (Q : VK) (E : XK), Room k A → Env0 P w K mg base A outer s H → BindsTo s fd args (ps.zip us) → Vals vs us → sp vs H Q E →
    codeAny (model P w) A (.call (.ref f) args) (CR CX outer P w H s Q E) s

section
variable {X : Cx} {pins : List (Addr × Obj)} {σ : St} {H : Hp} {s s' : Shared}
/-- from a body: what a callee wants -/
theorem Inv.env0 (I : Inv X pins σ H s) : Env0 X.prog X.w X.K X.mg X.base X.A X.stack s H :=
  ⟨I.ok.frames, I.ok.mod, I.bs, Nat.le_trans I.ok.bsz I.sz, I.stack, I.stkFree, I.hok, I.bare⟩
/-- behind a call -/
theorem Inv.after {Q : VK} {u : Value} (I : Inv X pins σ H s) (h : CE X.stack X.prog X.w H s Q u s') : EP X pins σ Q u s' := by
  obtain ⟨v, H', os, bare, un, hok, r, q⟩ := h
  obtain ⟨hh, g, d, t, os'⟩ := s'
  obtain rfl : os' = s.os := os
  exact ⟨v, H', I.call (h' := hh) (g' := g) (d' := d) (t' := t) (ch := []) un hok bare (fun b z => absurd z (by simp)), r, q⟩
end

/-! ### calls -/
/-- f(..): the written arguments, then the defaults dvs; E: what is wanted of an exception -/
def tCall (sp : Sp) (dvs : List V) (E : XK) (t : TA) : TE := fun σ H Q => t σ H fun vs H1 => sp (vs ++ dvs) H1 Q E

/-- how the parameters are bound: us the positional arguments, kw the keywords' values by name, ds the defaults that fill up -/
def Binds (K : PySem.W.Frag) (fd : FuncData) (ps : List Str) (ds : List Value) : Prop :=
  ∀ (s : Shared) (us : List Value), K.In s.heap → (us ++ ds).length = ps.length → BindsTo s fd ⟨us, []⟩ (ps.zip (us ++ ds))
/-- every parameter is given -/
theorem Binds.all {K : PySem.W.Frag} {fd : FuncData} {ps : List Str} (h : ∀ us : List Value, us.length = ps.length → bindArgs fd ⟨us, []⟩ = pure (ps.zip us)) : Binds K fd ps [] := fun s us _ hl => by
  rw [List.append_nil] at hl ⊢
  exact .of_eq (h us hl)

/-- an exception of a callee reaches what this body wants of exceptions -/
def Passes (CX : CXT) (X : Cx) (E : XK) : Prop := ∀ (pins : List (Addr × Obj)) (σ : St) (H : Hp) (s : Shared) (e : Value) (s' : Shared), Inv X pins σ H s → CX X.stack H s E e s' → X.xe e s'

section
variable {X : Cx} {CX : CXT} {k : Nat} {f C : Addr} {fd : FuncData} {ps : List Str} {sp : Sp} {dvs : List V} {ds : List Value} {E : XK} {x m : Str} {p pos apos : Pos} {e o : Expr} {es : List Expr} {ta : TE} {t : TA}

/-- the callee runs -/
theorem run_fn {pins : List (Addr × Obj)} {σ : St} {H : Hp} {s : Shared} {Q : VK} {us : List Value} {vs : List V} (F : FnOk X.prog X.w X.K X.mg X.base CX k f fd ps sp) (hr : Room k X.A) (hb : Binds X.K fd ps ds) (hd : Vals dvs ds) (hx : Passes CX X E)
    (I : Inv X pins σ H s) (r : Vals vs us) (h : sp (vs ++ dvs) H Q E) : wpAny (model X.prog X.w) X.A (call (.ref f) us) (EP X pins σ Q) X.xe s := by
  have r2 : Vals (vs ++ dvs) (us ++ ds) := r.append hd
  have hl : (us ++ ds).length = ps.length := by rw [← r2.length]; exact F.len _ _ _ _ h
  refine wpAny_call (codeAny_mono (F.run X.A X.stack s H ⟨us, []⟩ (us ++ ds) (vs ++ dvs) Q E hr I.env0 (hb s us I.kIn hl) r2 h) fun r s' hq => ?_)
  cases r with
  | error e => exact hx pins σ H s e s' I hq
  | ok fl =>
    cases fl with
    | ret u => exact I.after hq
    | next => exact False.elim hq
    | brk => exact False.elim hq
    | cont => exact False.elim hq

theorem pe_call (F : FnOk X.prog X.w X.K X.mg X.base CX k f fd ps sp) (hr : Room k X.A) (hg : Gl X x) (hm : X.mg x = some (.ref f)) (hk : PySem.W.keepIn X.K (.ref f) = true) (hb : Binds X.K fd ps ds) (hd : Vals dvs ds) (hx : Passes CX X E)
    (ha : PA X (e :: es) t) (hdb : (x == ("__debug__" : Str)) = false := by decide) (he : starEach (e :: es) X.env = (false, eval e X.env) :: starEach es X.env := by rfl) (hpl : (backTo pos (starEach es X.env)).any (·.1) = false := by rfl) :
    PE X (.Call (.Name x p) (e :: es) [] pos) (tCall sp dvs E t) := by
  intro pins s σ H Q I h
  refine wpAny_Call_Name_kw (ld_glob I hg hm ?_ hdb)
  refine PySem.W.callWith_K (h₀ := X.base) I.ok.mod.kin hk (thn (ha pos pins s σ H _ I h) fun us s1 ⟨vs, H1, I1, r, q⟩ => ⟨I1.kIn, ?_⟩) he hpl
  exact run_fn F hr hb hd hx I1 r q

end

/-! ### keywords -/
/-- the values of the keywords, from the left -/
def PK (X : Cx) (kws : List Keyword) (t : TA) : Prop :=
  ∀ (pos : Pos) (pins : List (Addr × Obj)) (s : Shared) (σ : St) (H : Hp) (Q : List V → Hp → Prop), Inv X pins σ H s → t σ H Q → wpAny (model X.prog X.w) X.A (evalAll ((backToKw pos (keywordEach kws X.env)).map (·.2))) (AP X pins σ Q) X.xe s
section
variable {X : Cx} {CX : CXT} {k : Nat} {f C : Addr} {fd : FuncData} {ps ks : List Str} {sp : Sp} {E : XK} {x m : Str} {p pos apos kpos : Pos} {e o : Expr} {es : List Expr} {kws : List Keyword} {te ta : TE} {t tk : TA} {nm : Option Str}
theorem pk_nil : PK X [] tNil := fun _ _ _ _ H Q I h => wpAny_evalAll_nil ⟨[], H, I, .nil, h⟩
theorem pk_cons (ha : PE X e te) (hr : PK X kws t) : PK X (⟨nm, e, kpos⟩ :: kws) (tCons te t) := by
  intro pos pins s σ H Q I h
  show wpAny _ _ (evalAll ((do let v ← eval e X.env; standAt pos; pure v) :: (backToKw pos (keywordEach kws X.env)).map (·.2))) _ _ s
  refine wpAny_evalAll_cons (wpAny_bind (thn (ha pins s σ H _ I h) fun u s1 ⟨x, H1, I1, r1, q1⟩ => wpAny_bind (wpAny_standAt (wpAny_pure ?_))))
  exact thn (hr pos pins s1 σ H1 _ I1 q1) fun us s2 ⟨xs, H2, I2, r2, q2⟩ => ⟨x :: xs, H2, I2, .cons r1 r2, q2⟩

variable {g : List Value → List Value → List Value} {gV : List V → List V → List V}

end

/-! ### a def's body keeps its promise -/
/-- names: the parameters first -/
structure FnScope (N P : List Str) (sc : Scope) : Prop where
  kind : sc.kind = .function
  co : sc.isCoroutine = false
  gen : sc.isGenerator = false
  nd : N.Nodup
  pre : N.take P.length = P
  par : ∀ x ∈ P, sc.names.lookup x = some .local ∨ sc.names.lookup x = some .cell
  nofree : ∀ y ∈ sc.names, y.2 ≠ .free

theorem bindL_out {kindOf : Str → Option NameKind} {x : Str} : ∀ {binds : List (Str × Value)} {m : Str → Option Value}, (∀ v, (x, v) ∉ binds) → bindL kindOf binds m x = m x
  | [], _, _ => rfl
  | (n, v) :: r, m, h => by
    unfold bindL
    rw [bindL_out fun w hw => h w (List.mem_cons_of_mem _ hw)]
    split
    · have : x ≠ n := by rintro rfl; exact h v List.mem_cons_self
      simp [this]
    · rfl
theorem bindC_out {kindOf : Str → Option NameKind} {x : Str} : ∀ {binds : List (Str × Value)} {m : Str → Option Value}, (∀ v, (x, v) ∉ binds) → bindC kindOf binds m x = m x
  | [], _, _ => rfl
  | (n, v) :: r, m, h => by
    unfold bindC
    rw [bindC_out fun w hw => h w (List.mem_cons_of_mem _ hw)]
    split
    · rfl
    · have : x ≠ n := by rintro rfl; exact h v List.mem_cons_self
      simp [this]
theorem bindL_get {kindOf : Str → Option NameKind} {x : Str} {v : Value} : ∀ {P : List Str} {vs : List Value} {i : Nat} {m : Str → Option Value}, P.Nodup → P[i]? = some x → vs[i]? = some v → kindOf x = some .local →
    bindL kindOf (P.zip vs) m x = some v
  | [], _, _, _, _, h, _, _ => by simp at h
  | _ :: _, [], _, _, _, _, h, _ => by simp at h
  | p :: P, w :: vs, 0, m, nd, h1, h2, hk => by
    simp at h1 h2; subst h1; subst h2
    show bindL kindOf ((p, w) :: P.zip vs) m p = _
    unfold bindL
    rw [bindL_out fun v hv => (List.nodup_cons.mp nd).1 (List.of_mem_zip hv).1, if_pos hk]
    simp
  | p :: P, w :: vs, i + 1, m, nd, h1, h2, hk => by
    show bindL kindOf ((p, w) :: P.zip vs) m x = _
    unfold bindL
    exact bindL_get (i := i) (List.nodup_cons.mp nd).2 (by simpa using h1) (by simpa using h2) hk
theorem bindC_get {kindOf : Str → Option NameKind} {x : Str} {v : Value} : ∀ {P : List Str} {vs : List Value} {i : Nat} {m : Str → Option Value}, P.Nodup → P[i]? = some x → vs[i]? = some v → kindOf x ≠ some .local →
    bindC kindOf (P.zip vs) m x = some v
  | [], _, _, _, _, h, _, _ => by simp at h
  | _ :: _, [], _, _, _, _, h, _ => by simp at h
  | p :: P, w :: vs, 0, m, nd, h1, h2, hk => by
    simp at h1 h2; subst h1; subst h2
    show bindC kindOf ((p, w) :: P.zip vs) m p = _
    unfold bindC
    rw [bindC_out fun v hv => (List.nodup_cons.mp nd).1 (List.of_mem_zip hv).1, if_neg hk]
    simp
  | p :: P, w :: vs, i + 1, m, nd, h1, h2, hk => by
    show bindC kindOf ((p, w) :: P.zip vs) m x = _
    unfold bindC
    exact bindC_get (i := i) (List.nodup_cons.mp nd).2 (by simpa using h1) (by simpa using h2) hk

/-- the names' values at the entry -/
def start (N : List Str) (vs : List V) : St := vs.map some ++ List.replicate (N.length - vs.length) none

/-- the context of a def's body, at its entry; an exception leaves the frame, then lies as CX says -/
def cxOf (CX : CXT) (P : Program) (w : World) (K : PySem.W.Frag) (mg : Str → Option Value) (base : Heap) (N : List Str) (qual : Str) (scope : Scope) (f : Addr) (cd : Value) (A : Around) (outer : List Env) (s : Shared) (H : Hp) (E : XK) : Cx where
  prog := P
  w := w
  K := K
  mg := mg
  base := base
  A := A.deeper (envOfC qual scope s.heap.objs.size f cd)
  N := N
  s_0 := s
  H_0 := H
  env := envOfC qual scope s.heap.objs.size f cd
  outer := outer
  stack := envOfC qual scope s.heap.objs.size f cd :: outer
  ex := []
  calm := true
  fn := fun _ => true
  pn := []
  xe := fun e s' => wpAny (model P w) (A.deeper (envOfC qual scope s.heap.objs.size f cd)) (leaving (envOfC qual scope s.heap.objs.size f cd) e) (fun _ s'' => CX outer H s E e s'') (fun e' s'' => CX outer H s E e' s'') s'

theorem cell_has {sc : Scope} {n : Nat} {x : Str} (h : sc.names.lookup x = some .cell) : ∃ c, (cellsFrom n sc.names []).lookup x = some c := by
  have q := PySem.W.cellsFrom_some sc.names n [] (.inl h)
  exact Option.isSome_iff_exists.mp q

theorem inv_start {CX : CXT} {P : Program} {w : World} {K : PySem.W.Frag} {mg : Str → Option Value} {base : Heap} {N ps : List Str} {qual : Str} {scope : Scope} {f : Addr} {cd : Value} {A : Around} {outer : List Env} {s s1 : Shared} {H : Hp} {E : XK} {us : List Value} {vs : List V}
    (S : FnScope N ps scope) (hd : A.handled = none) (e0 : Env0 P w K mg base A outer s H) (hl : vs.length = ps.length) (r : Vals vs us)
    (x : InCallC s s.heap.objs.size (bindL (envOfC qual scope s.heap.objs.size f cd).kindOf (ps.zip us) fun _ => none) (cellsFrom (s.heap.objs.size + 1) scope.names []) (bindC (envOfC qual scope s.heap.objs.size f cd).kindOf (ps.zip us) fun _ => none) s1) :
    Inv (cxOf CX P w K mg base N qual scope f cd A outer s H E) [] (start N vs) H s1 := by
  have hpl : ps.length ≤ N.length := by have := congrArg List.length S.pre; rw [List.length_take] at this; omega
  obtain ⟨h1, tk, rfl, hk⟩ := x.done
  have noA : ∀ b : Addr, b ∉ (cxOf CX P w K mg base N qual scope f cd A outer s H E).ex := fun b z => absurd (show b ∈ ([] : List Addr) from z) (by simp)
  refine ⟨⟨e0.mod, S.kind, rfl, rfl, Nat.le_refl _, fun y z c h1 h2 => ?_, fun y hy => ?_, fun y c _ h => ?_, fun _ => hd, Around.frames_deeper e0.frames, .inr ⟨rfl, rfl⟩, fun b z => absurd z (noA b), e0.bs, e0.bsz, fun b _ _ => noA b, fun b z => absurd z (noA b), e0.funs, e0.frf⟩,
    rfl, e0.bare, Un.kept hk, ⟨_, x.toInCall.ns, fun i y v h1 h2 h3 => ?_⟩, fun y c h => ⟨_, x.cell y c h⟩, e0.hok.fresh (Nat.le_refl _), fun y c h => ?_, fun p hp => absurd (show p ∈ ([] : List (Addr × Obj)) from hp) (by simp), e0.hok.kept hk, ?_⟩
  · exact name_of_addr x.apart (PySem.mem_of_lookup h1) (PySem.mem_of_lookup h2)
  · have hy : scope.names.lookup y = some .cell ∨ scope.names.lookup y = some .free := hy
    rcases hy with hy | hy
    · exact cell_has hy
    · exact absurd rfl (S.nofree _ (PySem.mem_of_lookup hy))
  · exact Nat.le_of_lt (x.above y c (PySem.mem_of_lookup h))
  · have hi : i < vs.length := by
      unfold start at h2
      by_cases hi : i < vs.length
      · exact hi
      · rw [List.getElem?_append_right (by simpa using hi)] at h2
        rw [List.getElem?_replicate] at h2
        split at h2 <;> cases h2
    have ha : vs[i]? = some v := by
      unfold start at h2
      rw [List.getElem?_append_left (by simpa using hi), List.getElem?_map] at h2
      cases e : vs[i]? with
      | none => rw [e] at h2; cases h2
      | some a => rw [e] at h2; cases h2; rfl
    obtain ⟨u, hu, rv⟩ := r.get ha
    have hp : ps[i]? = some y := by
      rw [← S.pre, List.getElem?_take_of_lt (by omega)]; exact h1
    have ndP : ps.Nodup := by rw [← S.pre]; exact S.nd.sublist (List.take_sublist _ _)
    refine ⟨u, rv, ?_⟩
    rcases S.par y (List.mem_of_getElem? hp) with k | k
    · exact .inl ⟨k, bindL_get ndP hp hu k⟩
    · obtain ⟨c, e⟩ := cell_has (n := s.heap.objs.size + 1) k
      refine .inr ⟨.inl k, c, e, ?_⟩
      have q := x.cell y c e
      rw [bindC_get ndP hp hu (by show scope.names.lookup y ≠ _; rw [k]; decide)] at q
      exact q
  · exact e0.hok.fresh (Nat.le_of_lt (x.above y c (PySem.mem_of_lookup h)))
  · unfold start
    show _ = N.length
    rw [List.length_append, List.length_map, List.length_replicate]
    omega

/-- THE RULE: a def (or a method) of the text, by its body. The body's reading t is chosen for each entry; it is run at the parameters' values -/
theorem fn_of {CX : CXT} {P : Program} {w : World} {K : PySem.W.Frag} {mg : Str → Option Value} {base : Heap} {k : Nat} {f : Addr} {name qual : Str} {params : Arguments} {body : List Stmt} {scope : Scope} {dV kV doc pm cdv ct oc : Value} {an od : Option Addr}
    {osl : Array (Option Value)} {N ps : List Str} {sp : Sp} (lk : K.lookup f = some ⟨oc, od, .func (PySem.W.fnOf name qual params body scope dV kV doc pm an cdv ct), osl⟩) (hcd : PySem.W.codeIn K cdv qual = true) (S : FnScope N ps scope)
    (len : ∀ vs H Q E, sp vs H Q E → vs.length = ps.length)
    (hbody : ∀ (A : Around) (outer : List Env) (s : Shared) (H : Hp) (vs : List V) (Q : VK) (E : XK), Room k (A.deeper (envOfC qual scope s.heap.objs.size f cdv)) → sp vs H Q E →
      ∃ t, PSs (cxOf CX P w K mg base N qual scope f cdv A outer s H E) body t ∧ t { nx := fun _ H' => Q .non H', rt := Q } (start N vs) H) :
    FnOk P w K mg base CX (k + 1) f (PySem.W.fnOf name qual params body scope dV kV doc pm an cdv ct) ps sp := by
  refine ⟨len, fun A outer s H args us vs Q E hr e0 hb r hsp => ?_⟩
  have hl := len _ _ _ _ hsp
  have KX : K.In s.heap := e0.mod.kin.keeps fun b o e => (e0.bs b o e).1
  have lim : s.heap.NoLimit := e0.mod.nolimit.keeps fun b o e => (e0.bs b o e).1
  have hkind : ∀ y ∈ ps.zip us, scope.names.lookup y.1 = some .local ∨ (scope.names.lookup y.1 = some .cell ∧ ((cellsFrom (s.heap.objs.size + 1) scope.names []).lookup y.1).isSome = true) := fun ⟨n, v⟩ hy => by
    rcases S.par n (List.of_mem_zip hy).1 with q | q
    · exact .inl q
    · exact .inr ⟨q, PySem.W.cellsFrom_some _ _ _ (.inl q)⟩
  refine codeAny_call_function hr.depth (KX _ _ lk) rfl S.co S.gen rfl (PySem.W.codeRec_of KX hcd) (hb _ _ _ _ ?_)
  refine wpAny_newFunctionEnv_cells S.kind hkind fun env he s1 x => ?_
  subst he
  refine ⟨lim.keeps x.toInCall.keep, codeAny_func ?_⟩
  obtain ⟨t, ht, hq⟩ := hbody A outer s H vs Q E (hr.deeper _) hsp
  have I : Inv (cxOf CX P w K mg base N qual scope f cdv A outer s H E) [] (start N vs) H s1 := inv_start S hr.hd e0 hl r x
  refine wpAny_mono (ht [] s1 (start N vs) H _ I hq) (fun fl s' hs => ?_) fun e s' hs => hs
  have fin : ∀ {σ' : St} {H' : Hp} {v : V} {u : Value}, Inv (cxOf CX P w K mg base N qual scope f cdv A outer s H E) [] σ' H' s' → RelV v u → Q v H' → CE outer P w H s Q u s' :=
    fun {σ' H' v u} J rv q => ⟨v, H', J.os, J.bare, J.base, J.hok, rv, q⟩
  cases fl with
  | ret u =>
    obtain ⟨v, σ', H', J, rv, q⟩ := hs
    exact fin J rv q
  | next =>
    obtain ⟨σ', H', J, q⟩ := hs
    exact fin (v := V.non) (u := Value.none) J rfl q
  | brk =>
    obtain ⟨_, _, _, q⟩ := hs
    exact False.elim q
  | cont =>
    obtain ⟨_, _, _, q⟩ := hs
    exact False.elim q
end L2

namespace L2
open PySem PySem.Spec PyProof.Rows
section
variable {X : Cx} {x : Str} {p pos : Pos} {e : Expr} {es : List Expr} {t : TA} {id T : String} {r : List V → Hp → VK → Prop}

def tCB (r : List V → Hp → VK → Prop) (t : TA) : TE := fun σ H Q => t σ H fun vs H1 => r vs H1 Q
/-- f(e, ..), f a built-in function -/
theorem pe_callB (hc : CallR X (.builtin id) r) (hg : Gl X x) (hm : X.mg x = none) (hv : bootBuiltins x = some (.builtin id)) (ha : PA X (e :: es) t) (hn : x ≠ "__name__" := by decide) (hdb : (x == ("__debug__" : Str)) = false := by decide)
    (he : starEach (e :: es) X.env = (false, eval e X.env) :: starEach es X.env := by rfl) (hpl : (backTo pos (starEach es X.env)).any (·.1) = false := by rfl) : PE X (.Call (.Name x p) (e :: es) [] pos) (tCB r t) := by
  intro pins s σ H Q I h
  refine wpAny_Call_Name_kw (ld_blt I hg hm hv ?_ hn hdb)
  exact PyProof.Rows.callWith_builtin1 (thn (ha pos pins s σ H _ I h) fun us s1 ⟨vs, H1, I1, r1, q1⟩ => hc pins s1 σ H1 vs us Q I1 r1 q1) he hpl
/-- T(e, ..), T a built-in type -/
theorem pe_callTy (hc : CallR X (.type T) r) (hg : Gl X x) (hm : X.mg x = none) (hv : bootBuiltins x = some (.type T)) (ha : PA X (e :: es) t) (hn : x ≠ "__name__" := by decide) (hdb : (x == ("__debug__" : Str)) = false := by decide)
    (he : starEach (e :: es) X.env = (false, eval e X.env) :: starEach es X.env := by rfl) (hpl : (backTo pos (starEach es X.env)).any (·.1) = false := by rfl) : PE X (.Call (.Name x p) (e :: es) [] pos) (tCB r t) := by
  intro pins s σ H Q I h
  refine wpAny_Call_Name_kw (ld_blt I hg hm hv ?_ hn hdb)
  exact PyProof.Rows.callWith_type1 (thn (ha pos pins s σ H _ I h) fun us s1 ⟨vs, H1, I1, r1, q1⟩ => hc pins s1 σ H1 vs us Q I1 r1 q1) he hpl

end
end L2

namespace HT
open PySem PyProof.Rows

section
open PySem.SeqAt
open PySem.AutoSeq1 (wpAny_loadPart')
open PySem.MeetsSeq PySem.MeetsSeq2 PySem.MeetsSeq3

end

section
variable {prog : Program} {w : World} {A : Around} {E : Value → Shared → Prop} {s : Shared}

/-- t + u, t not empty -/
theorem cat_tup {t b : Addr} {vs ws : List Value} {Q : Value → Shared → Prop} (ht : IsTup s.heap t vs.toArray) (hb : IsTup s.heap b ws.toArray) (hv : vs ≠ [])
    (h1 : ws = [] → Q (.ref t) s) (h2 : ws ≠ [] → Q (.ref s.heap.objs.size) { s with heap := s.heap.push { cls := .type "tuple", data := .seq (vs ++ ws).toArray } })
    (hsz : vs.length + ws.length ≤ sizeLine) : wpAny (model prog w) A (binaryOp .Add (.ref t) (.ref b)) Q E s := by
  obtain ⟨⟨cls, dd, data, sl⟩, ho, hc, n, hd⟩ := id ht
  obtain ⟨⟨cls2, dd2, data2, sl2⟩, ho2, hc2, n2, hd2⟩ := id hb
  simp only at hc hd hc2 hd2
  subst hc hd hc2 hd2
  have e : vs.toArray ++ ws.toArray = (vs ++ ws).toArray := by simp
  by_cases hw : ws = []
  · exact concat_meets ⟨_, ho, rfl⟩ ⟨_, ho2, rfl⟩ noFill_tuple_add seq_tuple_add PySem.F.slot_tuple_add PySem.F.entry_tuple_add (PySem.F.args_tuple_add_2 _ _)
      (tuple_addW1 t b vs.toArray ws.toArray n n2 dd dd2 sl sl2 (by simpa using hv) (by simp [hw])) ⟨ho, ho2, h1 hw⟩
  · refine concat_meets ⟨_, ho, rfl⟩ ⟨_, ho2, rfl⟩ noFill_tuple_add seq_tuple_add PySem.F.slot_tuple_add PySem.F.entry_tuple_add (PySem.F.args_tuple_add_2 _ _)
      (tuple_addW2 t b vs.toArray ws.toArray n n2 dd dd2 sl sl2 (by simpa using hv) (by simpa using hw) (by rw [List.size_toArray, List.size_toArray]; exact hsz)) ⟨ho, ho2, ?_⟩
    rw [e]
    exact h2 hw

/-! ### t[a:b], not the whole -/
/-- a slice's bound as a place among n (d where it is left out) -/
def sIx (n d : Nat) : Option Int → Nat
  | none => d
  | some v => if v < 0 then (v + (n : Int)).toNat else min v.toNat n
theorem sIx_none (n d : Nat) : sIx n d none = d := rfl
theorem sIx_nat (n d k : Nat) : sIx n d (some (k : Int)) = min k n := by
  show (if (k : Int) < 0 then ((k : Int) + (n : Int)).toNat else min (k : Int).toNat n) = min k n
  rw [if_neg (by omega), Int.toNat_natCast]
theorem sIx_le (n d : Nat) (hd : d ≤ n) (o : Option Int) : sIx n d o ≤ n := by
  cases o with
  | none => exact hd
  | some v =>
    show (if v < 0 then (v + (n : Int)).toNat else min v.toNat n) ≤ n
    by_cases hv : v < 0
    · rw [if_pos hv]; omega
    · rw [if_neg hv]; exact Nat.min_le_right _ _
theorem clip_eq (v : Int) (n d : Nat) : (if v < 0 then max (v + (n : Int)) 0 else min v (n : Int)) = ((sIx n d (some v) : Nat) : Int) := by
  show (if v < 0 then max (v + (n : Int)) 0 else min v (n : Int)) = (((if v < 0 then (v + (n : Int)).toNat else min v.toNat n) : Nat) : Int)
  by_cases hv : v < 0
  · simp only [if_pos hv]; omega
  · simp only [if_neg hv]; omega
theorem adjust_gen (lo hi : Option Int) (n : Nat) : Builtin.Slice.sliceAdjust lo hi 1 (n : Int) = (((sIx n 0 lo : Nat) : Int), ((sIx n n hi : Nat) : Int)) := by
  have h1 : ¬ ((1 : Int) < 0) := by omega
  unfold Builtin.Slice.sliceAdjust
  simp only [h1, if_false]
  refine Prod.ext ?_ ?_
  · cases lo with
    | none => rfl
    | some v => exact clip_eq v n 0
  · cases hi with
    | none => rfl
    | some v => exact clip_eq v n n
theorem places_gen (i j : Nat) : Builtin.Slice.slicePlaces (i : Int) (j : Int) 1 = j - i := by
  unfold Builtin.Slice.slicePlaces
  have h1 : (1 : Int) > 0 := by omega
  simp only [h1, if_true, Int.ediv_one]
  split <;> omega
theorem slicePart_ {v : Value} {o : Option Int} {Q : Option Int → Shared → Prop} (p : IsPart v o) (h : Q o s) : wpAny (model prog w) A (Builtin.Slice.slicePartIndex v) Q E s := by
  cases p with
  | none => exact slicePart_none h
  | int i t => exact slicePart_int h
theorem sliceApplied_gen {sl : Addr} {vl vu : Value} {lo hi : Option Int} {n : Nat} {Q : Int × Int × Nat → Shared → Prop} (hs : s.heap.IsSliceOf sl vl vu .none) (pl : IsPart vl lo) (pu : IsPart vu hi)
    (h : Q (((sIx n 0 lo : Nat) : Int), 1, sIx n n hi - sIx n 0 lo) s) : wpAny (model prog w) A (Builtin.Slice.sliceApplied (.ref sl) (pure (n : Int))) Q E s := by
  obtain ⟨os, hos, hcs, hds⟩ := id hs
  unfold Builtin.Slice.sliceApplied Builtin.Slice.sliceFields
  refine wpAny_bind (wpAny_bind (wpAny_field hos hds (x := vl) rfl (wpAny_bind (wpAny_field hos hds (x := vu) rfl (wpAny_bind (wpAny_field hos hds (x := .none) rfl (wpAny_pure ?_)))))))
  refine wpAny_bind (slicePart_none ?_)
  show wpAny _ _ (if ((1 : Int) == 0) = true then _ else _) _ _ s
  rw [if_neg (by decide)]
  refine wpAny_bind (slicePart_ pl (wpAny_bind (slicePart_ pu (wpAny_bind (wpAny_pure ?_)))))
  show wpAny _ _ (match Builtin.Slice.sliceAdjust lo hi 1 (n : Int) with | (lo, hi) => pure (lo, (1 : Int), Builtin.Slice.slicePlaces lo hi 1)) _ _ s
  rw [adjust_gen lo hi n]
  show wpAny _ _ (pure (((sIx n 0 lo : Nat) : Int), (1 : Int), Builtin.Slice.slicePlaces ((sIx n 0 lo : Nat) : Int) ((sIx n n hi : Nat) : Int) 1)) _ _ s
  rw [places_gen]
  exact wpAny_pure h
theorem pick_gen (xs : Array Value) (i k : Nat) : ((List.range k).filterMap fun (m : Nat) => xs[((i : Int) + (m : Int) * 1).toNat]?).toArray = ((xs.toList.drop i).take k).toArray := by
  have e : (fun (m : Nat) => xs[((i : Int) + (m : Int) * 1).toNat]?) = fun m => xs[i + m]? := by
    funext m
    have : ((i : Int) + (m : Int) * 1).toNat = i + m := by omega
    rw [this]
  rw [e]
  have := pick_run xs i k
  rw [List.filterMap_map] at this
  have e2 : ((fun x => xs[x]?) ∘ fun x => i + x) = fun m => xs[i + m]? := rfl
  rw [e2] at this
  rw [this]

theorem getItem_tuple_cut {t sl : Addr} {items : Array Value} {vl vu : Value} {lo hi : Option Int} {Q : Value → Shared → Prop} (ht : IsTup s.heap t items) (hs : s.heap.IsSliceOf sl vl vu .none) (pl : IsPart vl lo) (pu : IsPart vu hi)
    (hw : ¬ (sIx items.size 0 lo = 0 ∧ sIx items.size items.size hi = items.size))
    (h : Q (.ref s.heap.objs.size) { s with heap := s.heap.push { cls := .type "tuple", data := .seq ((items.toList.drop (sIx items.size 0 lo)).take (sIx items.size items.size hi - sIx items.size 0 lo)).toArray } })
    (hsz : items.size ≤ sizeLine) : wpAny (model prog w) A (getItem (.ref t) (.ref sl)) Q E s := by
  have htake : sizeOk (.seq ((items.toList.drop (sIx items.size 0 lo)).take (sIx items.size items.size hi - sIx items.size 0 lo)).toArray) := by
    show ((items.toList.drop (sIx items.size 0 lo)).take (sIx items.size items.size hi - sIx items.size 0 lo)).toArray.size ≤ sizeLine
    rw [List.size_toArray, List.length_take, List.length_drop, Array.length_toList]
    omega
  have hj : sIx items.size items.size hi ≤ items.size := sIx_le _ _ (Nat.le_refl _) hi
  obtain ⟨os, hos, hcs, hds⟩ := id hs
  have hTs : s.TypeIs (.ref sl) "slice" := ⟨os, hos, hcs⟩
  unfold getItem
  try with_reducible refine wpAny_holding ?_
  first | refine wpAny_bind (wpAny_pure ?_) | skip
  refine wpAny_bind (wpAny_sequenceKey ht.typeIs (by decide) ?_)
  refine wpAny_bind (wpAny_callSpecial?_slot (name := Str.ofString "__getitem__") ht.typeIs PyProof.Rows.slot_tuple_getitem
    (wpAny_call_entry PyProof.Rows.slot_tuple_getitem ht.typeIs entry_tuple_getitem ?_ (args_tuple_getitem _ _)))
  show wpAny _ _ (Builtin.Tuple.tupleItemsOf (.ref t) >>= _) _ _ s
  refine wpAny_bind (tupleItemsOf_ ht ?_)
  refine wpAny_bind (wpAny_typeOf hTs ?_)
  rw [if_pos (by decide)]
  refine wpAny_bind (sliceApplied_gen hs pl pu ?_)
  have hno : ¬ ((((sIx items.size 0 lo : Nat) : Int) == 0 && (1 : Int) == 1 && (sIx items.size items.size hi - sIx items.size 0 lo) == items.size) = true) := by
    intro q
    rw [Bool.and_eq_true, Bool.and_eq_true] at q
    have q1 : ((sIx items.size 0 lo : Nat) : Int) = 0 := eq_of_beq q.1.1
    have q2 : sIx items.size items.size hi - sIx items.size 0 lo = items.size := eq_of_beq q.2
    exact hw ⟨by omega, by omega⟩
  show wpAny _ _ (if (((sIx items.size 0 lo : Nat) : Int) == 0 && (1 : Int) == 1 && (sIx items.size items.size hi - sIx items.size 0 lo) == items.size) = true then _ else _) _ _ s
  rw [if_neg hno, pick_gen]
  first
    | exact wpAny_bind (m := Builtin.Tuple.tupleExact _) (wpAny_newObj_type (wpAny_pure ⟨_, rfl, wpAny_pure h⟩) htake)
    | exact wpAny_bind (m := Builtin.Tuple.tupleExact _) (wpAny_newObj_type (wpAny_bind (wpAny_pure (wpAny_pure ⟨_, rfl, wpAny_pure h⟩))) htake)
    | exact wpAny_bind (wpAny_bind (m := Builtin.Tuple.tupleExact _) (wpAny_newObj_type (wpAny_pure (wpAny_pure ⟨_, rfl, wpAny_pure h⟩)) htake))
    | exact wpAny_bind (wpAny_bind (m := Builtin.Tuple.tupleExact _) (wpAny_newObj_type (wpAny_pure ⟨_, rfl, wpAny_pure h⟩) htake))
end
end HT

namespace L2
open PySem PySem.Spec PyProof.Rows

/-! ### the parts of a slice -/
abbrev TO := St → Hp → (Option Int → Hp → Prop) → Prop
/-- a slice's part (left out, or an int) -/
def PO (X : Cx) (e : Option Expr) (t : TO) : Prop :=
  ∀ (pins : List (Addr × Obj)) (s : Shared) (σ : St) (H : Hp) (Q : Option Int → Hp → Prop), Inv X pins σ H s → t σ H Q →
    wpAny (model X.prog X.w) X.A (evalPart e X.env) (fun u s' => ∃ o H', Inv X pins σ H' s' ∧ IsPart u o ∧ Q o H') X.xe s
def tNoPart : TO := fun _ H Q => Q none H
def tPart (t : TE) : TO := fun σ H Q => t σ H fun x H1 => ∃ i, x = .int i ∧ Q (some i) H1

section
variable {X : Cx} {e : Expr} {te : TE} {lo hi : Option Expr} {tl th : TO} {pos p2 : Pos}

theorem po_none : PO X none tNoPart := by
  intro pins s σ H Q I h
  rw [evalPart_none]
  exact wpAny_pure ⟨none, H, I, .none, h⟩
theorem po_some (h : PE X e te) : PO X (some e) (tPart te) := by
  intro pins s σ H Q I hw
  rw [evalPart_some]
  refine thn (h pins s σ H _ I hw) fun u s1 ⟨x, H1, I1, r1, q1⟩ => ?_
  obtain ⟨i, rfl, q⟩ := q1
  obtain ⟨t, rfl⟩ := r1
  exact ⟨some i, H1, I1, .int i t, q⟩

/-- what a slice of a value is, by values: the slice object stands at sl -/
def SlR (X : Cx) (r : V → Option Int → Option Int → Hp → VK → Prop) : Prop :=
  ∀ (pins : List (Addr × Obj)) (s : Shared) (σ : St) (H : Hp) (x : V) (v vl vu : Value) (lo hi : Option Int) (sl : Addr) (Q : VK), Inv X pins σ H s → RelV x v → s.heap.IsSliceOf sl vl vu .none → IsPart vl lo → IsPart vu hi → r x lo hi H Q →
    ∃ T id, typeLookup (.type T) "__getitem__" = pure (some (.builtin id)) ∧ s.TypeIs v T ∧ wpAny (model X.prog X.w) X.A (getItem v (.ref sl)) (EP X pins σ Q) X.xe s

def tSl (r : V → Option Int → Option Int → Hp → VK → Prop) (te : TE) (tl th : TO) : TE := fun σ H Q => te σ H fun x H1 => tl σ H1 fun l H2 => th σ H2 fun u H3 => r x l u H3 Q
/-- a[lo:hi], any a -/
theorem pe_slice {r : V → Option Int → Option Int → Hp → VK → Prop} (hr : SlR X r) (he : PE X e te) (hl : PO X lo tl) (hu : PO X hi th) : PE X (.Subscript e (.Slice lo hi none p2) pos) (tSl r te tl th) := by
  intro pins s σ H Q I h
  refine Subscript_ (thn (he pins s σ H _ I h) fun v s1 ⟨x, H1, I1, r1, q1⟩ => ?_)
  refine wpAny_Slice (thn (hl pins s1 σ H1 _ I1 q1) fun vl s2 ⟨l, H2, I2, pl, q2⟩ => thn (hu pins s2 σ H2 _ I2 q2) fun vu s3 ⟨u, H3, I3, pu, q3⟩ => ?_)
  rw [evalPart_none]
  refine wpAny_pure ?_
  have I4 : Inv X pins σ H3 { s3 with heap := s3.heap.push { cls := .type "slice", data := .fields #[vl, vu, .none] } } := I3.kept (t' := s3.toks) fun b ob q => Heap.get?_push_of_some _ q
  obtain ⟨T, id, hT, ht, hg⟩ := hr pins { s3 with heap := s3.heap.push { cls := .type "slice", data := .fields #[vl, vu, .none] } } σ H3 x v vl vu l u s3.heap.objs.size Q I4 r1 (Heap.IsSliceOf.new ..) pl pu q3
  show wpAny (model X.prog X.w) X.A (subscriptTail e (.Slice lo hi none p2) v (.ref s3.heap.objs.size)) (EP X pins σ Q) X.xe { s3 with heap := s3.heap.push { cls := .type "slice", data := .fields #[vl, vu, .none] } }
  exact tail_any (ops := [.ref s3.heap.objs.size, v]) ht hT hg (by with_unfolding_all rfl)

/-- the items of xs[lo:hi] -/
def cutV (xs : List V) (lo hi : Option Int) : List V := (xs.drop (HT.sIx xs.length 0 lo)).take (HT.sIx xs.length xs.length hi - HT.sIx xs.length 0 lo)
theorem cutV_length (xs : List V) (lo hi : Option Int) : (cutV xs lo hi).length ≤ xs.length := by
  unfold cutV
  rw [List.length_take, List.length_drop]
  omega
/-- t[lo:hi], not the whole of it (the whole would be t itself) -/
def rSlT (K : PySem.W.Frag) : V → Option Int → Option Int → Hp → VK → Prop := fun x lo hi H Q => ∃ a xs, x = .ref a ∧ SqT K H a xs ∧
  ¬ (HT.sIx xs.length 0 lo = 0 ∧ HT.sIx xs.length xs.length hi = xs.length) ∧ ∀ p, H p = none → Q (.ref p) (upd H p (.tup (cutV xs lo hi)))
theorem sl_tup : SlR X (rSlT X.K) := by
  intro pins s σ H x v vl vu lo hi sl Q I rx hs pl pu h
  obtain ⟨a, xs, rfl, hx, hw, q⟩ := h
  cases rx
  obtain ⟨its, r, ht, hz⟩ := I.tuple hx
  have hlen : its.toArray.size = xs.length := by rw [List.size_toArray]; exact r.length.symm
  refine ⟨"tuple", _, PyProof.Rows.slot_tuple_getitem.lookup, ht.typeIs, ?_⟩
  refine HT.getItem_tuple_cut ht hs pl pu (by rw [hlen]; exact hw) ?_ (by rw [hlen]; exact hz)
  rw [hlen]
  refine ⟨.ref s.heap.objs.size, _, I.laid (t' := s.toks) (o := .tup (cutV xs lo hi)) (fun b ob q => Heap.get?_push_of_some _ q) (Nat.le_refl _) ?_, rfl, q _ (I.hok.fresh (Nat.le_refl _))⟩
  exact ⟨Nat.le_trans (cutV_length xs lo hi) hz, _, (r.drop (HT.sIx xs.length 0 lo)).take (HT.sIx xs.length xs.length hi - HT.sIx xs.length 0 lo), IsTup.new _ _⟩

/-! ### t < u, t + u -/

end
end L2

namespace L2
open PySem PySem.Spec PyProof.Rows

/-! ### places -/
/-- the place that an index of any sign means -/
def ixN (n : Nat) (i : Int) : Option Nat := if 0 ≤ i then (if i < n then some i.toNat else none) else if -(n : Int) ≤ i then some (i + n).toNat else none
def atI {α : Type} (xs : List α) (i : Int) : Option α := (ixN xs.length i).bind fun j => xs[j]?
theorem ixN_seq {n : Nat} {i : Int} {j : Nat} (h : ixN n i = some j) : seqIndex? i n = some j ∧ j < n ∧ -(n : Int) ≤ i ∧ i < n := by
  unfold ixN at h
  by_cases h0 : 0 ≤ i
  · rw [if_pos h0] at h
    by_cases h1 : i < n
    · rw [if_pos h1] at h
      have e : i.toNat = j := Option.some.inj h
      exact ⟨by rw [seqIndex_of h0 h1, e], by omega, by omega, h1⟩
    · rw [if_neg h1] at h; cases h
  · rw [if_neg h0] at h
    by_cases h1 : -(n : Int) ≤ i
    · rw [if_pos h1] at h
      have e : (i + n).toNat = j := Option.some.inj h
      exact ⟨by rw [seqIndex_neg (by omega) h1, e], by omega, h1, by omega⟩
    · rw [if_neg h1] at h; cases h
theorem atI_get {α : Type} {xs : List α} {i : Int} {v : α} (h : atI xs i = some v) : ∃ j, seqIndex? i xs.length = some j ∧ xs[j]? = some v ∧ j < xs.length ∧ -(xs.length : Int) ≤ i ∧ i < xs.length := by
  unfold atI at h
  cases e : ixN xs.length i with
  | none => rw [e] at h; cases h
  | some j =>
    rw [e] at h
    obtain ⟨h1, h2, h3, h4⟩ := ixN_seq e
    exact ⟨j, h1, h, h2, h3, h4⟩
theorem atI_nat {α : Type} {xs : List α} {j : Nat} {v : α} (h : xs[j]? = some v) : atI xs (j : Int) = some v := by
  have hj : j < xs.length := (List.getElem?_eq_some_iff.mp h).1
  have e : ixN xs.length (j : Int) = some j := by
    unfold ixN
    rw [if_pos (by omega), if_pos (by omega)]; simp
  unfold atI; rw [e]; exact h
theorem atI_last {α : Type} (xs : List α) (v : α) : atI (xs ++ [v]) (-1) = some v := by
  have hl : (xs ++ [v]).length = xs.length + 1 := by simp
  have e : ixN (xs ++ [v]).length (-1) = some xs.length := by
    unfold ixN
    rw [hl, if_neg (by decide), if_pos (by omega)]
    congr 1
    omega
  unfold atI
  rw [e]
  show (xs ++ [v])[xs.length]? = some v
  simp

/-! ### what may be subscripted -/
/-- what stands as an index of a plain subscript -/
def PlainIx (b : Expr) : Prop := ∀ o i, subscripted b false o i = operate [o, i] (getItem o i)
/-- a subscript by values -/
def IxR (X : Cx) (r : R2) : Prop :=
  ∀ (value slice : Expr) (pins : List (Addr × Obj)) (s : Shared) (σ : St) (H : Hp) (x y : V) (v u : Value) (Q : VK), Inv X pins σ H s → RelV x v → RelV y u → r x y H Q →
    subscripted slice false v u = operate [v, u] (getItem v u) → wpAny (model X.prog X.w) X.A (subscriptTail value slice v u) (EP X pins σ Q) X.xe s
/-- a call of a builtin's method by values: the receiver, the arguments -/
def MtR (X : Cx) (id : String) (r : V → List V → Hp → VK → Prop) : Prop :=
  ∀ (pins : List (Addr × Obj)) (s : Shared) (σ : St) (H : Hp) (x : V) (xs : List V) (v : Value) (us : List Value) (Q : VK), Inv X pins σ H s → RelV x v → Vals xs us → r x xs H Q →
    wpAny (model X.prog X.w) X.A (call (.builtin id) (v :: us)) (EP X pins σ Q) X.xe s
section
variable {X : Cx} {a b : Expr} {ta tb : TE} {pos : Pos}

/-- a[b] -/
theorem pe_ix {r : R2} (hr : IxR X r) (ha : PE X a ta) (hb : PE X b tb) (hs : PlainIx b) : PE X (.Subscript a b pos) (tOp r ta tb) := by
  intro pins s σ H Q I h
  exact Subscript_ (binT ha hb I h fun v u s2 x y H2 I2 rx ry q => hr a b pins s2 σ H2 x y v u Q I2 rx ry q (hs _ _))

def rIxL (K : PySem.W.Frag) : R2 := fun x y H Q => ∃ p xs i v, x = .ref p ∧ y = .int i ∧ SqL K H p xs ∧ atI xs i = some v ∧ Q v H
def rIxT (K : PySem.W.Frag) : R2 := fun x y H Q => ∃ p xs i v, x = .ref p ∧ y = .int i ∧ SqT K H p xs ∧ atI xs i = some v ∧ Q v H

theorem ix_list : IxR X (rIxL X.K) := by
  intro value slice pins s σ H x y v u Q I rx ry h hs
  obtain ⟨p, xs, i, z, rfl, rfl, hq, he, q⟩ := h
  cases rx
  obtain ⟨t, rfl⟩ := ry
  obtain ⟨its, r, pl, hz⟩ := I.list hq
  obtain ⟨j, h1, h2, h3, h4, h5⟩ := atI_get he
  obtain ⟨w, ew, rw'⟩ := r.get h2
  have hl := r.length
  have hn := line63
  have fin : EP X pins σ Q w s := ⟨z, H, I, rw', q⟩
  by_cases h0 : 0 ≤ i
  · have hj : i.toNat = j := by
      rw [seqIndex_of h0 h5] at h1
      exact Option.some.inj h1
    exact item_listR pl.isList h0 (by omega) (by rw [hj]; simpa using ew) fin hs
  · have hj : (i + (its.toArray.size : Int)).toNat = j := by
      rw [seqIndex_neg (by omega) h4] at h1
      rw [List.size_toArray, ← hl]
      exact Option.some.inj h1
    exact subscriptTail_builtinR (x := w) pl.isList.typeIs slot_list_getitem.lookup
      (wpAny_getItem_list_neg (Q := fun r s' => r = w ∧ EP X pins σ Q r s') pl.isList (by omega) (by rw [List.size_toArray] <;> omega) (by omega) (by rw [hj]; simpa using ew) ⟨rfl, fin⟩) hs
theorem ix_tup : IxR X (rIxT X.K) := by
  intro value slice pins s σ H x y v u Q I rx ry h hs
  obtain ⟨p, xs, i, z, rfl, rfl, hq, he, q⟩ := h
  cases rx
  obtain ⟨t, rfl⟩ := ry
  obtain ⟨its, r, pl, hz⟩ := I.tuple hq
  obtain ⟨j, h1, h2, h3, h4, h5⟩ := atI_get he
  obtain ⟨w, ew, rw'⟩ := r.get h2
  have hl := r.length
  have hn := line63
  have fin : EP X pins σ Q w s := ⟨z, H, I, rw', q⟩
  exact subscriptTail_builtinR (x := w) pl.typeIs slot_tuple_getitem.lookup
    (getItem_tuple (j := j) (Q := fun r s' => r = w ∧ EP X pins σ Q r s') pl (by omega) (by omega) (by rw [List.size_toArray, ← hl]; exact h1) (by simpa using ew) ⟨rfl, fin⟩) hs

/-! ### xs[i] = v, any sign -/
/-- the list's object behind a store -/
theorem mapSeq_set (its : List Value) (n j : Nat) (u : Value) : Obj.mapSeq (·.setIfInBounds j u) { cls := .type "list", data := .seq its.toArray n } = { cls := .type "list", data := .seq (its.set j u).toArray n } := by
  simp [Obj.mapSeq]
theorem Inv.lst {pins : List (Addr × Obj)} {σ : St} {H : Hp} {s : Shared} {p : Addr} {xs : List V} (I : Inv X pins σ H s) (h : H p = some (.lst xs)) :
    ∃ (its : List Value) (n : Nat), Vals xs its ∧ s.heap.get? p = some { cls := .type "list", data := .seq its.toArray n } ∧ xs.length ≤ sizeLine := by
  obtain ⟨z, its, n, r, e⟩ := I.hok p _ h
  exact ⟨its, n, r, e, z⟩
/-- the list at p is written by an update of its object -/
theorem Inv.lstUpd {pins : List (Addr × Obj)} {σ : St} {H : Hp} {s : Shared} {p : Addr} {xs ys : List V} {its its' : List Value} {n n' : Nat} {f : Obj → Obj} (I : Inv X pins σ H s) (h : H p = some (.lst xs))
    (ho : s.heap.get? p = some { cls := .type "list", data := .seq its.toArray n }) (hf : f { cls := .type "list", data := .seq its.toArray n } = { cls := .type "list", data := .seq its'.toArray n' }) (r : Vals ys its') (hz : ys.length ≤ sizeLine) (t : Nat) :
    Inv X pins σ (upd H p (.lst ys)) { s with heap := s.heap.update p f, toks := t } := by
  have e : (s.heap.update p f).get? p = some { cls := .type "list", data := .seq its'.toArray n' } := by
    rw [Heap.get?_update_self f ho (by rw [hf] <;> rfl), hf]
  refine I.write (x := p) (e := p) (by rw [h]; trivial) (.inl rfl) (fun b u hb q => (Heap.get?_update_other _ _ (Ne.symm hb)).trans q) ⟨_, e⟩ ?_
  exact ⟨hz, its', n', r, e⟩
def rSetL : V → V → V → Hp → (Hp → Prop) → Prop := fun o i v H Q => ∃ p xs k j, o = .ref p ∧ i = .int k ∧ H p = some (.lst xs) ∧ ixN xs.length k = some j ∧ Q (upd H p (.lst (xs.set j v)))
theorem set_list : PSet X rSetL := by
  intro pins s σ H o i v ov iv u Q I ro ri rv h
  obtain ⟨p, xs, k, j, rfl, rfl, hp, hj, q⟩ := h
  cases ro
  obtain ⟨t, rfl⟩ := ri
  obtain ⟨its, n, r, ho, hz⟩ := I.lst hp
  obtain ⟨h1, h2, h3, h4⟩ := ixN_seq hj
  have hl := r.length
  have hn := line63
  have I' : Inv X pins σ (upd H p (.lst (xs.set j v))) { s with heap := s.heap.update p (Obj.mapSeq (·.setIfInBounds j u)) } :=
    I.lstUpd hp ho (mapSeq_set its n j u) (r.set rv j) (by rw [List.length_set]; exact hz) s.toks
  by_cases h0 : 0 ≤ k
  · have hk : k.toNat = j := by
      rw [seqIndex_of h0 h4] at h1
      exact Option.some.inj h1
    exact PySem.W.ki_setAt ho h0 (by omega) (by rw [List.size_toArray, ← hl]; exact h4) (by rw [hk]; exact ⟨_, I', q⟩)
  · have hk : (k + (its.toArray.size : Int)).toNat = j := by
      rw [seqIndex_neg (by omega) h3] at h1
      rw [List.size_toArray, ← hl]
      exact Option.some.inj h1
    exact PySem.W.ki_setBack ho (by omega) (by rw [List.size_toArray, ← hl]; exact h3) (by omega) (by rw [hk]; exact ⟨_, I', q⟩)

/-! ### slices -/
theorem slice_bounds (lo hi : Option Int) (n : Nat) : (sliceBounds lo hi none n).1 = ((HT.sIx n 0 lo : Nat) : Int) ∧ (sliceBounds lo hi none n).2.1 = ((HT.sIx n n hi : Nat) : Int) ∧ (sliceBounds lo hi none n).2.2 = 1 := by
  refine ⟨?_, ?_, rfl⟩
  · cases lo with
    | none => simp [sliceBounds, HT.sIx]
    | some i =>
      simp only [sliceBounds, HT.sIx, Option.getD_none, show (1 : Int) > 0 by decide, if_true]
      by_cases h : i < 0
      · simp only [h, if_true] <;> omega
      · simp only [h, if_false] <;> omega
  · cases hi with
    | none => simp [sliceBounds, HT.sIx]
    | some i =>
      simp only [sliceBounds, HT.sIx, Option.getD_none, show (1 : Int) > 0 by decide, if_true]
      by_cases h : i < 0
      · simp only [h, if_true] <;> omega
      · simp only [h, if_false] <;> omega
theorem slicePick_cut (its : List Value) (lo hi : Option Int) : slicePick its.toArray lo hi none = ((its.drop (HT.sIx its.length 0 lo)).take (HT.sIx its.length its.length hi - HT.sIx its.length 0 lo)).toArray := by
  obtain ⟨h1, h2, h3⟩ := slice_bounds lo hi its.toArray.size
  unfold slicePick
  rw [h1, h2, h3]
  simp only [sliceRange_one, pick_run, List.size_toArray] <;> rfl
/-- xs[lo:hi] of a list: a new list -/
def rSlL (K : PySem.W.Frag) : V → Option Int → Option Int → Hp → VK → Prop := fun x lo hi H Q => ∃ a xs, x = .ref a ∧ SqL K H a xs ∧ ∀ p, H p = none → Q (.ref p) (upd H p (.lst (cutV xs lo hi)))
theorem sl_list : SlR X (rSlL X.K) := by
  intro pins s σ H x v vl vu lo hi sl Q I rx hs pl pu h
  obtain ⟨a, xs, rfl, hx, q⟩ := h
  cases rx
  obtain ⟨its, r, ht, hz⟩ := I.list hx
  have hlen := r.length
  refine ⟨"list", _, slot_list_getitem.lookup, ht.isList.typeIs, ?_⟩
  refine wpAny_getItem_list_slice ht.isList hs pl pu .none (by simp) ?_ (by rw [List.size_toArray] <;> omega)
  rw [slicePick_cut, ← hlen]
  refine ⟨.ref s.heap.objs.size, _, I.laid (t' := s.toks) (o := .lst (cutV xs lo hi)) (fun b ob q => Heap.get?_push_of_some _ q) (Nat.le_refl _) ?_, rfl, q _ (I.hok.fresh (Nat.le_refl _))⟩
  exact ⟨Nat.le_trans (cutV_length xs lo hi) hz, _, 0, (r.drop (HT.sIx xs.length 0 lo)).take (HT.sIx xs.length xs.length hi - HT.sIx xs.length 0 lo), Heap.get?_push_size _ rfl⟩

/-! ### in, not in: flat items -/
def flatV : V → Bool
  | .non => true
  | .bl _ => true
  | .int _ => true
  | .str _ => true
  | _ => false
/-- == of flat values -/
def eqV : V → V → Bool
  | .non, .non => true
  | .bl a, .bl b => a == b
  | .bl a, .int b => (if a then 1 else 0) == b
  | .int a, .bl b => a == (if b then 1 else 0)
  | .int a, .int b => a == b
  | .str a, .str b => a == b
  | _, _ => false
theorem eqAt_V {A : Around} {s : Shared} {y x : V} {u v : Value} (ry : RelV y u) (rx : RelV x v) (fy : flatV y = true) (fx : flatV x = true) : SeqAt.EqAt A s u v (eqV y x) := by
  cases y with
  | non =>
    cases ry
    cases x with
    | non => cases rx; exact SeqAt.EqAt.same _
    | bl b => cases rx; exact SeqAt.EqAt.none_bool b
    | int b => obtain ⟨t, rfl⟩ := rx; exact SeqAt.EqAt.none_int b t
    | str b => obtain ⟨t, rfl⟩ := rx; exact SeqAt.EqAt.none_str b t
    | _ => exact absurd (show false = true from fx) Bool.false_ne_true
  | bl a =>
    cases ry
    cases x with
    | non => cases rx; exact SeqAt.EqAt.bool_none a
    | bl b => cases rx; exact SeqAt.EqAt.bool_bool a b
    | int b => obtain ⟨t, rfl⟩ := rx; exact SeqAt.EqAt.bool_int a b t
    | str b => obtain ⟨t, rfl⟩ := rx; exact SeqAt.EqAt.bool_str a b t
    | _ => exact absurd (show false = true from fx) Bool.false_ne_true
  | int a =>
    obtain ⟨t', rfl⟩ := ry
    cases x with
    | non => cases rx; exact SeqAt.EqAt.int_none a t'
    | bl b => cases rx; exact SeqAt.EqAt.int_bool a t' b
    | int b => obtain ⟨t, rfl⟩ := rx; exact SeqAt.EqAt.int_int a t' b t
    | str b => obtain ⟨t, rfl⟩ := rx; exact SeqAt.EqAt.int_str a t' b t
    | _ => exact absurd (show false = true from fx) Bool.false_ne_true
  | str a =>
    obtain ⟨t', rfl⟩ := ry
    cases x with
    | non => cases rx; exact SeqAt.EqAt.str_none a t'
    | bl b => cases rx; exact SeqAt.EqAt.str_bool a t' b
    | int b => obtain ⟨t, rfl⟩ := rx; exact SeqAt.EqAt.str_int a t' b t
    | str b => obtain ⟨t, rfl⟩ := rx; exact SeqAt.EqAt.str_str a t' b t
    | _ => exact absurd (show false = true from fx) Bool.false_ne_true
  | _ => exact absurd (show false = true from fy) Bool.false_ne_true
/-- the items' answers, read off the values (a value's own answer does not lean on its token) -/
def eqU (x : V) (u : Value) : Bool := match u with
  | .none => eqV .non x
  | .bool b => eqV (.bl b) x
  | .int i _ => eqV (.int i) x
  | .str z _ => eqV (.str z) x
  | _ => false
theorem eqU_of {x y : V} {u : Value} (r : RelV y u) (f : flatV y = true) : eqU x u = eqV y x := by
  cases y with
  | non => cases r; rfl
  | bl b => cases r; rfl
  | int i => obtain ⟨t, rfl⟩ := r; rfl
  | str z => obtain ⟨t, rfl⟩ := r; rfl
  | _ => exact absurd (show false = true from f) Bool.false_ne_true

theorem mem_eqAt {A : Around} {s : Shared} {x : V} {v : Value} (rx : RelV x v) (fx : flatV x = true) : ∀ {xs : List V} {us : List Value}, Vals xs us → xs.all flatV = true → ∀ u ∈ us, SeqAt.EqAt A s u v (eqU x u)
  | _, _, .nil, _ => fun u hu => by cases hu
  | y :: xs, u :: us, .cons r t, f => fun u' hu => by
    rw [List.all_cons, Bool.and_eq_true] at f
    rcases List.mem_cons.mp hu with rfl | hu
    · rw [eqU_of r f.1]; exact eqAt_V r rx f.1 fx
    · exact mem_eqAt rx fx t f.2 u' hu

/-! ### len, list(x), tuple(x) of any list or tuple that is read -/
theorem call_len_seq : CallR X (.builtin "len") (fun xs H Q => ∃ p ys, xs = [.ref p] ∧ (SqL X.K H p ys ∨ SqT X.K H p ys) ∧ Q (.int ys.length) H) := by
  intro pins s σ H xs us Q I r h
  obtain ⟨p, ys, rfl, hq, q⟩ := h
  obtain ⟨u, rfl, rx⟩ := vals1 r
  cases rx
  have hn := line63
  rcases hq with hq | hq
  · obtain ⟨its, r', pl, hz⟩ := I.list hq
    have hlen := r'.length
    exact Calls.call_len_list pl.isList (by simp only [List.size_toArray] <;> omega) ⟨.int ys.length, H, I.tok _, ⟨s.toks + 1, by rw [List.size_toArray, hlen]⟩, q⟩
  · obtain ⟨its, r', pl, hz⟩ := I.tuple hq
    have hlen := r'.length
    exact len_tuple pl (by simp only [List.size_toArray] <;> omega) ⟨.int ys.length, H, I.tok _, ⟨s.toks + 1, by rw [List.size_toArray, hlen]⟩, q⟩

theorem call_list_of : CallR X (.type "list") (fun xs H Q => ∃ p ys, xs = [.ref p] ∧ (SqL X.K H p ys ∨ SqT X.K H p ys) ∧ ∀ l, H l = none → Q (.ref l) (upd H l (.lst ys))) := by
  intro pins s σ H xs us Q I r h
  obtain ⟨p, ys, rfl, hq, q⟩ := h
  obtain ⟨u, rfl, rx⟩ := vals1 r
  cases rx
  have fin : ∀ (its : List Value), Vals ys its → ys.length ≤ sizeLine → ∀ (h' : Heap) (c' : Nat), (∀ b o', s.heap.get? b = some o' → h'.get? b = some o') →
      h'.get? s.heap.objs.size = some { cls := .type "list", dict := none, data := .seq its.toArray c', slots := #[] } → EP X pins σ Q (.ref s.heap.objs.size) { s with heap := h' } := fun its r' hz h' c' kp e =>
    ⟨.ref s.heap.objs.size, _, I.laid (t' := s.toks) kp (Nat.le_refl _) (show ObjOk X.prog X.w _ h' _ (.lst ys) from ⟨hz, its, c', r', e⟩), rfl, q _ (I.hok.fresh (Nat.le_refl _))⟩
  rcases hq with hq | hq
  · obtain ⟨its, r', pl, hz⟩ := I.list hq
    have hlen := r'.length
    obtain ⟨o, ho, hc, n, hd⟩ := pl.isList
    exact call_list_seq p (.inl rfl) ho hc hd (fun h' c' kp e => fin its r' hz h' c' kp e) (by simp only [List.size_toArray] <;> omega)
  · obtain ⟨its, r', pl, hz⟩ := I.tuple hq
    have hlen := r'.length
    obtain ⟨o, ho, hc, n, hd⟩ := pl
    exact call_list_seq p (.inr rfl) ho hc hd (fun h' c' kp e => fin its r' hz h' c' kp e) (by simp only [List.size_toArray] <;> omega)
theorem call_tuple_of : CallR X (.type "tuple") (fun xs H Q => ∃ p ys, xs = [.ref p] ∧ ((SqL X.K H p ys ∧ ∀ l, H l = none → Q (.ref l) (upd H l (.tup ys))) ∨ (SqT X.K H p ys ∧ Q (.ref p) H))) := by
  intro pins s σ H xs us Q I r h
  obtain ⟨p, ys, rfl, h⟩ := h
  obtain ⟨u, rfl, rx⟩ := vals1 r
  cases rx
  rcases h with ⟨hq, q⟩ | ⟨hq, q⟩
  · obtain ⟨its, r', pl, hz⟩ := I.list hq
    have hlen := r'.length
    refine call_tuple_list pl.isList (fun h' kp => ?_) (by simp only [List.size_toArray] <;> omega)
    have I1 : Inv X pins σ H { s with heap := h' } := I.kept (t' := s.toks) kp
    have I2 : Inv X pins σ (upd H h'.objs.size (.tup ys)) { s with heap := h'.push { cls := .type "tuple", data := .seq its.toArray } } :=
      I1.laid (t' := s.toks) (fun b o e => Heap.get?_push_of_some _ e) (Nat.le_refl _) (show ObjOk X.prog X.w _ _ _ (.tup ys) from ⟨hz, its, r', IsTup.new _ _⟩)
    exact ⟨.ref h'.objs.size, _, I2, rfl, q _ (I1.hok.fresh (Nat.le_refl _))⟩
  · obtain ⟨its, r', pl, hz⟩ := I.tuple hq
    exact call_tuple_same pl ⟨.ref p, H, I, rfl, q⟩

/-! ### the call of a builtin's method: o.m(..) -/
/-- the value is of that builtin type -/
def tyV (K : PySem.W.Frag) (T : String) (x : V) (H : Hp) : Prop := match x with
  | .str _ => T = "str"
  | .int _ => T = "int"
  | .ref p => (T = "list" ∧ ∃ xs, SqL K H p xs) ∨ (T = "tuple" ∧ ∃ o, K.lookup p = some o ∧ o.cls = .type "tuple" ∧ o.dict = none) ∨
      (T = "dict" ∧ ((∃ kvs, H p = some (.dK kvs)) ∨ ∃ kvs, H p = some (.dT kvs))) ∨ (T = "set" ∧ ∃ S n, H p = some (.set S n))
  | _ => False
theorem tyV_is {pins : List (Addr × Obj)} {σ : St} {H : Hp} {s : Shared} {T : String} {x : V} {v : Value} (I : Inv X pins σ H s) (r : RelV x v) (ty : tyV X.K T x H) :
    s.TypeIs v T ∧ ∀ a, v = .ref a → ∃ ob, s.heap.get? a = some ob ∧ ob.dict = none := by
  cases x with
  | str z =>
    obtain ⟨t, rfl⟩ := r
    cases (show T = "str" from ty)
    exact ⟨typeIs_str s z t, fun _ e => nomatch e⟩
  | int i =>
    obtain ⟨t, rfl⟩ := r
    cases (show T = "int" from ty)
    exact ⟨typeIs_int s i t, fun _ e => nomatch e⟩
  | ref p =>
    cases r
    rcases ty with ⟨rfl, xs, hq⟩ | ⟨rfl, o, hk, hc, hd⟩ | ⟨rfl, hk⟩ | ⟨rfl, S, n, hk⟩
    · obtain ⟨its, _, pl, _⟩ := I.list hq
      refine ⟨pl.isList.typeIs, fun a e => ?_⟩
      cases e
      obtain ⟨o, n, e, c, hd, _⟩ := pl
      exact ⟨o, e, hd⟩
    · refine ⟨⟨o, I.kIn p o hk, hc⟩, fun a e => ?_⟩
      cases e
      exact ⟨o, I.kIn _ o hk, hd⟩
    · have z : ∃ o, s.heap.get? p = some o ∧ o.ExactDict := by
        rcases hk with ⟨kvs, hk⟩ | ⟨kvs, hk⟩
        · obtain ⟨_, _, _, _, o, _, _, e, ex, _⟩ := I.hok p _ hk
          exact ⟨o, e, ex⟩
        · obtain ⟨_, _, _, _, o, _, _, e, ex, _⟩ := I.hok p _ hk
          exact ⟨o, e, ex⟩
      obtain ⟨o, e, ex⟩ := z
      refine ⟨⟨o, e, ex.1⟩, fun a e2 => ?_⟩
      cases e2
      exact ⟨o, e, ex.2.1⟩
    · obtain ⟨o, _, _, _, e, ex, _⟩ := I.hok p _ hk
      refine ⟨⟨o, e, ex.1⟩, fun a e2 => ?_⟩
      cases e2
      exact ⟨o, e, ex.2.1⟩
  | _ => exact False.elim ty

def tBM (K : PySem.W.Frag) (T : String) (r : V → List V → Hp → VK → Prop) (to : TE) (t : TA) : TE := fun σ H Q => to σ H fun x H1 => tyV K T x H1 ∧ t σ H1 fun xs H2 => r x xs H2 Q
variable {o e : Expr} {es : List Expr} {to : TE} {t : TA} {name : Str} {apos cpos : Pos} {T id : String} {r : V → List V → Hp → VK → Prop}

theorem pe_bm (pa : PlainAttrs T) (slot : Slot T name id) (hty : typeOf (.builtin id) = pure (.type "method_descriptor")) (hm : MtR X id r) (ho : PE X o to) (ha : PA X (e :: es) t)
    (hbase : attributeBase o name X.env (eval o X.env) = eval o X.env := by rfl)
    (hfew : ((backTo cpos (starEach (e :: es) X.env)).all (fun x => !x.1) && (backToKw cpos (keywordEach [] X.env)).all (fun x => x.1.isSome)
      && decide ((e :: es).length + ([] : List Keyword).length + (if ([] : List Keyword).isEmpty then 0 else 1) < 30)) = true := by rfl)
    (hline : (apos.endLine == cpos.line) = true := by rfl) (hs : starEach (e :: es) X.env = (false, eval e X.env) :: starEach es X.env := by rfl) (hplain : (backTo cpos (starEach es X.env)).any (·.1) = false := by rfl) :
    PE X (.Call (.Attribute o name apos) (e :: es) [] cpos) (tBM X.K T r to t) := by
  intro pins s σ H Q I h
  refine wpAny_Call_method_late hbase hfew hline rfl (thn (ho pins s σ H _ I h) fun v s1 ⟨x, H1, I1, r1, ty, q1⟩ => ?_)
  obtain ⟨h1, h2⟩ := tyV_is I1 r1 ty
  refine ⟨T, id, pa, slot, hty, h1, h2, ?_⟩
  have hA := ha cpos pins s1 σ H1 _ I1 q1
  rw [hs] at hA ⊢
  refine Calls.callWith_builtin (by show (false || (backTo cpos (starEach es X.env)).any (·.1)) = false; rw [hplain] <;> rfl) (Calls.evalArgs_plain ?_)
  exact thn hA fun us s2 ⟨vs, H2, I2, r2, q2⟩ => hm pins s2 σ H2 x vs v us Q I2 r1 r2 q2
/- xs.append(e), list.index on a module's tuple .. are MtR facts of 06m -/
end
end L2

namespace L2
open PySem PySem.Spec PyProof.Rows

def MtM (X : Cx) (id : String) (r : V → List V → Hp → VK → Prop) : Prop :=
  ∀ (pins : List (Addr × Obj)) (s : Shared) (σ : St) (H : Hp) (x : V) (xs : List V) (v : Value) (us : List Value) (Q : VK), Inv X pins σ H s → RelV x v → Vals xs us → r x xs H Q →
    wpAny (model X.prog X.w) X.A (call (.builtin id) (v :: us)) (EP X pins σ Q) X.xe s

/-! ### lists of values -/
theorem Vals.one : ∀ {x : V} {us : List Value}, Vals [x] us → ∃ u, us = [u] ∧ RelV x u
  | _, _, .cons r .nil => ⟨_, rfl, r⟩

theorem Vals.rep {xs : List V} {us : List Value} (h : Vals xs us) : ∀ k : Nat, Vals (List.replicate k xs).flatten (List.replicate k us).flatten
  | 0 => .nil
  | k + 1 => by
    rw [List.replicate_succ, List.replicate_succ, List.flatten_cons, List.flatten_cons]
    exact Vals.append h (Vals.rep h k)

theorem foldl_rep (its : List Value) : ∀ (k : Nat) (acc : List Value),
    List.foldl (fun x1 x2 => x1 ++ x2) acc.toArray (List.replicate k its.toArray) = (acc ++ (List.replicate k its).flatten).toArray
  | 0, acc => by simp
  | k + 1, acc => by
    have e : acc.toArray ++ its.toArray = (acc ++ its).toArray := by simp
    have e2 : (acc ++ its) ++ (List.replicate k its).flatten = acc ++ (List.replicate (k + 1) its).flatten := by
      rw [List.replicate_succ, List.flatten_cons, List.append_assoc]
    rw [← e2, ← foldl_rep its k (acc ++ its), ← e, List.replicate_succ, List.foldl_cons]

section
variable {X : Cx} {pins : List (Addr × Obj)} {σ : St} {H : Hp} {s : Shared} {l b : Addr} {xs ys zs : List V}

/-! ### the two steps: a tracked list is rewritten, a new list is laid -/
theorem Inv.lset {its its' : List Value} {n : Nat} {f : Array Value → Array Value} {t' : Nat} (I : Inv X pins σ H s) (hH : H l = some (.lst xs))
    (e : s.heap.get? l = some { cls := .type "list", data := .seq its.toArray n }) (hf : f its.toArray = its'.toArray) (hv : Vals ys its') (hz : ys.length ≤ sizeLine) :
    Inv X pins σ (upd H l (.lst ys)) { s with heap := s.heap.update l (Obj.mapSeq f), toks := t' } := by
  have q := PySem.IsL.update e f
  rw [hf] at q
  refine I.write (x := l) (e := l) (by rw [hH]; exact trivial) (.inl rfl) (fun b' u hb hu => (Heap.get?_update_other s.heap (Obj.mapSeq f) (Ne.symm hb)).trans hu) ⟨_, q⟩ ?_
  exact ⟨hz, its', _, hv, q⟩
theorem Inv.lnew {its : List Value} {t' : Nat} (I : Inv X pins σ H s) (hv : Vals ys its) (hz : ys.length ≤ sizeLine) :
    Inv X pins σ (upd H s.heap.objs.size (.lst ys)) { s with heap := s.heap.push { cls := .type "list", data := .seq its.toArray }, toks := t' } :=
  I.laid (fun _ _ q => Heap.get?_push_of_some _ q) (Nat.le_refl _) ⟨hz, its, 0, hv, Heap.get?_push_size _ rfl⟩
theorem Inv.fresh (I : Inv X pins σ H s) : H s.heap.objs.size = none := I.hok.fresh (Nat.le_refl _)
theorem Inv.lstM (I : Inv X pins σ H s) (hH : H l = some (.lst xs)) : xs.length ≤ sizeLine ∧ ∃ (its : List Value) (n : Nat), Vals xs its ∧ xs.length = its.length ∧ s.heap.get? l = some { cls := .type "list", data := .seq its.toArray n } := by
  obtain ⟨z, its, n, r, e⟩ := I.hok l _ hH
  exact ⟨z, its, n, r, r.length, e⟩

theorem notLongL {n : Nat} (h : n ≤ sizeLine) : Builtin.List.listTooLong n = false := by
  unfold Builtin.List.listTooLong
  exact decide_eq_false (by omega)
end

section
variable {X : Cx}

/-! ### methods -/
def rAppend : V → List V → Hp → VK → Prop := fun x vs H Q => ∃ l xs y, x = .ref l ∧ vs = [y] ∧ H l = some (.lst xs) ∧ xs.length < sizeLine ∧ Q .non (upd H l (.lst (xs ++ [y])))
theorem mt_append : MtM X "list.append" rAppend := by
  intro pins s σ H x vs v us Q I rx rv h
  obtain ⟨l, xs, y, rfl, rfl, hH, hz, q⟩ := h
  cases rx
  obtain ⟨u, rfl, ru⟩ := rv.one
  obtain ⟨z, its, n, r, hl, e⟩ := I.lstM hH
  refine call_meets F.slot_list_append ⟨_, e, rfl⟩ F.entry_list_append (F.args_list_append_2 _ _) (PySem.list_append l its.toArray n u (by rw [List.size_toArray]; omega)) ⟨e, ?_⟩
  refine ⟨.non, _, I.lset (its' := its ++ [u]) hH e (by simp) (r.append (.cons ru .nil)) ?_, rfl, q⟩
  rw [List.length_append, List.length_singleton]
  omega

def rExtend : V → List V → Hp → VK → Prop := fun x vs H Q => ∃ l b xs zs, x = .ref l ∧ vs = [.ref b] ∧ H l = some (.lst xs) ∧ H b = some (.lst zs) ∧ xs.length + zs.length ≤ sizeLine ∧ Q .non (upd H l (.lst (xs ++ zs)))
theorem mt_extend : MtM X "list.extend" rExtend := by
  intro pins s σ H x vs v us Q I rx rv h
  obtain ⟨l, b, xs, zs, rfl, rfl, hH, hB, hz, q⟩ := h
  cases rx
  obtain ⟨u, rfl, ru⟩ := rv.one
  cases ru
  obtain ⟨z, its, n, r, hl, e⟩ := I.lstM hH
  obtain ⟨z2, its2, n2, r2, hl2, e2⟩ := I.lstM hB
  have hsz : its.toArray.size + its2.toArray.size ≤ sizeLine := by rw [List.size_toArray, List.size_toArray]; omega
  have hlong : ¬ (!its.toArray.isEmpty && Builtin.List.listTooLong (its.toArray.size + its2.toArray.size)) = true := by
    rw [notLongL hsz, Bool.and_false]
    exact Bool.false_ne_true
  refine call_meets F.slot_list_extend ⟨_, e, rfl⟩ F.entry_list_extend (F.args_list_extend_2 _ _)
    (AutoSeq1.list_extend_list_list_0 l its.toArray n b its2.toArray n2 hlong (by rw [List.size_toArray]; omega) (by omega)) ⟨e, e2, ?_⟩
  refine ⟨.non, _, I.lset (its' := its ++ its2) hH e (by simp) (r.append r2) ?_, rfl, q⟩
  rw [List.length_append]
  omega

/-! ### list + list, list += list, list * int -/
def rCat : R2 := fun x y H Q => ∃ l b xs zs, x = .ref l ∧ y = .ref b ∧ H l = some (.lst xs) ∧ H b = some (.lst zs) ∧ xs.length + zs.length ≤ sizeLine ∧ ∀ p, H p = none → Q (.ref p) (upd H p (.lst (xs ++ zs)))
theorem op_cat : OpR X (binaryOp .Add) rCat := by
  intro pins s σ H x y v u Q I rx ry h
  obtain ⟨l, b, xs, zs, rfl, rfl, hH, hB, hz, q⟩ := h
  cases rx
  cases ry
  obtain ⟨z, its, n, r, hl, e⟩ := I.lstM hH
  obtain ⟨z2, its2, n2, r2, hl2, e2⟩ := I.lstM hB
  refine PySem.P.add_list e e2 ?_ (by rw [List.size_toArray, List.size_toArray]; omega)
  have ea : its.toArray ++ its2.toArray = (its ++ its2).toArray := by simp
  rw [ea]
  exact ⟨.ref _, _, I.lnew (t' := s.toks) (r.append r2) (by rw [List.length_append]; omega), rfl, q _ I.fresh⟩
/-- a list times an int (a negative one is nothing) -/
def rRep : R2 := fun x y H Q => ∃ l k xs, x = .ref l ∧ y = .int k ∧ H l = some (.lst xs) ∧ -(2 ^ 63) ≤ k ∧ k < 2 ^ 63 ∧ xs.length * k.toNat ≤ sizeLine ∧
  ∀ p, H p = none → Q (.ref p) (upd H p (.lst (List.replicate k.toNat xs).flatten))
theorem len_rep {α : Type} (xs : List α) (k : Nat) : (List.replicate k xs).flatten.length = k * xs.length := by
  induction k with
  | zero => simp
  | succ k ih => rw [List.replicate_succ, List.flatten_cons, List.length_append, ih, Nat.succ_mul, Nat.add_comm]
theorem op_rep : OpR X (binaryOp .Mult) rRep := by
  intro pins s σ H x y v u Q I rx ry h
  obtain ⟨l, k, xs, rfl, rfl, hH, h1, h2, hz, q⟩ := h
  cases rx
  obtain ⟨t, rfl⟩ := ry
  obtain ⟨z, its, n, r, hl, e⟩ := I.lstM hH
  have hlen : its.toArray.size * k.toNat ≤ sizeLine := by rw [List.size_toArray, ← hl]; exact hz
  have hcap : ¬ its.toArray.size * k.toNat > (2 ^ 63 - 1) / 8 := by
    have : (sizeLine : Nat) ≤ (2 ^ 63 - 1) / 8 := by decide
    omega
  have hfit : ¬ (!Builtin.List.listFitsIndex k) = true := by
    rw [fitsIndex_both h1 h2]
    exact Bool.false_ne_true
  have hlong : ¬ Builtin.List.listTooLong (its.toArray.size * k.toNat) = true := by
    rw [notLongL hlen]
    exact Bool.false_ne_true
  have hnew : List.foldl (fun x1 x2 => x1 ++ x2) #[] (List.replicate (if its.toArray.isEmpty = true then 0 else k.toNat) its.toArray) = (List.replicate k.toNat its).flatten.toArray := by
    have f0 : ∀ m : Nat, List.foldl (fun x1 x2 => x1 ++ x2) #[] (List.replicate m its.toArray) = (List.replicate m its).flatten.toArray := fun m => by
      have := foldl_rep its m []
      rw [List.nil_append] at this
      exact this
    rw [f0]
    cases its with
    | nil => simp
    | cons a r' => rw [if_neg (by simp)]
  refine wpAny_binaryOp_repeat_ref (T := "list") (U := "int") (by decide) ⟨_, e, rfl⟩ (fun s' => typeIs_int s' k t) noFill_list_mul F.fills_int_mul F.slot_int_rmul repeat_list F.slot_int_index.lookup
    (call_meets F.slot_int_rmul (typeIs_int s k t) F.entry_int_rmul (F.args_int_rmul_2 _ _) (int___rmul___int_list k t l its.toArray n)
      ⟨e, rfl, ⟨_, e, rfl⟩, call_meets F.slot_list_mul ⟨_, e, rfl⟩ F.entry_list_mul (F.args_list_mul_2 _ _) (AutoListH.list___mul___list_int_3 l its.toArray n k t hfit hcap hlong) ⟨e, ?_⟩⟩)
  rw [hnew]
  exact ⟨.ref _, _, I.lnew (t' := s.toks) (r.rep k.toNat) (by rw [len_rep, Nat.mul_comm]; exact hz), rfl, q _ I.fresh⟩

/-! ### del xs[i] -/

end

/-! ### xs[a:b] = ys -/
section
variable {prog : Program} {w : World} {A : Around} {E : Value → Shared → Prop} {s : Shared}

end

section
variable {X : Cx}

end
end L2

namespace L2
open PySem PySem.Spec PyProof.Rows

theorem Vals.ints : ∀ {ns : List Int} {us : List Value}, Vals (ns.map V.int) us → IntsAre us ns
  | [], us, h => by
    rw [List.map_nil] at h
    cases h
    exact IntsAre.nil
  | n :: ns, us, h => by
    rw [List.map_cons] at h
    cases h with
    | cons r t =>
      obtain ⟨k, rfl⟩ := r
      exact IntsAre.cons n k (Vals.ints t)
theorem vals_of_ints : ∀ {us : List Value} {ns : List Int}, IntsAre us ns → Vals (ns.map V.int) us
  | _, _, .nil => by rw [List.map_nil]; exact Paired.nil
  | _, _, .cons n t h => by rw [List.map_cons]; exact Paired.cons (show RelV (V.int n) (Value.int n t) from ⟨t, rfl⟩) (vals_of_ints h)

theorem Vals.bls : ∀ {bs : List Bool} {us : List Value}, Vals (bs.map V.bl) us → us = bs.map Value.bool
  | [], us, h => by
    rw [List.map_nil] at h
    cases h
    rfl
  | b :: bs, us, h => by
    rw [List.map_cons] at h
    cases h with
    | cons r t =>
      cases r
      rw [Vals.bls t, List.map_cons]
theorem Vals.ref1 {a : Addr} {us : List Value} (r : Vals [V.ref a] us) : us = [Value.ref a] := by
  cases r with
  | cons r t =>
    cases t
    cases r
    rfl

/-! ### the library's walks over a list of ints, kept objects alone -/
section
variable {prog : Program} {w : World} {A : Around} {E : Value → Shared → Prop} {s : Shared} {l : Addr} {its : List Value} {ns : List Int} {Q : Value → Shared → Prop}
theorem sum_raw (hh : A.handled = none) (hl : s.heap.IsList l its.toArray) (hi : IntsAre its ns)
    (h : ∀ h' tk t', (∀ b o, s.heap.get? b = some o → h'.get? b = some o) → Q (.int ns.sum t') { s with heap := h', toks := tk }) : wpAny (model prog w) A (call (.builtin "sum") [.ref l]) Q E s := by
  obtain ⟨xs, e⟩ := hi.allInts.items
  have hn : numsOf (intItems xs).toList = ns := by rw [← e]; exact hi.numsOf
  rw [nums_intItems] at hn
  rw [e] at hl
  refine PySem.sum_intListG hh hl fun h' tk t' hk => ?_
  have := h h' tk t' hk
  rw [preSum_eq, List.take_of_length_le (by simp), hn]; exact this

end

/-! ### the calls, by values (CallR of 03t; MtR of 06l) -/
section
variable {X : Cx}
/-- sum(xs) of a list of ints -/
def rSum (K : PySem.W.Frag) : List V → Hp → VK → Prop := fun vs H Q => ∃ (a : Addr) (ns : List Int), vs = [V.ref a] ∧ SqL K H a (ns.map V.int) ∧ Q (.int ns.sum) H

theorem cr_sum (hc : X.calm = true) : CallR X (.builtin "sum") (rSum X.K) := by
  intro pins s σ H vs us Q I r h
  obtain ⟨a, ns, rfl, hs, q⟩ := h
  obtain ⟨its, rv, hl, _⟩ := I.list hs
  rw [Vals.ref1 r]
  exact sum_raw (I.ok.hd hc) hl.isList rv.ints fun h' tk t' hk => ⟨.int _, H, I.kept hk, ⟨_, rfl⟩, q⟩

/-! sorted, sort (fewer than 64 items: the library's own bound) -/

theorem small64 {n : Nat} (h : n < 64) : n ≤ sizeLine := by rw [sizeLine_eq]; omega

end

/-! ### list.index, flat items -/
section
variable {X : Cx}

theorem flat_at {ys : List V} (f : ys.all flatV = true) {j : Nat} {z : V} (h : ys[j]? = some z) : flatV z = true := List.all_eq_true.mp f z (List.mem_of_getElem? h)

end

/-! ### type(x) of an own instance; is, is not of a module's class -/
section
variable {X : Cx}

end

/-! ### any(xs), all(xs) of a list of bools -/
theorem iter_any {prog : Program} {w : World} {A : Around} {E : Value → Shared → Prop} {s : Shared} {l : Addr} {items : Array Value} {Q : Value → Shared → Prop} (hl : s.heap.IsList l items)
    (h : ∀ s₂ : Shared, s₂ = { s with heap := s.heap.push { cls := .type "list_iterator", data := .fields #[.ref l, .int 0 0] } } →
      (s₂.heap.IsListIter s.heap.objs.size l 0 ∧ s₂.heap.IsList l items) → l ≠ s.heap.objs.size → Q (.ref s.heap.objs.size) s₂) : wpAny (model prog w) A (pyIter (.ref l)) Q E s := by
  have hlt : l < s.heap.objs.size := by obtain ⟨_, e, _⟩ := hl; exact Heap.lt_size e
  exact wpAny_pyIter_list hl (h _ rfl ⟨⟨_, Heap.get?_push_size _ rfl, rfl, rfl⟩, hl.push _⟩ (Nat.ne_of_lt hlt))
theorem truth_bools {prog : Program} {w : World} {A : Around} {bs : List Bool} {its : List Value} (e : its = bs.map Value.bool) :
    TruthOf prog w A (fun i v => its.toArray[i]? = some v) (fun i => bs.getD i false) := fun i v s Q E hv hq => by
  have hv' : its[i]? = some v := by simpa using hv
  rw [e, List.getElem?_map] at hv'
  obtain ⟨b, hb, rfl⟩ := Option.map_eq_some_iff.mp hv'
  have hg : bs.getD i false = b := by rw [List.getD_eq_getElem?_getD, hb] <;> rfl
  have hq' : Q (bs.getD i false) s := hq
  rw [hg] at hq'
  exact wpAny_truthy_bool hq'

theorem all_range : ∀ bs : List Bool, (List.range bs.length).all (fun i => bs.getD i false) = bs.all id
  | [] => rfl
  | b :: bs => by
    rw [List.length_cons, List.range_succ_eq_map, List.all_cons, List.all_map, List.all_cons, ← all_range bs]
    all_goals rfl
section
variable {X : Cx}

def rAll (K : PySem.W.Frag) : List V → Hp → VK → Prop := fun vs H Q => ∃ (a : Addr) (bs : List Bool), vs = [V.ref a] ∧ SqL K H a (bs.map V.bl) ∧ Q (.bl (bs.all id)) H

theorem cr_all (hc : X.calm = true) : CallR X (.builtin "all") (rAll X.K) := by
  intro pins s σ H vs us Q I r h
  obtain ⟨a, bs, rfl, hs, q⟩ := h
  obtain ⟨its, rv, hl, _⟩ := I.list hs
  rw [Vals.ref1 r]
  have hb := rv.bls
  refine call_all_walk (iter_any hl.isList fun s₂ e2 st hne => ?_)
  subst e2
  refine ⟨_, _, _, _, _, _, _, rfl, Walks.list (A := X.A.in1) (I.ok.hd hc) _ a hne its.toArray, st, truth_bools hb, fun h' tk hk => ?_⟩
  refine ⟨.bl _, H, I.kept fun b o eo => hk b o (fun hmem => ?_) (Heap.get?_push_of_some _ eo), ?_, q⟩
  · rcases List.mem_cons.mp hmem with e1 | hmem
    · exact absurd (e1 ▸ Heap.lt_size eo) (Nat.lt_irrefl _)
    · cases hmem
  · show Value.bool _ = Value.bool _
    rw [← all_range, hb, List.size_toArray, List.length_map]
end

/-! ### == and != of data at any depth: none, bools, ints, texts, lists, tuples -/
mutual
inductive Dp (K : PySem.W.Frag) (H : Hp) : V → PyData → Prop
  | non : Dp K H .non .none
  | bl (b : Bool) : Dp K H (.bl b) (.bool b)
  | int (i : Int) : Dp K H (.int i) (.int i)
  | str (x : Str) : Dp K H (.str x) (.str x)
  | lst {a : Addr} {xs : List V} {ds : List PyData} : SqL K H a xs → DpAll K H xs ds → Dp K H (.ref a) (.list ds)
  | tup {a : Addr} {xs : List V} {ds : List PyData} : SqT K H a xs → DpAll K H xs ds → Dp K H (.ref a) (.tuple ds)
inductive DpAll (K : PySem.W.Frag) (H : Hp) : List V → List PyData → Prop
  | nil : DpAll K H [] []
  | cons {v : V} {vs : List V} {d : PyData} {ds : List PyData} : Dp K H v d → DpAll K H vs ds → DpAll K H (v :: vs) (d :: ds)
end
section
variable {X : Cx} {pins : List (Addr × Obj)} {σ : St} {H : Hp} {s : Shared}
mutual
theorem Dp.reads (I : Inv X pins σ H s) : ∀ (d : PyData) (v : V) (u : Value), Dp X.K H v d → RelV v u → ∃ as, Reads s.heap u d as
  | .none, _, _, h, r => by
    cases h
    cases r
    exact ⟨_, Reads.none⟩
  | .bool b, _, _, h, r => by
    cases h
    cases r
    exact ⟨_, Reads.bool b⟩
  | .int i, _, _, h, r => by
    cases h
    obtain ⟨t, rfl⟩ := r
    exact ⟨_, Reads.int i t⟩
  | .str x, _, _, h, r => by
    cases h
    obtain ⟨t, rfl⟩ := r
    exact ⟨_, Reads.str x t⟩
  | .list ds, _, _, h, r => by
    cases h with
    | lst hs ha =>
      cases r
      obtain ⟨its, rv, ⟨o, n, ho, hc, _, hd⟩, _⟩ := I.list hs
      obtain ⟨as, hr⟩ := Dp.readsAll I ds _ its ha rv
      exact ⟨_, Reads.list ho hc hd hr⟩
  | .tuple ds, _, _, h, r => by
    cases h with
    | tup hs ha =>
      cases r
      obtain ⟨its, rv, ⟨o, ho, hc, n, hd⟩, _⟩ := I.tuple hs
      obtain ⟨as, hr⟩ := Dp.readsAll I ds _ its ha rv
      exact ⟨_, Reads.tuple ho hc hd hr⟩
  | .dict _, _, _, h, _ => by cases h
theorem Dp.readsAll (I : Inv X pins σ H s) : ∀ (ds : List PyData) (vs : List V) (us : List Value), DpAll X.K H vs ds → Vals vs us → ∃ as, ReadsAll s.heap us ds as
  | [], _, _, h, r => by
    cases h
    cases r
    exact ⟨_, ReadsAll.nil⟩
  | d :: ds, _, _, h, r => by
    cases h with
    | cons h1 h2 =>
      cases r with
      | cons r1 r2 =>
        obtain ⟨as, q1⟩ := Dp.reads I d _ _ h1 r1
        obtain ⟨bs, q2⟩ := Dp.readsAll I ds _ _ h2 r2
        exact ⟨_, ReadsAll.cons q1 q2⟩
end
end
section
variable {X : Cx}
def rEqD (K : PySem.W.Frag) : R2 := fun x y H Q => ∃ d e, Dp K H x d ∧ Dp K H y e ∧ SeqAt.shaped d = true ∧ SeqAt.shaped e = true ∧ Q (.bl (PyData.eqv d e)) H

theorem op_eqD (hu : X.A.units + 64 < cLine) : OpR X (compareOp .Eq) (rEqD X.K) := by
  intro pins s σ H x y v u Q I rx ry h
  obtain ⟨d, e, hd, he, sd, se, q⟩ := h
  obtain ⟨as, r1⟩ := Dp.reads I d x v hd rx
  obtain ⟨bs, r2⟩ := Dp.reads I e y u he ry
  exact SeqAt.compareEq_shaped r1 r2 sd se hu ⟨.bl _, H, I, rfl, q⟩

end
end L2

namespace L2
open PySem PySem.Spec PyProof.Rows
abbrev CellAt (h : Heap) (c : Addr) (v : Option Value) : Prop := h.IsCell c v
def relS (scope sc : Scope) : Scope :=
  { scope with names := scope.names.map fun (n, k) => if (k == .free && sc.kind == .function && sc.names.lookup n == some .cell) then (n, .cell) else (n, k) }

def cloFrom (cells : List (Str × Addr)) : List (Str × NameKind) → List (Str × Addr) → List (Str × Addr)
  | [], acc => acc
  | (n, k) :: r, acc => if k == .free then cloFrom cells r ((n, (cells.lookup n).getD 0) :: acc) else cloFrom cells r acc

theorem closure_loop (env : Env) (f : Str × NameKind → List (Str × Addr) → Sem (ForInStep (List (Str × Addr))))
    (hf : ∀ n k c, f (n, k) c = if k == .free then (do let a ← cellOf env n; pure (.yield ((n, a) :: c))) else pure (.yield c)) :
    ∀ (names : List (Str × NameKind)) (acc : List (Str × Addr)), (∀ y ∈ names, y.2 = .free → ∃ c, env.cells.lookup y.1 = some c) → forIn names acc f = pure (cloFrom env.cells names acc)
  | [], acc, _ => by rw [List.forIn_nil]; rfl
  | (n, k) :: r, acc, h => by
    rw [List.forIn_cons, hf]
    have ih := fun acc => closure_loop env f hf r acc fun y hy => h y (List.mem_cons_of_mem _ hy)
    unfold cloFrom
    by_cases hk : (k == NameKind.free) = true
    · rw [if_pos hk, if_pos hk]
      obtain ⟨c, hc⟩ := h (n, k) List.mem_cons_self (by simpa using hk)
      have e : cellOf env n = pure c := by unfold cellOf; rw [hc]
      rw [e]
      have e2 : (env.cells.lookup n).getD 0 = c := by rw [hc]; rfl
      rw [e2]
      exact ih _
    · rw [if_neg hk, if_neg hk]
      exact ih _
theorem closure_ok {scope : Scope} {env : Env} (h : ∀ y ∈ scope.names, y.2 = .free → ∃ c, env.cells.lookup y.1 = some c) : closureFor scope env = pure (cloFrom env.cells scope.names []) := by
  simp only [closureFor]
  rw [closure_loop env _ (fun n k c => rfl) scope.names [] h]
  rfl

theorem mem_lookup {α : Type} : ∀ {l : List (Str × α)} {n : Str} {c : α}, (n, c) ∈ l → ∃ c', l.lookup n = some c'
  | (k, v) :: r, n, c, h => by
    rw [List.lookup_cons]
    cases hb : n == k with
    | true => exact ⟨_, rfl⟩
    | false =>
      rcases List.mem_cons.mp h with e | h
      · cases e; simp at hb
      · exact mem_lookup h

theorem cloFrom_mem {cells : List (Str × Addr)} : ∀ {names : List (Str × NameKind)} {acc : List (Str × Addr)} {n : Str} {c : Addr}, (n, c) ∈ cloFrom cells names acc → (n, c) ∈ acc ∨ ((n, .free) ∈ names ∧ c = (cells.lookup n).getD 0)
  | [], _, _, _, h => .inl h
  | (m, k) :: r, acc, n, c, h => by
    unfold cloFrom at h
    split at h
    · rename_i hk
      have hk : k = .free := by simpa using hk
      rcases cloFrom_mem h with h | ⟨h1, h2⟩
      · rcases List.mem_cons.mp h with e | h
        · cases e; exact .inr ⟨hk ▸ List.mem_cons_self, rfl⟩
        · exact .inl h
      · exact .inr ⟨List.mem_cons_of_mem _ h1, h2⟩
    · rcases cloFrom_mem h with h | ⟨h1, h2⟩
      · exact .inl h
      · exact .inr ⟨List.mem_cons_of_mem _ h1, h2⟩
theorem cloFrom_acc {cells : List (Str × Addr)} : ∀ {names : List (Str × NameKind)} {acc : List (Str × Addr)} {p : Str × Addr}, p ∈ acc → p ∈ cloFrom cells names acc
  | [], _, _, h => h
  | (m, k) :: r, acc, p, h => by
    unfold cloFrom
    split
    · exact cloFrom_acc (List.mem_cons_of_mem _ h)
    · exact cloFrom_acc h
theorem cloFrom_has {cells : List (Str × Addr)} : ∀ {names : List (Str × NameKind)} {acc : List (Str × Addr)} {n : Str}, (n, .free) ∈ names → (n, (cells.lookup n).getD 0) ∈ cloFrom cells names acc
  | (m, k) :: r, acc, n, h => by
    unfold cloFrom
    rcases List.mem_cons.mp h with e | h
    · cases e
      exact cloFrom_acc List.mem_cons_self
    · split
      · exact cloFrom_has h
      · exact cloFrom_has h

theorem cells_mem : ∀ {names : List (Str × NameKind)} {h : Heap} {acc : List (Str × Addr)} {x : Str} {c : Addr}, (x, c) ∈ cellsFrom h.objs.size names acc →
    (x, c) ∈ acc ∨ ((x, .cell) ∈ names ∧ h.objs.size ≤ c ∧ CellAt (pushCells h names) c none)
  | [], _, _, _, _, h => .inl h
  | (n, k) :: r, h, acc, x, c, hm => by
    unfold cellsFrom at hm
    unfold pushCells
    split at hm
    · rename_i hk
      rw [if_pos hk]
      have hk : k = .cell := by simpa using hk
      rw [← Heap.size_push h { cls := .type "cell", data := .cell none }] at hm
      rcases cells_mem hm with hm | ⟨h1, h2, h3⟩
      · rcases List.mem_cons.mp hm with e | hm
        · cases e
          exact .inr ⟨hk ▸ List.mem_cons_self, Nat.le_refl _, _, pushCells_keeps r _ _ _ (Heap.get?_push_size _ rfl), rfl⟩
        · exact .inl hm
      · rw [Heap.size_push] at h2
        exact .inr ⟨List.mem_cons_of_mem _ h1, Nat.le_of_succ_le h2, h3⟩
    · rename_i hk
      rw [if_neg hk]
      rcases cells_mem hm with hm | ⟨h1, h2, h3⟩
      · exact .inl hm
      · exact .inr ⟨List.mem_cons_of_mem _ h1, h2, h3⟩
theorem cells_acc : ∀ {names : List (Str × NameKind)} {n : Nat} {acc : List (Str × Addr)} {p : Str × Addr}, p ∈ acc → p ∈ cellsFrom n names acc
  | [], _, _, _, h => h
  | (m, k) :: r, n, acc, p, h => by
    unfold cellsFrom
    split
    · exact cells_acc (List.mem_cons_of_mem _ h)
    · exact cells_acc h
theorem cells_has : ∀ {names : List (Str × NameKind)} {n : Nat} {acc : List (Str × Addr)} {x : Str}, (x, .cell) ∈ names → ∃ c, (x, c) ∈ cellsFrom n names acc
  | (m, k) :: r, n, acc, x, h => by
    unfold cellsFrom
    rcases List.mem_cons.mp h with e | h
    · cases e
      exact ⟨n, cells_acc List.mem_cons_self⟩
    · split
      · exact cells_has h
      · exact cells_has h
theorem cells_inj : ∀ {names : List (Str × NameKind)} {h : Heap} {acc : List (Str × Addr)} {x y : Str} {c : Addr}, (∀ p ∈ acc, p.2 < h.objs.size) → (∀ x y c, (x, c) ∈ acc → (y, c) ∈ acc → x = y) →
    (x, c) ∈ cellsFrom h.objs.size names acc → (y, c) ∈ cellsFrom h.objs.size names acc → x = y
  | [], _, _, _, _, _, _, hi, h1, h2 => hi _ _ _ h1 h2
  | (n, k) :: r, h, acc, x, y, c, hl, hi, h1, h2 => by
    unfold cellsFrom at h1 h2
    split at h1
    · rename_i hk
      rw [if_pos hk] at h2
      rw [← Heap.size_push h { cls := .type "cell", data := .cell none }] at h1 h2
      refine cells_inj (h := h.push _) (fun p hp => ?_) (fun x y c a b => ?_) h1 h2
      · rw [Heap.size_push]
        rcases List.mem_cons.mp hp with rfl | hp
        · exact Nat.lt_succ_self _
        · exact Nat.lt_succ_of_lt (hl p hp)
      · rcases List.mem_cons.mp a with e | a <;> rcases List.mem_cons.mp b with e' | b
        · cases e; cases e'; rfl
        · cases e; exact absurd (hl _ b) (Nat.lt_irrefl _)
        · cases e'; exact absurd (hl _ a) (Nat.lt_irrefl _)
        · exact hi _ _ _ a b
    · rename_i hk
      rw [if_neg hk] at h2
      exact cells_inj hl hi h1 h2

theorem newEnv_comp {M : Model} {A : Around} {E : Value → Shared → Prop} {s : Shared} {scope : Scope} {globals : Addr} {closure : List (Str × Addr)} {qual : Str} {func : Option Addr} {code : Value} {around : Env} {builtins : Addr} {Q : Env → Shared → Prop}
    (h : Q (newEnv scope s.heap.objs.size globals (cellsFrom (s.heap.objs.size + 1) scope.names closure) qual func code (some around) builtins)
      { s with heap := pushCells (s.heap.push { cls := .type "dict", data := .dict #[] }) scope.names }) :
    wpAny M A (newFunctionEnv scope globals closure [] qual func code (some around) builtins) Q E s := by
  simp only [newFunctionEnv, Option.isSome_some, if_true]
  refine wpAny_bind (wpAny_alloc ?_)
  refine wpAny_bind (wpAny_layCells _ (fun n k c => rfl) scope.names closure _ _ ?_)
  rw [show ({ s with heap := s.heap.push { cls := .type "dict", data := .dict #[] } } : Shared).heap.objs.size = s.heap.objs.size + 1 from Heap.size_push ..]
  rw [List.forIn_nil]
  exact wpAny_bind (wpAny_pure (wpAny_pure h))

/-- every name of the written scope, in the scope that runs -/
theorem lookup_relS {sc : Scope} : ∀ {names : List (Str × NameKind)} {x : Str} {k : NameKind},
    (names.map fun (n, k) => if (k == NameKind.free && sc.kind == .function && sc.names.lookup n == some .cell) then (n, NameKind.cell) else (n, k)).lookup x = some k →
    ∃ k', names.lookup x = some k' ∧ (k = k' ∨ (k' = .free ∧ k = .cell))
  | [], _, _, h => by simp at h
  | (n, k₀) :: r, x, k, h => by
    have ih := @lookup_relS sc r x k
    have h' : List.lookup x ((if (k₀ == NameKind.free && sc.kind == .function && sc.names.lookup n == some .cell) = true then (n, NameKind.cell) else (n, k₀)) :: (r.map _)) = some k := h
    cases hx : x == n with
    | true =>
      simp only [List.lookup_cons, hx]
      by_cases hc : (k₀ == NameKind.free && sc.kind == .function && sc.names.lookup n == some .cell) = true
      · rw [if_pos hc] at h'
        simp only [List.lookup_cons, hx] at h'
        cases h'
        simp only [Bool.and_eq_true, beq_iff_eq] at hc
        exact ⟨k₀, rfl, .inr ⟨hc.1.1, rfl⟩⟩
      · rw [if_neg hc] at h'
        simp only [List.lookup_cons, hx] at h'
        cases h'
        exact ⟨_, rfl, .inl rfl⟩
    | false =>
      simp only [List.lookup_cons, hx]
      by_cases hc : (k₀ == NameKind.free && sc.kind == .function && sc.names.lookup n == some .cell) = true
      · rw [if_pos hc] at h'
        simp only [List.lookup_cons, hx] at h'
        exact ih h'
      · rw [if_neg hc] at h'
        simp only [List.lookup_cons, hx] at h'
        exact ih h'

/-- the names of a comprehension's block: its own (with their places in N), or captured -/
structure BlkOk (N : List Str) (sc scope : Scope) (own : List (Str × Nat)) : Prop where
  kind : scope.kind = .function
  uniq : ∀ y ∈ scope.names, scope.names.lookup y.1 = some y.2
  ix : ∀ p ∈ own, N[p.2]? = some p.1
  free : ∀ y ∈ scope.names, y.2 = .free → sc.names.lookup y.1 = some .cell ∨ sc.names.lookup y.1 = some .free
  own : ∀ y ∈ scope.names, y.2 = .local ∨ y.2 = .cell → y.1 ∈ own.map (·.1) ∨ y.1 ∉ N
/-- the slots of the block's own names forgotten -/
def wipe (σ : St) : List Nat → St
  | [] => σ
  | v :: vs => (wipe σ vs).set v none
theorem wipe_length (σ : St) : ∀ vs : List Nat, (wipe σ vs).length = σ.length
  | [] => rfl
  | v :: vs => by unfold wipe; rw [List.length_set, wipe_length σ vs]
theorem wipe_some {σ : St} {i : Nat} {x : V} : ∀ {vs : List Nat}, (wipe σ vs)[i]? = some (some x) → σ[i]? = some (some x) ∧ i ∉ vs
  | [], h => ⟨h, by simp⟩
  | v :: vs, h => by
    unfold wipe at h
    by_cases hi : v = i
    · subst hi
      by_cases hv : v < (wipe σ vs).length
      · rw [List.getElem?_set_self hv] at h; cases h
      · rw [List.getElem?_eq_none (by simpa using hv)] at h; cases h
    · rw [List.getElem?_set_ne hi] at h
      obtain ⟨h1, h2⟩ := wipe_some h
      exact ⟨h1, by simp only [List.mem_cons, not_or]; exact ⟨fun e => hi e.symm, h2⟩⟩

/-- the context of a block that starts at s, its iterator's objects at fp -/
abbrev Cx.blk (X : Cx) (s : Shared) (H : Hp) (scope : Scope) (cenv : Env) (fp : List Addr) : Cx := { X with s_0 := s, H_0 := H, env := cenv, outer := X.stack, ex := fp, fn := fun x => scope.names.lookup x == some .cell, pn := [], xe := fun _ _ => False }
section
variable {X : Cx} {pins : List (Addr × Obj)} {σ : St} {H : Hp} {s : Shared}
theorem block_start {scope : Scope} {own : List (Str × Nat)} {fp : List Addr} (I : Inv X pins σ H s) (ok : BlkOk X.N X.env.scope scope own) (hN : X.N.Nodup) (hfp : ∀ b ∈ fp, FpOk X pins H b ∧ b < s.heap.objs.size) :
    Inv (X.blk s H scope (compEnvC scope (cellsFrom (s.heap.objs.size + 1) scope.names (cloFrom X.env.cells scope.names [])) s.heap.objs.size X.env) fp) [] (wipe σ (own.map (·.2))) H { s with heap := pushCells (s.heap.push { cls := .type "dict", data := .dict #[] }) scope.names } := by
  have hfree : ∀ y ∈ scope.names, y.2 = .free → ∃ c, X.env.cells.lookup y.1 = some c := fun y hy e => by
    rcases ok.free y hy e with k | k
    · exact I.ok.has _ (.inl k)
    · exact I.ok.has _ (.inr k)
  generalize hcenv : compEnvC scope (cellsFrom (s.heap.objs.size + 1) scope.names (cloFrom X.env.cells scope.names [])) s.heap.objs.size X.env = cenv
  have kp : ∀ b o, s.heap.get? b = some o → (pushCells (s.heap.push { cls := .type "dict", data := .dict #[] }) scope.names).get? b = some o := fun b o e => pushCells_keeps _ _ _ _ (Heap.get?_push_of_some _ e)
  have hL : cenv.locals = s.heap.objs.size := by rw [← hcenv]; rfl
  have hcl : cenv.cells = cellsFrom (s.heap.objs.size + 1) scope.names (cloFrom X.env.cells scope.names []) := by rw [← hcenv]; rfl
  have hsc : cenv.scope = relS scope X.env.scope := by rw [← hcenv]; rfl
  rw [← Heap.size_push s.heap { cls := .type "dict", data := .dict #[] }] at hcl
  have cm : ∀ {y c}, (y, c) ∈ cloFrom X.env.cells scope.names [] → X.env.cells.lookup y = some c ∧ c < s.heap.objs.size := fun {y c} hm => by
    rcases cloFrom_mem hm with hm | ⟨h1, rfl⟩
    · cases hm
    · obtain ⟨c, hc⟩ := hfree _ h1 rfl
      rw [hc]
      obtain ⟨w, z⟩ := I.cell _ _ hc
      exact ⟨rfl, z.lt⟩
  have mem : ∀ {y c}, cenv.cells.lookup y = some c → (X.env.cells.lookup y = some c ∧ c < s.heap.objs.size) ∨ (s.heap.objs.size + 1 ≤ c ∧ CellAt (pushCells (s.heap.push { cls := .type "dict", data := .dict #[] }) scope.names) c none) := fun {y c} e => by
    rw [hcl] at e
    rcases cells_mem (PySem.mem_of_lookup e) with hm | ⟨_, h2, h3⟩
    · exact .inl (cm hm)
    · rw [Heap.size_push] at h2; exact .inr ⟨h2, h3⟩
  have look : ∀ {y}, scope.names.lookup y = some .free → ∃ c, cenv.cells.lookup y = some c ∧ X.env.cells.lookup y = some c := fun {y} hl => by
    have hy : (y, NameKind.free) ∈ scope.names := PySem.mem_of_lookup hl
    obtain ⟨c', e'⟩ := mem_lookup (cells_acc (names := scope.names) (n := (s.heap.push { cls := .type "dict", data := .dict #[] }).objs.size) (cloFrom_has (cells := X.env.cells) (acc := []) hy))
    rw [← hcl] at e'
    refine ⟨c', e', ?_⟩
    rw [hcl] at e'
    rcases cells_mem (PySem.mem_of_lookup e') with hm | ⟨h1, _, _⟩
    · exact (cm hm).1
    · have := ok.uniq _ h1
      rw [hl] at this; cases this
  have okB : (X.blk s H scope cenv fp).Ok := by
    refine ⟨I.ok.mod, by show cenv.scope.kind = _; rw [hsc]; exact ok.kind, by show cenv.globals = _; rw [← hcenv]; exact I.ok.glob, by show cenv.builtins = _; rw [← hcenv]; exact I.ok.blt, by show s.heap.objs.size ≤ cenv.locals; rw [hL]; exact Nat.le_refl _,
      fun y z c e1 e2 => ?_, fun y hy => ?_, fun y c z e => ?_, I.ok.hd, I.ok.frames, .inl rfl, fun b hb => ⟨?_, fun y c e z => ?_⟩, I.bs, Nat.le_trans I.ok.bsz I.sz, fun b o e hb => ?_, fun b hb z => ?_, I.stack, I.stkFree⟩
    · have e1 : cenv.cells.lookup y = some c := e1
      have e2 : cenv.cells.lookup z = some c := e2
      rw [hcl] at e1 e2
      refine cells_inj (fun p hp => ?_) (fun y z c a b => I.ok.inj y z c (cm a).1 (cm b).1) (PySem.mem_of_lookup e1) (PySem.mem_of_lookup e2)
      rw [Heap.size_push]
      exact Nat.lt_succ_of_lt (cm (y := p.1) (c := p.2) hp).2
    · show ∃ c, cenv.cells.lookup y = some c
      have key : ∀ k, cenv.kindOf y = some k → (k = .cell ∨ k = .free) → ∃ c, cenv.cells.lookup y = some c := fun k hk hk' => by
        unfold Env.kindOf at hk
        rw [hsc] at hk
        obtain ⟨k', e, r⟩ := lookup_relS hk
        have : k' = .cell ∨ k' = .free := by
          rcases r with rfl | ⟨rfl, _⟩
          · exact hk'
          · exact .inr rfl
        rcases this with rfl | rfl
        · obtain ⟨c, hm⟩ := cells_has (n := (s.heap.push { cls := .type "dict", data := .dict #[] }).objs.size) (acc := cloFrom X.env.cells scope.names []) (PySem.mem_of_lookup e)
          obtain ⟨c', e'⟩ := mem_lookup hm
          exact ⟨c', by rw [hcl]; exact e'⟩
        · obtain ⟨c, h1, _⟩ := look e
          exact ⟨c, h1⟩
      rcases hy with hy | hy
      · exact key _ hy (.inl rfl)
      · exact key _ hy (.inr rfl)
    · have z : (scope.names.lookup y == some NameKind.cell) = true := z
      have z : scope.names.lookup y = some .cell := by simpa using z
      have e : cenv.cells.lookup y = some c := e
      rw [hcl] at e
      rcases cells_mem (PySem.mem_of_lookup e) with hm | ⟨_, h2, _⟩
      · rcases cloFrom_mem hm with hm | ⟨h1, _⟩
        · cases hm
        · have q := ok.uniq _ h1
          rw [z] at q; cases q
      · rw [Heap.size_push] at h2
        exact Nat.le_of_succ_le h2
    · show b ≠ cenv.locals
      rw [hL]; exact Nat.ne_of_lt (hfp b hb).2
    · have e : cenv.cells.lookup y = some c := e
      rcases mem e with ⟨h1, _⟩ | ⟨h1, _⟩
      · exact (hfp b hb).1.2.2.2.2.1 y c h1 z
      · have h2 : s.heap.objs.size + 1 ≤ b := by rw [← z]; exact h1
        exact absurd (Nat.lt_of_lt_of_le (hfp b hb).2 (Nat.le_of_succ_le h2)) (Nat.lt_irrefl _)
    · rcases (hfp b hb).1.2.2.2.1 with z | z
      · exact I.ok.noex b o e z
      · exact absurd (Nat.lt_of_lt_of_le (Heap.lt_size e) (Nat.le_trans I.ok.bsz z)) (Nat.lt_irrefl _)
    · rcases List.mem_cons.mp (I.stkSub b z) with z | z
      · exact (hfp b hb).1.2.1 z
      · exact (hfp b hb).1.2.2.1 z
  refine ⟨okB, rfl, I.bare, Un.kept kp, ⟨fun _ => none, ?_, fun i y av e1 e2 e3 => ?_⟩, fun y c e => ?_, ?_, fun y c e => ?_, fun p hp => ?_, I.hok.kept kp, by rw [wipe_length]; exact I.len⟩
  · show Heap.Ns _ cenv.locals _
    rw [hL]
    exact Heap.Ns.keeps (Heap.Ns.new ..) fun b o e => pushCells_keeps _ _ _ _ e
  · obtain ⟨e2, hne⟩ := wipe_some e2
    have hfr : scope.names.lookup y = some .free ∧ (cenv.kindOf y = some .cell ∨ cenv.kindOf y = some .free) := by
      have key : ∀ k, cenv.scope.names.lookup y = some k → k = .local ∨ k = .cell ∨ k = .free → scope.names.lookup y = some .free ∧ (cenv.kindOf y = some .cell ∨ cenv.kindOf y = some .free) := fun k hk hk' => by
        have hk0 := hk
        rw [hsc] at hk
        obtain ⟨k', e, r⟩ := lookup_relS hk
        have no : ¬ (k' = .local ∨ k' = .cell) := fun hh => by
          rcases ok.own _ (PySem.mem_of_lookup e) hh with e' | e'
          · obtain ⟨p, hp, hpy⟩ := List.mem_map.mp e'
            have e3 := ok.ix p hp
            have : p.1 = y := hpy
            rw [this] at e3
            exact hne (List.mem_map.mpr ⟨p, hp, nodup_ix hN e3 e1⟩)
          · exact e' (List.mem_of_getElem? e1)
        rcases r with rfl | ⟨rfl, rfl⟩
        · rcases hk' with rfl | rfl | rfl
          · exact absurd (.inl rfl) no
          · exact absurd (.inr rfl) no
          · exact ⟨e, .inr hk0⟩
        · exact ⟨e, .inl hk0⟩
      have e3 : Vis cenv.scope y := e3
      rcases e3 with e3 | e3 | e3
      · exact key _ e3 (.inl rfl)
      · exact key _ e3 (.inr (.inl rfl))
      · exact key _ e3 (.inr (.inr rfl))
    obtain ⟨m, hn, hl⟩ := I.loc
    have hvis : Vis X.env.scope y := (ok.free _ (PySem.mem_of_lookup hfr.1) rfl).elim (fun k => .inr (.inl k)) (fun k => .inr (.inr k))
    obtain ⟨w, r, q⟩ := hl i y av e1 e2 hvis
    refine ⟨w, r, .inr ⟨hfr.2, ?_⟩⟩
    obtain ⟨c, h1, h2⟩ := look hfr.1
    rcases q with ⟨k, _⟩ | ⟨_, c', e', z⟩
    · have k : X.env.scope.names.lookup y = some .local := k
      rcases ok.free _ (PySem.mem_of_lookup hfr.1) rfl with k' | k' <;> rw [show X.env.scope.names.lookup y = _ from k'] at k <;> cases k
    · rw [h2] at e'; cases e'
      exact ⟨c, h1, z.keeps kp⟩
  · have e : cenv.cells.lookup y = some c := e
    rcases mem e with ⟨h1, _⟩ | ⟨_, z⟩
    · obtain ⟨w, z⟩ := I.cell y c h1
      exact ⟨w, z.keeps kp⟩
    · exact ⟨_, z⟩
  · show H cenv.locals = none
    rw [hL]; exact I.hok.fresh (Nat.le_refl _)
  · have e : cenv.cells.lookup y = some c := e
    rcases mem e with ⟨h1, _⟩ | ⟨h1, _⟩
    · exact I.freeC y c h1
    · exact I.hok.fresh (Nat.le_of_succ_le h1)
  · exact absurd (show p ∈ ([] : List (Addr × Obj)) ++ [] from hp) (by simp)

/-- an item appended to a tracked list -/
theorem app_ok {E : Value → Shared → Prop} {D : Addr} {xs : List V} {y : V} {v : Value} {Q : Value → Shared → Prop} (I : Inv X pins σ H s) (hD : H D = some (.lst xs)) (hz : xs.length < sizeLine) (r : RelV y v)
    (h : ∀ s', Inv X pins σ (upd H D (.lst (xs ++ [y]))) s' → Q .none s') : wpAny (model X.prog X.w) X.A (call (.builtin "list.append") [.ref D, v]) Q E s := by
  obtain ⟨hz', its, n, ri, e⟩ := I.hok D _ hD
  have hl := ri.length
  refine append_at (hsz := by rw [List.size_toArray]; omega) e fun h' sb ho' => ?_
  refine h { s with heap := h' } (I.write (t' := s.toks) (by rw [hD]; trivial) (.inl rfl) (fun b u hb q => (sb.2 b hb).trans q) ⟨_, ho'⟩ ⟨by rw [List.length_append]; exact hz, its ++ [v], n + 1, ri.append (.cons r .nil), ?_⟩)
  rw [ho']
  simp

/-- a clause's tests -/
def PTs (X : Cx) (ifs : List Expr) (t : TT) : Prop :=
  ∀ (pins : List (Addr × Obj)) (s : Shared) (σ : St) (H : Hp) (Q : Bool → Hp → Prop), Inv X pins σ H s → t σ H Q →
    wpAny (model X.prog X.w) X.A (forIn ifs true fun c r => if r = true then do let ok ← isTrue c X.env (eval c X.env); pure (ForInStep.yield ok) else pure (ForInStep.yield r)) (TP X pins σ Q) X.xe s
def tYes : TT := fun _ H Q => Q true H
theorem pts_nil : PTs X [] tYes := fun _ _ _ H _ I h => wpAny_tests_nil ⟨H, I, h⟩
theorem pts_one {c : Expr} {t : TT} (h : PT X c t) : PTs X [c] t := fun pins s σ H Q I hw => wpAny_tests_one (h pins s σ H Q I hw)
end

theorem thnF {α : Type} {t : Sem α} {Q Q' : α → Shared → Prop} {M : Model} {A : Around} {E : Value → Shared → Prop} {s : Shared} (h : wpAny M A t Q (fun _ _ => False) s) (hQ : ∀ a s, Q a s → Q' a s) : wpAny M A t Q' E s := wpAny_mono h hQ fun _ _ z => False.elim z

/-- the loop of a list comprehension's block, the target of any form (codeAny_compLoop_tests asks a target that no tuple goes to; statement and proof follow it, PyProof/CompMap.lean:41-61, with the step letOwnedTupleGo kept) -/
theorem compLoop_any {prog : Program} {w : World} {A : Around} {R : Result → Shared → Prop} {s : Shared} {elt target iter : Expr} {ifs : List Expr} {scope : Scope} {pos : Pos} {it acc : Value} {env : Env} (I : Nat → Shared → Prop)
    (turn : ∀ n s, I n s → wpAny (model prog w) A (pyNext it) (fun r s₁ => match r with
      | none => R (.ok .next) s₁
      | some v => wpAny (model prog w) A (letOwnedTupleGo target it v) (fun _ s₁' => wpAny (model prog w) A (assign target env v) (fun _ s₂ =>
          wpAny (model prog w) A (forIn ifs true fun c r => if r = true then do let ok ← isTrue c env (eval c env); pure (ForInStep.yield ok) else pure (ForInStep.yield r)) (fun ok s₃ =>
            if ok = true then wpAny (model prog w) A (eval elt env) (fun x s₄ =>
              wpAny (model prog w) A (call (.builtin "list.append") [acc, x]) (fun _ s₅ => ∃ m, m < n ∧ I m s₅) (notedBy (model prog w) A env fun e s' => R (.error e) s') s₄) (notedBy (model prog w) A env fun e s' => R (.error e) s') s₃
            else ∃ m, m < n ∧ I m s₃) (notedBy (model prog w) A env fun e s' => R (.error e) s') s₂) (notedBy (model prog w) A env fun e s' => R (.error e) s') s₁') (notedBy (model prog w) A env fun e s' => R (.error e) s') s₁) (notedBy (model prog w) A env fun e s' => R (.error e) s') s)
    (n : Nat) (h : I n s) :
    codeAny (model prog w) A (.compLoop (.ListComp elt [⟨target, iter, ifs, 0⟩] scope pos) 0 it acc env) R s := by
  refine codeAny_loop rfl I (fun n s hI => ?_) n h
  show wpAny _ A ((compTurn (.ListComp elt [⟨target, iter, ifs, 0⟩] scope pos) 0 it acc env).onRaise (fun x => do noteFrame x env; theTreesLotGoes x)) _ _ s
  refine wpAny_noted ?_
  rw [compTurn_list]
  refine wpAny_bind (wpAny_standAt (wpAny_bind (wpAny_mono (turn n s hI) (fun r s₁ h₁ => ?_) fun _ _ h' => h')))
  cases r with
  | none => exact wpAny_pure h₁
  | some v =>
    refine wpAny_bind (wpAny_mono h₁ (fun _ s₁' h₁' => ?_) fun _ _ h' => h')
    refine wpAny_bind (wpAny_mono h₁' (fun _ s₂ h₂ => wpAny_bind (wpAny_mono h₂ (fun ok s₃ h₃ => ?_) fun _ _ h' => h')) fun _ _ h' => h')
    cases ok with
    | false => exact wpAny_pure ⟨rfl, h₃⟩
    | true =>
      exact wpAny_bind (wpAny_bind (wpAny_mono h₃ (fun x s₄ h₄ => wpAny_bind (wpAny_mono h₄ (fun _ s₅ h₅ => wpAny_pure (wpAny_pure ⟨rfl, h₅⟩)) fun _ _ h' => h')) fun _ _ h' => h'))

section
variable {X : Cx}
/-- [elt for target in iter if ..]: D the new list; W by the turn and a measure, Nx what a turn is to reach -/
def tLc (wi : TI) (g : TG) (tt : TT) (te : TE) (vs : List Nat) : TE := fun σ H Q => wi σ H fun J H1 => ∀ D, H1 D = none → ∃ W : Nat → Nat → Hp → Prop, (∃ m, W 0 m (upd H1 D (.lst []))) ∧ ∀ i m H, W i m H →
  (J.stop i H ∧ Q (.ref D) H) ∨ (J.go i H ∧ ∃ Nx : Hp → Prop, (∀ H', Nx H' → ∃ m', m' < m ∧ W (i + 1) m' H') ∧ ∀ x H', J.yld i H x H' → g x (wipe σ vs) H' fun σ2 H2 => wipe σ2 vs = wipe σ vs ∧ tt σ2 H2 fun b H3 =>
    if b = true then te σ2 H3 fun y H4 => ∃ acc, H4 D = some (.lst acc) ∧ acc.length < sizeLine ∧ Nx (upd H4 D (.lst (acc ++ [y]))) else Nx H3)
theorem lc_core {pins : List (Addr × Obj)} {s : Shared} {σ : St} {H : Hp} {Q : VK} {elt tg iter : Expr} {ifs : List Expr} {scope : Scope} {own : List (Str × Nat)} {pos pos' : Pos} {wi : TI} {g : TG} {tt : TT} {te : TE} {use : Option (Value → Sem Unit)} {Qf : Value → Shared → Prop}
    (hc : X.calm = true) (hN : X.N.Nodup) (I : Inv X pins σ H s) (hi : PI X tg iter wi) (ok : BlkOk X.N X.env.scope scope own)
    (hg : ∀ (s : Shared) (H : Hp) (C : Addr) (cl : List (Str × Addr)) (fp : List Addr), PG (X.blk s H scope (compEnvC scope cl C X.env) fp) tg g) (ht : ∀ (s : Shared) (H : Hp) (C : Addr) (cl : List (Str × Addr)) (fp : List Addr), PTs (X.blk s H scope (compEnvC scope cl C X.env) fp) ifs tt)
    (he : ∀ (s : Shared) (H : Hp) (C : Addr) (cl : List (Str × Addr)) (fp : List Addr), PE (X.blk s H scope (compEnvC scope cl C X.env) fp) elt te) (hs : ∀ x, foldedSetIterable iter X.env x = pure x)
    (h : tLc wi g tt te (own.map (·.2)) σ H Q)
    (hRR : ∀ D C s' m H', Inv X pins σ H' s' → Q (.ref D) H' → s'.heap.Ns C m → FpOk X pins H' C → compPost (model X.prog X.w) X.A X.xe use Qf (.ref D) C (.ok .next) s') :
    wpAny (model X.prog X.w) X.A (comprehension (.ListComp elt [⟨tg, iter, ifs, 0⟩] scope pos) scope X.env pos' (newList []) false (eval iter X.env) use) Qf X.xe s := by
  have hfree : ∀ y ∈ scope.names, y.2 = .free → ∃ c, X.env.cells.lookup y.1 = some c := fun y hy e => by
    rcases ok.free y hy e with k | k
    · exact I.ok.has _ (.inl k)
    · exact I.ok.has _ (.inr k)
  refine wpAny_comprehension_free (use := use) rfl hs (closure_ok hfree) ok.kind (fun y hy e => by rw [ok.uniq y hy, e])
    (thn (hi pins s σ H _ I h) fun xv s1 hx => thn hx fun itv s2 h2 => ?_)
  obtain ⟨it, fp, tn, J, H2, e, I2, T, st2, f2, q⟩ := h2
  subst e
  refine wpAny_newObj_type (newEnv_comp ?_) (by show 0 ≤ sizeLine; decide)
  generalize hD : s2.heap.objs.size = D
  have hDn : H2 D = none := I2.hok.fresh (Nat.le_of_eq hD)
  obtain ⟨W, ⟨m0, w0⟩, turn⟩ := q D hDn
  -- the new list
  generalize hs3 : ({ s2 with heap := s2.heap.push { cls := .type "list", data := .seq ([] : List Value).toArray } } : Shared) = s3
  have I3 : Inv X pins σ (upd H2 D (.lst [])) s3 := by
    rw [← hs3]
    refine I2.laid (t' := s2.toks) (fun b o e => Heap.get?_push_of_some _ e) (Nat.le_of_eq hD) ⟨Nat.zero_le _, [], 0, .nil, ?_⟩
    rw [← hD]
    exact Heap.get?_push_size _ rfl
  have h3 : s3.heap = s2.heap.push { cls := .type "list", data := .seq ([] : List Value).toArray } := by rw [← hs3]
  have sz : ∀ b ∈ fp, b < s2.heap.objs.size := fun b hb => by
    obtain ⟨o, e, _⟩ := T.obj _ _ st2 b hb
    exact Heap.lt_size e
  have f3 : ∀ b ∈ fp, FpOk X pins (upd H2 D (.lst [])) b ∧ b < s3.heap.objs.size := fun b hb => by
    have hlt := sz b hb
    refine ⟨⟨?_, (f2 b hb).2⟩, by rw [h3, Heap.size_push]; exact Nat.lt_succ_of_lt hlt⟩
    rw [upd_ne (by rw [← hD]; exact Nat.ne_of_lt hlt)]
    exact (f2 b hb).1
  have st3 : tn 0 s3.heap := T.keep _ _ _ st2 fun b _ o e => by rw [h3]; exact Heap.get?_push_of_some _ e
  have I4 := block_start I3 ok hN f3
  have pg := hg s3 (upd H2 D (.lst [])) s3.heap.objs.size (cellsFrom (s3.heap.objs.size + 1) scope.names (cloFrom X.env.cells scope.names [])) fp
  have pt := ht s3 (upd H2 D (.lst [])) s3.heap.objs.size (cellsFrom (s3.heap.objs.size + 1) scope.names (cloFrom X.env.cells scope.names [])) fp
  have pe := he s3 (upd H2 D (.lst [])) s3.heap.objs.size (cellsFrom (s3.heap.objs.size + 1) scope.names (cloFrom X.env.cells scope.names [])) fp
  show codeAny _ _ (.compStart (.ListComp elt [⟨tg, iter, ifs, 0⟩] scope pos) 0 (.ref it) (.ref D) (compEnvC scope (cellsFrom (s3.heap.objs.size + 1) scope.names (cloFrom X.env.cells scope.names [])) s3.heap.objs.size X.env)) (compPost (model X.prog X.w) X.A X.xe use Qf (.ref D) s3.heap.objs.size) { s3 with heap := pushCells (s3.heap.push { cls := .type "dict", data := .dict #[] }) scope.names }
  have nfp : ∀ b ∈ fp, (upd H2 D (.lst [])) b = none := fun b hb => (f3 b hb).1.1
  generalize hce : compEnvC scope (cellsFrom (s3.heap.objs.size + 1) scope.names (cloFrom X.env.cells scope.names [])) s3.heap.objs.size X.env = ce at I4 pg pt pe ⊢
  have cL : ce.locals = s3.heap.objs.size := by subst hce; rfl
  generalize hH3 : upd H2 D (.lst []) = H3 at I3 I4 pg pt pe w0 nfp f3
  generalize hs4 : ({ s3 with heap := pushCells (s3.heap.push { cls := .type "dict", data := .dict #[] }) scope.names } : Shared) = s4 at I4 ⊢
  have st4 : tn 0 s4.heap := T.keep _ _ _ st3 fun b _ o e => by rw [← hs4]; exact pushCells_keeps _ _ _ _ (Heap.get?_push_of_some _ e)
  have stat : ∀ {σ' : St} {H' : Hp} {s' : Shared}, Inv (X.blk s3 H3 scope ce fp) [] σ' H' s' → (∀ b ∈ fp, H' b = none) → ∀ b ∈ fp, FpOk (X.blk s3 H3 scope ce fp) [] H' b := fun {σ' H' s'} I' hn b hb =>
    ⟨hn b hb, (I'.ok.exf b hb).1, I'.ok.exfs b hb, .inl hb, fun x c e => (I'.ok.exf b hb).2 x c e, fun p hp => absurd (show p ∈ ([] : List (Addr × Obj)) ++ [] from hp) (by simp)⟩
  have loop : codeAny (model X.prog X.w) X.A (.compLoop (.ListComp elt [⟨tg, iter, ifs, 0⟩] scope pos) 0 (.ref it) (.ref D) ce) (compPost (model X.prog X.w) X.A X.xe use Qf (.ref D) s3.heap.objs.size) s4 := by
    refine compLoop_any (fun n s' => ∃ i H', Inv (X.blk s3 H3 scope ce fp) [] (wipe σ (own.map (·.2))) H' s' ∧ tn i s'.heap ∧ (∀ b ∈ fp, H' b = none) ∧ W i n H') ?_ m0 ⟨0, H3, I4, st4, nfp, w0⟩
    rintro n s5 ⟨i, H5, I5, st5, n5, w5⟩
    rcases turn i n H5 w5 with ⟨stop, qq⟩ | ⟨go, Nx, hNx, step⟩
    · have td := T.done (X.blk s3 H3 scope ce fp) rfl rfl rfl hc i [] s5 _ H5 (fun _ _ => False) I5 (stat I5 n5) st5 stop
      refine thnF td fun r s6 ⟨hr, I6⟩ => ?_
      subst hr
      -- back in the def's context
      have I7 : Inv X pins σ H5 s6 := I3.call' (ch := fp) I6.os I6.base I6.hok I6.bare fun b hb => ⟨(f3 b hb).1.2.2.2.1, (f3 b hb).1.2.1, (f3 b hb).1.2.2.2.2.1, (f3 b hb).1.2.2.2.2.2⟩
      have nC : H5 s3.heap.objs.size = none := by
        have z : H5 ce.locals = none := I6.free
        rw [cL] at z
        exact z
      obtain ⟨m, hn, _⟩ := I6.loc
      have hn : s6.heap.Ns ce.locals m := hn
      rw [cL] at hn
      exact hRR D s3.heap.objs.size s6 m H5 I7 qq hn (I3.fpOk (Nat.le_refl _) nC)
    · have ti := T.item (X.blk s3 H3 scope ce fp) rfl rfl rfl hc i [] s5 _ H5 (fun _ _ => False) I5 (stat I5 n5) st5 go
      refine thnF ti fun r s6 ⟨u, hr, h6⟩ => ?_
      subst hr
      refine thnF h6 fun _ s7 ⟨x, H7, I7, r7, y7, st7, n7⟩ => ?_
      have I7' := I7.pinned (stat I7 n7) (T.obj _ _ st7)
      refine thnF (pg _ s7 _ H7 x u _ I7' r7 (step x H7 y7)) fun _ s8 ⟨σ8, H8, I8, hw8, q8⟩ => ?_
      refine thnF (pt _ s8 σ8 H8 _ I8 q8) fun b s9 ⟨H9, I9, q9⟩ => ?_
      -- the turn's end
      have fin : ∀ {s' : Shared} {H' : Hp}, Inv (X.blk s3 H3 scope ce fp) ([] ++ pinsAt fp s7.heap) σ8 H' s' → Nx H' → ∃ m, m < n ∧ ∃ i H', Inv (X.blk s3 H3 scope ce fp) [] (wipe σ (own.map (·.2))) H' s' ∧ tn i s'.heap ∧ (∀ b ∈ fp, H' b = none) ∧ W i m H' := fun {s' H'} I' nx => by
        obtain ⟨m', hm, w'⟩ := hNx H' nx
        have pin' : ∀ b ∈ fp, ∀ o, s7.heap.get? b = some o → s'.heap.get? b = some o ∧ H' b = none := fun b hb o e =>
          let z := I'.pin (b, o) (List.mem_append_right _ (List.mem_append_right _ (mem_pinsAt hb e)))
          ⟨z.1, z.2.1⟩
        have hl : (wipe σ (own.map (·.2))).length = σ8.length := by rw [← hw8, wipe_length]
        refine ⟨m', hm, i + 1, H', (I'.unpinned (pins := [])).weak hl (fun j v e => ?_), T.keep _ _ _ st7 fun b hb o e => (pin' b hb o e).1, fun b hb => ?_, w'⟩
        · rw [← hw8] at e
          exact (wipe_some e).1
        · obtain ⟨o, e, _⟩ := T.obj _ _ st7 b hb
          exact (pin' b hb o e).2
      cases b with
      | false =>
        simp only [Bool.false_eq_true, if_false] at q9 ⊢
        exact fin I9 q9
      | true =>
        simp only [if_true] at q9 ⊢
        refine thnF (pe _ s9 σ8 H9 _ I9 q9) fun z s10 ⟨yv, H10, I10, r10, acc, hD10, hz10, nx⟩ => ?_
        exact app_ok (X := X.blk s3 H3 scope ce fp) I10 hD10 hz10 r10 fun s11 I11 => fin I11 nx
  exact codeAny_compStart_list loop (T.self X.A 0 _ _ _ st4 loop)
/-- as a value -/
theorem pe_lc {elt tg iter : Expr} {ifs : List Expr} {scope : Scope} {own : List (Str × Nat)} {pos : Pos} {wi : TI} {g : TG} {tt : TT} {te : TE} (hc : X.calm = true) (hN : X.N.Nodup) (hi : PI X tg iter wi) (ok : BlkOk X.N X.env.scope scope own)
    (hg : ∀ (s : Shared) (H : Hp) (C : Addr) (cl : List (Str × Addr)) (fp : List Addr), PG (X.blk s H scope (compEnvC scope cl C X.env) fp) tg g) (ht : ∀ (s : Shared) (H : Hp) (C : Addr) (cl : List (Str × Addr)) (fp : List Addr), PTs (X.blk s H scope (compEnvC scope cl C X.env) fp) ifs tt)
    (he : ∀ (s : Shared) (H : Hp) (C : Addr) (cl : List (Str × Addr)) (fp : List Addr), PE (X.blk s H scope (compEnvC scope cl C X.env) fp) elt te) (hs : ∀ x, foldedSetIterable iter X.env x = pure x := by intro _; rfl) :
    PE X (.ListComp elt [⟨tg, iter, ifs, 0⟩] scope pos) (tLc wi g tt te (own.map (·.2))) := by
  intro pins s σ H Q I h
  rw [eval_ListComp]
  refine lc_core hc hN I hi ok hg ht he hs h fun D C s' m H' I' q hn f => ⟨m, hn, fun h'' sb => ?_⟩
  obtain ⟨f0, f1, f2, f3, f4, f5⟩ := f
  exact ⟨.ref D, H', I'.turned (t' := s'.toks) (fun b o hb e => (sb.2 b hb).trans e) f0 f1 f3 f4 f5, rfl, q⟩
/-- name = [..] on one line, the name a local -/
theorem ps_setLc {i : Nat} {y : Str} {py : Pos} {elt tg iter : Expr} {ifs : List Expr} {scope : Scope} {own : List (Str × Nat)} {pos spos : Pos} {wi : TI} {g : TG} {tt : TT} {te : TE} (hc : X.calm = true) (hN : X.N.Nodup) (hy : X.N[i]? = some y) (hyl : X.env.scope.names.lookup y = some .local)
    (hsw : swapsWith (.ListComp elt [⟨tg, iter, ifs, 0⟩] scope pos) (some (.Name y py)) spos.line X.env = pure true) (hi : PI X tg iter wi) (ok : BlkOk X.N X.env.scope scope own)
    (hg : ∀ (s : Shared) (H : Hp) (C : Addr) (cl : List (Str × Addr)) (fp : List Addr), PG (X.blk s H scope (compEnvC scope cl C X.env) fp) tg g) (ht : ∀ (s : Shared) (H : Hp) (C : Addr) (cl : List (Str × Addr)) (fp : List Addr), PTs (X.blk s H scope (compEnvC scope cl C X.env) fp) ifs tt)
    (he : ∀ (s : Shared) (H : Hp) (C : Addr) (cl : List (Str × Addr)) (fp : List Addr), PE (X.blk s H scope (compEnvC scope cl C X.env) fp) elt te) (hs : ∀ x, foldedSetIterable iter X.env x = pure x := by intro _; rfl) :
    PS X (.Assign [.Name y py] (.ListComp elt [⟨tg, iter, ifs, 0⟩] scope pos) spos) (tAsg (tLc wi g tt te (own.map (·.2))) (gName i)) := by
  intro pins s σ H D I h
  rw [exec_Assign_Name_used _ _ _ _ hsw]
  refine wpAny_bind (wpAny_standAt (wpAny_bind ?_))
  show wpAny _ X.A (do let _ ← comprehension (.ListComp elt [⟨tg, iter, ifs, 0⟩] scope pos) scope X.env (firstIterPos [⟨tg, iter, ifs, 0⟩] pos) (newList []) false (eval iter X.env) (some (assign (.Name y py) X.env))) _ _ s
  have h : tLc wi g tt te (own.map (·.2)) σ H (fun x H1 => gName i x σ H1 D.nx) := h
  refine wpAny_bind (thn (lc_core (Qf := fun _ s' => SP X pins D .next s') hc hN I hi ok hg ht he hs h fun L C s' m H' I' q hn f => ?_) fun _ s' hq => wpAny_pure (wpAny_pure hq))
  show wpAny _ _ (assign (.Name y py) X.env (.ref L)) _ _ _
  refine wpAny_assign_Name (store_ok2 (v := V.ref L) I' hN hy (.inl hyl) rfl (fun s2 I2 ⟨a, sb, ha⟩ => ?_) (.inr hyl))
  obtain ⟨f0, f1, f2, f3, f4, f5⟩ := f
  have haC : C ≠ a := by
    rcases ha with z | z
    · rw [z]; exact f1
    · exact fun e => f4 y a z e.symm
  refine ⟨m, hn.sameBut sb haC, fun h3 sb3 => ?_⟩
  exact ⟨_, H', I2.turned (t' := s2.toks) (fun b o hb e => (sb3.2 b hb).trans e) f0 f1 f3 f4 f5, q⟩
theorem sw_true {elt : Expr} {gs : List Comprehension} {scope : Scope} {pos py : Pos} {y : Str} {l : Nat} {env : Env} (hk : env.scope.kind = .function) (hy : env.scope.names.lookup y = some .local) (hl : (py.line == pos.line) = true)
    (ha : (scope.names.any fun (n, k) => n == y && (k == .local || k == .cell)) = false) : swapsWith (.ListComp elt gs scope pos) (some (.Name y py)) l env = pure true := by
  have ky : env.kindOf y = some .local := hy
  have hb : env.blockKind = .function := by unfold Env.blockKind; rw [hk]; rfl
  unfold swapsWith
  simp only [hb, ky, ha, Expr.pos, hl]
  rfl
end

/-! ### the forms one uses -/
/-- over a range: Pv by the turn and the heap (the new list at D within) -/
theorem lc_range {lo : Int} {n : Nat} {g : TG} {tt : TT} {te : TE} {vs : List Nat} {σ : St} {H1 : Hp} {D : Addr} {Qd : Hp → Prop} (Pv : Nat → Hp → Prop) (h0 : Pv 0 (upd H1 D (.lst [])))
    (hs : ∀ i H, i < n → Pv i H → g (.int (lo + i)) (wipe σ vs) H fun σ2 H2 => wipe σ2 vs = wipe σ vs ∧ tt σ2 H2 fun b H3 =>
      if b = true then te σ2 H3 fun y H4 => ∃ acc, H4 D = some (.lst acc) ∧ acc.length < sizeLine ∧ Pv (i + 1) (upd H4 D (.lst (acc ++ [y]))) else Pv (i + 1) H3) (hd : ∀ H, Pv n H → Qd H) :
    ∃ W : Nat → Nat → Hp → Prop, (∃ m, W 0 m (upd H1 D (.lst []))) ∧ ∀ i m H, W i m H →
      ((Itr lo n).stop i H ∧ Qd H) ∨ ((Itr lo n).go i H ∧ ∃ Nx : Hp → Prop, (∀ H', Nx H' → ∃ m', m' < m ∧ W (i + 1) m' H') ∧ ∀ x H', (Itr lo n).yld i H x H' → g x (wipe σ vs) H' fun σ2 H2 => wipe σ2 vs = wipe σ vs ∧ tt σ2 H2 fun b H3 =>
        if b = true then te σ2 H3 fun y H4 => ∃ acc, H4 D = some (.lst acc) ∧ acc.length < sizeLine ∧ Nx (upd H4 D (.lst (acc ++ [y]))) else Nx H3) := by
  refine ⟨fun i m H => m = n - i ∧ i ≤ n ∧ Pv i H, ⟨n, by simp, Nat.zero_le _, h0⟩, ?_⟩
  rintro i m H ⟨rfl, hi, p⟩
  by_cases hlt : i < n
  · refine .inr ⟨hlt, Pv (i + 1), fun H' p' => ⟨n - (i + 1), by omega, rfl, hlt, p'⟩, fun x H' y => ?_⟩
    obtain ⟨e, y⟩ := y
    subst e y
    exact hs i _ hlt p
  · have e : i = n := by omega
    subst e
    exact .inl ⟨Nat.le_refl _, hd H p⟩
/-- over a list that the block leaves as it is -/
theorem lc_list {K : PySem.W.Frag} {a : Addr} {xs : List V} {g : TG} {tt : TT} {te : TE} {vs : List Nat} {σ : St} {H1 : Hp} {D : Addr} {Qd : Hp → Prop} (Pv : Nat → Hp → Prop) (h0 : Pv 0 (upd H1 D (.lst []))) (hl : ∀ i H, i ≤ xs.length → Pv i H → SqL K H a xs)
    (hs : ∀ i x H, xs[i]? = some x → Pv i H → g x (wipe σ vs) H fun σ2 H2 => wipe σ2 vs = wipe σ vs ∧ tt σ2 H2 fun b H3 =>
      if b = true then te σ2 H3 fun y H4 => ∃ acc, H4 D = some (.lst acc) ∧ acc.length < sizeLine ∧ Pv (i + 1) (upd H4 D (.lst (acc ++ [y]))) else Pv (i + 1) H3) (hd : ∀ H, Pv xs.length H → Qd H) :
    ∃ W : Nat → Nat → Hp → Prop, (∃ m, W 0 m (upd H1 D (.lst []))) ∧ ∀ i m H, W i m H →
      ((Itl K a).stop i H ∧ Qd H) ∨ ((Itl K a).go i H ∧ ∃ Nx : Hp → Prop, (∀ H', Nx H' → ∃ m', m' < m ∧ W (i + 1) m' H') ∧ ∀ x H', (Itl K a).yld i H x H' → g x (wipe σ vs) H' fun σ2 H2 => wipe σ2 vs = wipe σ vs ∧ tt σ2 H2 fun b H3 =>
        if b = true then te σ2 H3 fun y H4 => ∃ acc, H4 D = some (.lst acc) ∧ acc.length < sizeLine ∧ Nx (upd H4 D (.lst (acc ++ [y]))) else Nx H3) := by
  refine ⟨fun i m H => m = xs.length - i ∧ i ≤ xs.length ∧ Pv i H, ⟨xs.length, by simp, Nat.zero_le _, h0⟩, ?_⟩
  rintro i m H ⟨rfl, hi, p⟩
  have q := hl i H hi p
  by_cases hlt : i < xs.length
  · refine .inr ⟨⟨xs, xs[i], q, by simp [hlt]⟩, Pv (i + 1), fun H' p' => ⟨xs.length - (i + 1), by omega, rfl, hlt, p'⟩, fun x H' y => ?_⟩
    obtain ⟨e, y⟩ := y
    subst e
    exact hs i x _ (y xs q) p
  · have e : i = xs.length := by omega
    subst e
    exact .inl ⟨⟨xs, q, Nat.le_refl _⟩, hd H p⟩

def blkC (N : List Str) (sc scope : Scope) (own : List (Str × Nat)) : Bool :=
  (match scope.kind with | .function => true | _ => false) && (scope.names.all fun y => decide (scope.names.lookup y.1 = some y.2)) && (own.all fun p => decide (N[p.2]? = some p.1)) &&
    (scope.names.all fun y => match y.2 with
      | .free => (match sc.names.lookup y.1 with | some .cell => true | some .free => true | _ => false)
      | .local => decide (y.1 ∈ own.map (·.1)) || decide (y.1 ∉ N)
      | .cell => decide (y.1 ∈ own.map (·.1)) || decide (y.1 ∉ N)
      | _ => true)
theorem blkOk_by {N : List Str} {sc scope : Scope} {own : List (Str × Nat)} (h : blkC N sc scope own = true) : BlkOk N sc scope own := by
  unfold blkC at h
  simp only [Bool.and_eq_true, List.all_eq_true, decide_eq_true_eq] at h
  obtain ⟨⟨⟨h1, h2⟩, h3⟩, h4⟩ := h
  refine ⟨?_, h2, h3, fun y hy e => ?_, fun y hy e => ?_⟩
  · split at h1
    · assumption
    · cases h1
  · have q := h4 y hy
    simp only [e] at q
    split at q <;> first | exact .inl (by assumption) | exact .inr (by assumption) | cases q
  · have q := h4 y hy
    rcases e with e | e <;> (simp only [e, Bool.or_eq_true, decide_eq_true_eq] at q; exact q)
end L2

namespace L2
open PySem PySem.Spec PyProof.Rows

section
variable {prog : Program} {w : World} {A : Around} {R : Result → Shared → Prop} {s : Shared} {elt t0 i0 t1 i1 : Expr} {ifs0 ifs1 : List Expr} {scope : Scope} {pos : Pos} {it acc : Value} {env : Env}

end

section
variable {X : Cx}

end
end L2

namespace L2
open PySem PySem.Spec PyProof.Rows

/-! ### lists of pairs as tables -/
section
variable {κ : Type} [DecidableEq κ]
def valV (kvs : List (κ × V)) (k : κ) : Option V := (kvs.find? fun kv => decide (kv.1 = k)).map (·.2)
/-- in its place, or at the end -/
def putK (kvs : List (κ × V)) (k : κ) (v : V) : List (κ × V) :=
  if (kvs.any fun kv => decide (kv.1 = k)) = true then kvs.map (fun kv => if kv.1 = k then (kv.1, v) else kv) else kvs ++ [(k, v)]

theorem valV_pos {p : κ × V} {r : List (κ × V)} {k : κ} (e : p.1 = k) : valV (p :: r) k = some p.2 := by simp [valV, List.find?_cons, e]
theorem valV_neg {p : κ × V} {r : List (κ × V)} {k : κ} (e : ¬ p.1 = k) : valV (p :: r) k = valV r k := by simp [valV, List.find?_cons, e]
theorem valV_any (k : κ) : ∀ kvs : List (κ × V), (kvs.any fun kv => decide (kv.1 = k)) = (valV kvs k).isSome
  | [] => rfl
  | p :: r => by
    rw [List.any_cons]
    by_cases e : p.1 = k
    · simp only [valV_pos e, decide_eq_true e, Bool.true_or, Option.isSome_some]
    · rw [valV_neg e, decide_eq_false e, Bool.false_or]; exact valV_any k r

theorem length_putK (kvs : List (κ × V)) (k : κ) (v : V) : (putK kvs k v).length ≤ kvs.length + 1 := by
  unfold putK
  split
  · rw [List.length_map]; omega
  · rw [List.length_append, List.length_cons, List.length_nil]; omega
theorem putK_new {kvs : List (κ × V)} {k : κ} (v : V) (h : valV kvs k = none) : putK kvs k v = kvs ++ [(k, v)] := by
  unfold putK
  rw [valV_any, h]
  exact if_neg (by decide)

theorem RelO.isSome_eq {o : Option V} {u : Option Value} (r : RelO o u) : o.isSome = u.isSome := by
  cases o with
  | none => cases u with
    | none => rfl
    | some _ => exact (show False from r).elim
  | some _ => cases u with
    | none => exact (show False from r).elim
    | some _ => rfl
theorem RelO.getD {o : Option V} {u : Option Value} {d : V} {d' : Value} (r : RelO o u) (rd : RelV d d') : RelV (o.getD d) (u.getD d') := by
  cases o with
  | none => cases u with
    | none => exact rd
    | some _ => exact (show False from r).elim
  | some _ => cases u with
    | none => exact (show False from r).elim
    | some _ => exact r

/-- raw tables of the same keys -/
theorem KV.val {kvs : List (κ × V)} {vs : List (κ × Value)} (r : KV kvs vs) (k : κ) : RelO (valV kvs k) (valueAt vs k) := by
  unfold KV at r
  induction r with
  | nil => exact True.intro
  | @cons p q ps qs h t ih =>
    obtain ⟨h1, h2⟩ := h
    by_cases e : p.1 = k
    · have e' : q.1 = k := h1.symm.trans e
      have b : valueAt (q :: qs) k = some q.2 := by simp [valueAt, List.find?_cons, e']
      rw [valV_pos e, b]; exact h2
    · have e' : ¬ q.1 = k := fun z => e (h1.trans z)
      have b : valueAt (q :: qs) k = valueAt qs k := by simp [valueAt, List.find?_cons, e']
      rw [valV_neg e, b]; exact ih
theorem KV.any {kvs : List (κ × V)} {vs : List (κ × Value)} (r : KV kvs vs) (k : κ) : (kvs.any fun kv => decide (kv.1 = k)) = vs.any fun kv => decide (kv.1 = k) := by
  unfold KV at r
  induction r with
  | nil => rfl
  | cons h t ih => rw [List.any_cons, List.any_cons, ih, h.1]
theorem KV.repl {kvs : List (κ × V)} {vs : List (κ × Value)} (r : KV kvs vs) (k : κ) {y : V} {u : Value} (ry : RelV y u) :
    KV (kvs.map fun kv => if kv.1 = k then (kv.1, y) else kv) (vs.map fun kv => if kv.1 = k then (kv.1, u) else kv) := by
  unfold KV at r ⊢
  induction r with
  | nil => exact .nil
  | @cons p q ps qs h t ih =>
    rw [List.map_cons, List.map_cons]
    refine .cons ?_ ih
    obtain ⟨h1, h2⟩ := h
    by_cases e : p.1 = k
    · rw [if_pos e, if_pos (h1.symm.trans e)]; exact ⟨h1, ry⟩
    · rw [if_neg e, if_neg (fun z => e (h1.trans z))]; exact ⟨h1, h2⟩
theorem KV.put {kvs : List (κ × V)} {vs : List (κ × Value)} (r : KV kvs vs) (k : κ) {y : V} {u : Value} (ry : RelV y u) : KV (putK kvs k y) (stored vs k u) := by
  unfold putK stored
  rw [r.any k]
  by_cases e : (vs.any fun kv => decide (kv.1 = k)) = true
  · rw [if_pos e, if_pos e]; exact r.repl k ry
  · rw [if_neg e, if_neg e]; exact Paired.snoc r ⟨rfl, ry⟩

theorem KV.length {kvs : List (κ × V)} {vs : List (κ × Value)} (r : KV kvs vs) : kvs.length = vs.length := Paired.length r

end

/-! ### a tracked dict, its keys ints and texts or tuples of these -/
theorem kV_is {P : Program} {w : World} {k : Key} {u : Value} (r : RelV (kV k) u) : (mixKind P w).is k u = true := by
  cases k with
  | inl i => obtain ⟨t, e⟩ := (show ∃ t, u = Value.int i t from r); subst e; exact mixKind_int P w i t
  | inr x => obtain ⟨t, e⟩ := (show ∃ t, u = Value.str x t from r); subst e; exact mixKind_str P w x t

theorem items_are {P : Program} {w : World} : ∀ {ks : List Key} {us : List Value}, Vals (ks.map kV) us → ItemsAre (mixKind P w) ks us
  | [], _, r => by rw [List.map_nil] at r; cases r; exact .nil
  | k :: ks, _, r => by
    rw [List.map_cons] at r
    cases r with
    | cons h t => exact .cons (kV_is h) (items_are t)

/-- raw entries of a dict with tuple keys -/
abbrev KT (H : Hp) : List (List Key × V) → List (List Key × Addr × Value) → Prop := Paired fun p q => p.1 = q.1 ∧ H q.2.1 = some (.tup (p.1.map kV)) ∧ RelV p.2 q.2.2
theorem KT.val {H : Hp} {kvs : List (List Key × V)} {xs : List (List Key × Addr × Value)} (r : KT H kvs xs) (k : List Key) : RelO (valV kvs k) ((atKey xs k).map (·.2)) := by
  induction r with
  | nil => exact True.intro
  | @cons p q ps qs h t ih =>
    obtain ⟨h1, _, h2⟩ := h
    by_cases e : p.1 = k
    · have e' : q.1 = k := h1.symm.trans e
      have b : atKey (q :: qs) k = some q.2 := by simp [atKey, List.find?_cons, e']
      rw [valV_pos e, b]; exact h2
    · have e' : ¬ q.1 = k := fun z => e (h1.trans z)
      have b : atKey (q :: qs) k = atKey qs k := by simp [atKey, List.find?_cons, e']
      rw [valV_neg e, b]; exact ih
theorem KT.repl {H : Hp} {kvs : List (List Key × V)} {xs : List (List Key × Addr × Value)} (r : KT H kvs xs) (k : List Key) {y : V} {u : Value} (ry : RelV y u) :
    KT H (kvs.map fun kv => if kv.1 = k then (kv.1, y) else kv) (xs.map (putAt k u)) := by
  induction r with
  | nil => exact .nil
  | @cons p q ps qs h t ih =>
    rw [List.map_cons, List.map_cons]
    refine .cons ?_ ih
    obtain ⟨h1, h2, h3⟩ := h
    unfold putAt
    by_cases e : p.1 = k
    · rw [if_pos e, if_pos (h1.symm.trans e)]; exact ⟨h1, h2, ry⟩
    · rw [if_neg e, if_neg (fun z => e (h1.trans z))]; exact ⟨h1, h2, h3⟩
theorem KT.put {H : Hp} {kvs : List (List Key × V)} {xs : List (List Key × Addr × Value)} (r : KT H kvs xs) (k : List Key) {b : Addr} {y : V} {u : Value} (hb : H b = some (.tup (k.map kV))) (ry : RelV y u) :
    KT H (putK kvs k y) (storedH xs k b u) := by
  have e : (kvs.any fun kv => decide (kv.1 = k)) = (atKey xs k).isSome := by
    rw [valV_any, (r.val k).isSome_eq, Option.isSome_map]
  unfold putK storedH
  rw [e]
  by_cases q : (atKey xs k).isSome = true
  · rw [if_pos q, if_pos q]; exact r.repl k ry
  · rw [if_neg q, if_neg q]; exact Paired.snoc r ⟨rfl, hb, ry⟩
theorem KT.keeps {H H' : Hp} {kvs : List (List Key × V)} {xs : List (List Key × Addr × Value)} (r : KT H kvs xs) (ht : ∀ b ys, H b = some (.tup ys) → H' b = some (.tup ys)) : KT H' kvs xs :=
  Paired.mapP r fun _ _ z => ⟨z.1, ht _ _ z.2.1, z.2.2⟩

section
variable {P : Program} {w : World} {H : Hp} {h : Heap} {a : Addr}
theorem rd_of {u : HO} (ok : HOk P w H h) (e : Rd H a u) : ObjOk P w H h a u := e.ok ok
theorem dk_rd {kvs : List (Key × V)} (ok : HOk P w H h) (e : Rd H a (.dK kvs)) : kvs.length ≤ sizeLine ∧ (a == sysModules) = false ∧ ∃ vs, KV kvs vs ∧ h.DictOf (mixKind P w) a vs :=
  show ObjOk P w H h a (.dK kvs) from rd_of ok e
theorem dk_of {kvs : List (Key × V)} (ok : HOk P w H h) (e : H a = some (.dK kvs)) : kvs.length ≤ sizeLine ∧ (a == sysModules) = false ∧ ∃ vs, KV kvs vs ∧ h.DictOf (mixKind P w) a vs := dk_rd ok (.inl e)
/-- a tracked tuple of ints and texts is a key -/
theorem key_of {ks : List Key} (ok : HOk P w H h) (e : H a = some (.tup (ks.map kV))) : (tupleKind (mixKind P w)).is h ks a := by
  obtain ⟨_, its, r, o, h1, h2, n, h3⟩ := (show ObjOk P w H h a (.tup (ks.map kV)) from ok a _ e)
  exact ⟨o, its.toArray, n, h1, h2, h3, by simpa using items_are r⟩
theorem dt_rd {kvs : List (List Key × V)} (ok : HOk P w H h) (e : Rd H a (.dT kvs)) : kvs.length ≤ sizeLine ∧ (a == sysModules) = false ∧
    ∃ xs, KT H kvs xs ∧ h.DictOfH (tupleKind (mixKind P w)) a xs := by
  obtain ⟨z, y, xs, r, o, es, ep, h1, h2, h3, h4, h5⟩ := (show ObjOk P w H h a (.dT kvs) from rd_of ok e)
  refine ⟨z, y, xs, r, o, es, ep, h1, h2, h3, h4, fun x hx => ?_, h5⟩
  have all : ∀ {l : List (List Key × V)} {m : List (List Key × Addr × Value)}, KT H l m → ∀ x ∈ m, (tupleKind (mixKind P w)).is h x.1 x.2.1 := by
    intro l m q
    induction q with
    | nil => intro x hx; exact nomatch hx
    | @cons p q ps qs hq t ih =>
      intro x hx
      rcases List.mem_cons.mp hx with e | hx
      · subst e
        exact key_of ok (by rw [← hq.1]; exact hq.2.1)
      · exact ih x hx
  exact all r x hx
theorem dt_of {kvs : List (List Key × V)} (ok : HOk P w H h) (e : H a = some (.dT kvs)) : kvs.length ≤ sizeLine ∧ (a == sysModules) = false ∧
    ∃ xs, KT H kvs xs ∧ h.DictOfH (tupleKind (mixKind P w)) a xs := dt_rd ok (.inl e)
end

/-- what the dict at a holds at the key y -/
def DGet (H : Hp) (a : Addr) (y : V) (r : Option V) : Prop :=
  (∃ kvs k, Rd H a (.dK kvs) ∧ y = kV k ∧ r = valV kvs k) ∨ ∃ kvs k b, Rd H a (.dT kvs) ∧ y = .ref b ∧ H b = some (.tup (k.map kV)) ∧ r = valV kvs k
/-- the heap behind a[y] = v -/
def DPut (H : Hp) (a : Addr) (y v : V) (H' : Hp) : Prop :=
  (∃ kvs k, H a = some (.dK kvs) ∧ y = kV k ∧ kvs.length < sizeLine ∧ H' = upd H a (.dK (putK kvs k v))) ∨
  ∃ kvs k b, H a = some (.dT kvs) ∧ y = .ref b ∧ H b = some (.tup (k.map kV)) ∧ kvs.length < sizeLine ∧ H' = upd H a (.dT (putK kvs k v))

theorem DGet.t {H : Hp} {a b : Addr} {kvs : List (List Key × V)} {k : List Key} (e : H a = some (.dT kvs)) (eb : H b = some (.tup (k.map kV))) : DGet H a (.ref b) (valV kvs k) := .inr ⟨kvs, k, b, .inl e, rfl, eb, rfl⟩

theorem DPut.t {H : Hp} {a b : Addr} {kvs : List (List Key × V)} {k : List Key} {v : V} (e : H a = some (.dT kvs)) (eb : H b = some (.tup (k.map kV))) (hl : kvs.length < sizeLine) :
    DPut H a (.ref b) v (upd H a (.dT (putK kvs k v))) := .inr ⟨kvs, k, b, e, rfl, eb, hl, rfl⟩

section
variable {X : Cx} {pins : List (Addr × Obj)} {σ : St} {H : Hp} {s : Shared} {a : Addr} {y v : V} {u r : Value} {o : Option V} {A : Around} {E : Value → Shared → Prop}

theorem Inv.big (I : Inv X pins σ H s) : sysModules < s.heap.objs.size := by
  have h : mainGlobals < s.heap.objs.size := (I.mod.glob.keeps I.bk).lt
  exact Nat.lt_trans (by decide) h

/-- d[y], there -/
theorem d_getItem {Q : Value → Shared → Prop} (hu : A.units + 1 < cLine) (I : Inv X pins σ H s) (g : DGet H a y (some v)) (ry : RelV y u) (h : ∀ w' s', Inv X pins σ H s' → RelV v w' → Q w' s') :
    wpAny (model X.prog X.w) A (getItem (.ref a) u) Q E s := by
  rcases g with ⟨kvs, k, e, ey, l⟩ | ⟨kvs, k, b, e, ey, eb, l⟩
  · subst ey
    obtain ⟨z, hd, vs, rel, dd⟩ := dk_rd I.hok e
    obtain ⟨w', hw, rw'⟩ := RelO.some_of (v := v) (o := valueAt vs k) (by rw [l]; exact rel.val k)
    exact wpAny_getItem_of (kV_is ry) dd.mapOf hw (h w' _ (I.tok _) rw')
  · subst ey
    cases (show u = Value.ref b from ry)
    obtain ⟨z, hd, xs, rel, dd⟩ := dt_rd I.hok e
    obtain ⟨w', hw, rw'⟩ := RelO.some_of (v := v) (o := (atKey xs k).map (·.2)) (by rw [l]; exact rel.val k)
    obtain ⟨p, hp, hp2⟩ := Option.map_eq_some_iff.mp hw
    refine wpAny_getItem_heap (tupleKind_room_in1 hu) (key_of I.hok eb) dd hp ?_
    rw [hp2]
    exact h w' _ (I.tok _) rw'
/-- y in d -/
theorem d_in {Q : Value → Shared → Prop} (hu : A.units + 1 < cLine) (I : Inv X pins σ H s) (g : DGet H a y o) (ry : RelV y u) (h : ∀ s', Inv X pins σ H s' → Q (.bool o.isSome) s') :
    wpAny (model X.prog X.w) A (compareOp .In u (.ref a)) Q E s := by
  rcases g with ⟨kvs, k, e, ey, l⟩ | ⟨kvs, k, b, e, ey, eb, l⟩
  · subst ey
    obtain ⟨z, hd, vs, rel, dd⟩ := dk_rd I.hok e
    refine wpAny_in_of (kV_is ry) hd dd.mapOf ?_
    rw [← (rel.val k).isSome_eq, ← l]
    exact h _ (I.tok _)
  · subst ey
    cases (show u = Value.ref b from ry)
    obtain ⟨z, hd, xs, rel, dd⟩ := dt_rd I.hok e
    refine wpAny_in_heap (tupleKind_room_in1 hu) (key_of I.hok eb) hd dd ?_
    have q := (rel.val k).isSome_eq
    rw [Option.isSome_map] at q
    rw [← q, ← l]
    exact h _ (I.tok _)
theorem d_notIn {Q : Value → Shared → Prop} (hu : A.units + 1 < cLine) (I : Inv X pins σ H s) (g : DGet H a y o) (ry : RelV y u) (h : ∀ s', Inv X pins σ H s' → Q (.bool (!o.isSome)) s') :
    wpAny (model X.prog X.w) A (compareOp .NotIn u (.ref a)) Q E s := by
  rcases g with ⟨kvs, k, e, ey, l⟩ | ⟨kvs, k, b, e, ey, eb, l⟩
  · subst ey
    obtain ⟨z, hd, vs, rel, dd⟩ := dk_rd I.hok e
    refine wpAny_notIn_of (kV_is ry) hd dd.mapOf ?_
    rw [← (rel.val k).isSome_eq, ← l]
    exact h _ (I.tok _)
  · subst ey
    cases (show u = Value.ref b from ry)
    obtain ⟨z, hd, xs, rel, dd⟩ := dt_rd I.hok e
    refine wpAny_notIn_heap (tupleKind_room_in1 hu) (key_of I.hok eb) hd dd ?_
    have q := (rel.val k).isSome_eq
    rw [Option.isSome_map] at q
    rw [← q, ← l]
    exact h _ (I.tok _)
/-- a dict's object is replaced -/
theorem d_write {h' : Heap} {t' : Nat} {ob : HO} (I : Inv X pins σ H s) (mu : Mut (H a)) (hs : Heap.SameBut a s.heap h') (he : ∃ q, h'.get? a = some q) (new : ObjOk X.prog X.w (upd H a ob) h' a ob) :
    Inv X pins σ (upd H a ob) { s with heap := h', toks := t' } :=
  I.write (x := a) (e := a) mu (.inl rfl) (fun b q hb z => (hs.2 b hb).trans z) he new
theorem dk_new {P : Program} {w : World} {H' : Hp} {h' : Heap} {kvs : List (Key × V)} {vs : List (Key × Value)} (z : kvs.length ≤ sizeLine) (hd : (a == sysModules) = false) (rel : KV kvs vs) (dd : h'.DictOf (mixKind P w) a vs) :
    ObjOk P w H' h' a (.dK kvs) := ⟨z, hd, vs, rel, dd⟩
/-- d[y] = v -/
theorem d_setItem {H' : Hp} {Q : Unit → Shared → Prop} (hu : A.units + 1 < cLine) (I : Inv X pins σ H s) (g : DPut H a y v H') (ry : RelV y u) (rv : RelV v r) (h : ∀ s', Inv X pins σ H' s' → Q () s') :
    wpAny (model X.prog X.w) A (setItem (.ref a) u r) Q E s := by
  rcases g with ⟨kvs, k, e, ey, l, eH⟩ | ⟨kvs, k, b, e, ey, eb, l, eH⟩
  · subst ey eH
    obtain ⟨z, hd, vs, rel, dd⟩ := dk_of I.hok e
    have hz : vs.length ≤ sizeLine := by rw [← rel.length]; exact z
    have hl : (putK kvs k v).length ≤ sizeLine := by have := length_putK kvs k v; omega
    refine wpAny_setItem_pairs (hsz := hz) (kV_is ry) dd fun h' dd' hs => h _ ?_
    have he : ∃ q, h'.get? a = some q := let ⟨q, _, _, hq, _⟩ := dd'; ⟨q, hq⟩
    exact d_write I (by rw [e]; exact True.intro) hs he (dk_new hl hd (rel.put k rv) dd')
  · subst ey eH
    cases (show u = Value.ref b from ry)
    obtain ⟨z, hd, xs, rel, dd⟩ := dt_of I.hok e
    have hz : xs.length ≤ sizeLine := by rw [← Paired.length rel]; exact z
    have hl : (putK kvs k v).length ≤ sizeLine := by have := length_putK kvs k v; omega
    refine wpAny_setItem_heap (hsz := hz) (tupleKind_room_in1 hu) (key_of I.hok eb) dd fun h' dd' hs => h _ ?_
    obtain ⟨q, es, ep, hq, h2, h3, h4, _, h5⟩ := dd'
    refine d_write I (by rw [e]; exact True.intro) hs ⟨q, hq⟩ ⟨hl, hd, _, (rel.put k eb rv).keeps fun c ys ec => ?_, q, es, ep, hq, h2, h3, h4, h5⟩
    rw [upd_ne (ne_of ec e (fun z => nomatch z))]
    exact ec
end

section
variable {X : Cx} {pins : List (Addr × Obj)} {σ : St} {H : Hp} {s : Shared} {a : Addr} {kvs : List (Key × V)} {k : Key} {u : Value} {A : Around} {E : Value → Shared → Prop}

end

/-! ### readings and rules -/
/-- the element of a subscription, not a slice -/
def NoSl (i : Expr) : Prop := ∀ ov iv, subscripted i false ov iv = operate [ov, iv] (getItem ov iv)
theorem subD_of {prog : Program} {w : World} {A : Around} {E : Value → Shared → Prop} {s : Shared} {env : Env} {value slice : Expr} {pos : Pos} {T id : String} {Q : Value → Shared → Prop}
    (hl : typeLookup (.type T) "__getitem__" = pure (some (.builtin id))) (hs : NoSl slice)
    (h : wpAny (model prog w) A (eval value env) (fun o s₁ => wpAny (model prog w) A (eval slice env) (fun i s₂ => s₂.TypeIs o T ∧ wpAny (model prog w) A (getItem o i) Q E s₂) E s₁) E s) :
    wpAny (model prog w) A (eval (.Subscript value slice pos) env) Q E s := by
  refine Subscript_ (wpAny_mono h (fun o s₁ h₁ => wpAny_mono h₁ (fun i s₂ h₂ => ?_) fun _ _ x => x) fun _ _ x => x)
  obtain ⟨hT, h₂⟩ := h₂
  unfold subscriptTail
  refine wpAny_bind ?_
  rw [getitemInPython_of_ne hT.not_modules]
  refine wpAny_bind (wpAny_specialOf hT hl ?_)
  have fin : wpAny (model prog w) A (subscripted slice false o i) (fun r s₃ => wpAny (model prog w) A (letTemporaryGo value o r >>= fun _ => pure r) Q E s₃) E s₂ := by
    rw [hs o i]
    exact wpAny_operating (wpAny_mono h₂ (fun r s₃ h₃ => wpAny_bind (wpAny_letTemporaryGo (wpAny_pure h₃))) fun _ _ x => x)
  first
    | exact wpAny_pure (wpAny_bind fin)
    | exact wpAny_bind (wpAny_pure (wpAny_bind fin))
    | exact wpAny_bind fin

theorem dict_typeIs {X : Cx} {pins : List (Addr × Obj)} {σ : St} {H : Hp} {s : Shared} {a : Addr} {y : V} {o : Option V} (I : Inv X pins σ H s) (g : DGet H a y o) : s.TypeIs (.ref a) "dict" := by
  rcases g with ⟨kvs, k, e, _, _⟩ | ⟨kvs, k, b, e, _, _, _⟩
  · obtain ⟨_, _, vs, _, dd⟩ := dk_rd I.hok e
    exact dd.typeIs
  · obtain ⟨_, _, xs, _, dd⟩ := dt_rd I.hok e
    exact dd.typeIs

/-- d[y] -/
def tDGet (td ty : TE) : TE := fun σ H Q => td σ H fun x H1 => ty σ H1 fun y H2 => ∃ a v, x = .ref a ∧ DGet H2 a y (some v) ∧ Q v H2
/-- y in d, y not in d -/
def tDIn (ty td : TE) : TE := fun σ H Q => ty σ H fun y H1 => td σ H1 fun x H2 => ∃ a o, x = .ref a ∧ DGet H2 a y o ∧ Q (.bl o.isSome) H2
def tDNotIn (ty td : TE) : TE := fun σ H Q => ty σ H fun y H1 => td σ H1 fun x H2 => ∃ a o, x = .ref a ∧ DGet H2 a y o ∧ Q (.bl (!o.isSome)) H2
/-- d[y] = v -/
def sDPut (td ty tv : TE) : TS := fun D σ H => tv σ H fun v H1 => td σ H1 fun x H2 => ty σ H2 fun y H3 => ∃ a H4, x = .ref a ∧ DPut H3 a y v H4 ∧ D.nx σ H4

section
variable {X : Cx} {o i e value : Expr} {pos pos' tpos : Pos} {td ty tv : TE}
theorem pe_dget (hu : X.A.units + 1 < cLine) (ho : PE X o td) (hi : PE X i ty) (hs : NoSl i) : PE X (.Subscript o i pos) (tDGet td ty) := by
  intro pins s σ H Q I h
  refine subD_of PySem.F.slot_dict_getitem.lookup hs (thn (ho pins s σ H _ I h) fun u s1 ⟨x, H1, I1, rx, q1⟩ => thn (hi pins s1 σ H1 _ I1 q1) fun iv s2 ⟨y, H2, I2, ry, a, v, ex, g, q2⟩ => ?_)
  subst ex
  obtain rfl : u = Value.ref a := rx
  exact ⟨dict_typeIs I2 g, d_getItem hu I2 g ry fun w' s3 I3 rw' => ⟨v, H2, I3, rw', q2⟩⟩
theorem pc_din (hu : X.A.units + 1 < cLine) (hi : PE X i ty) (ho : PE X o td) : PC X .In i o (tDIn ty td) := by
  intro pins s σ H Q I h
  refine thn (hi pins s σ H _ I h) fun iv s1 ⟨y, H1, I1, ry, q1⟩ => thn (ho pins s1 σ H1 _ I1 q1) fun u s2 ⟨x, H2, I2, rx, a, ov, ex, g, q2⟩ => ?_
  subst ex
  obtain rfl : u = Value.ref a := rx
  exact d_in hu I2 g ry fun s3 I3 => ⟨.bl ov.isSome, H2, I3, rfl, q2⟩
theorem pc_dnotin (hu : X.A.units + 1 < cLine) (hi : PE X i ty) (ho : PE X o td) : PC X .NotIn i o (tDNotIn ty td) := by
  intro pins s σ H Q I h
  refine thn (hi pins s σ H _ I h) fun iv s1 ⟨y, H1, I1, ry, q1⟩ => thn (ho pins s1 σ H1 _ I1 q1) fun u s2 ⟨x, H2, I2, rx, a, ov, ex, g, q2⟩ => ?_
  subst ex
  obtain rfl : u = Value.ref a := rx
  exact d_notIn hu I2 g ry fun s3 I3 => ⟨.bl (!ov.isSome), H2, I3, rfl, q2⟩
theorem ps_dput (hu : X.A.units + 1 < cLine) (ho : PE X o td) (hi : PE X i ty) (hv : PE X value tv) (hs : swapsWith value (some (.Subscript o i pos')) pos.line X.env = pure false) :
    PS X (.Assign [.Subscript o i pos'] value pos) (sDPut td ty tv) := by
  intro pins s σ H D I h
  refine wpAny_Assign_Subscript (thn (hv pins s σ H _ I h) fun r s1 ⟨v, H1, I1, rv, q1⟩ => thn (ho pins s1 σ H1 _ I1 q1) fun u s2 ⟨x, H2, I2, rx, q2⟩ => thn (hi pins s2 σ H2 _ I2 q2) fun iv s3 ⟨y, H3, I3, ry, a, H4, ex, g, q3⟩ => ?_) hs
  subst ex
  obtain rfl : u = Value.ref a := rx
  exact d_setItem hu I3 g ry rv fun s4 I4 => ⟨σ, H4, I4, q3⟩

end

/-! ### displays -/

theorem dt_empty {P : Program} {w : World} {H : Hp} (h : Heap) (hb : sysModules < h.objs.size) : ObjOk P w H (h.push { cls := .type "dict", data := .dict #[] }) h.objs.size (.dT []) :=
  ⟨Nat.zero_le _, beq_eq_false_iff_ne.mpr (Ne.symm (Nat.ne_of_lt hb)), [], .nil, _, #[], 0, Heap.get?_push_size _ rfl, ⟨rfl, rfl, rfl⟩, rfl, rfl, List.nodup_nil⟩

section
variable {X : Cx} {pos : Pos}

end

/-! ### methods -/
/-- a method call o.m(e) of a built-in, with one argument: what must be seen of the text -/
structure M1 (X : Cx) (o : Expr) (m : Str) (apos : Pos) (e : Expr) (cpos : Pos) : Prop where
  base : attributeBase o m X.env (eval o X.env) = eval o X.env
  few : ((backTo cpos (starEach [e] X.env)).all (fun x => !x.1) && (backToKw cpos (keywordEach [] X.env)).all (fun x => x.1.isSome)
    && decide (([e] : List Expr).length + ([] : List Keyword).length + (if ([] : List Keyword).isEmpty then 0 else 1) < 30)) = true
  line : (apos.endLine == cpos.line) = true
  trees : backTo cpos (starEach [e] X.env) = [(false, eval e X.env)]

/-- a is a dict, whatever its keys -/
def IsD (H : Hp) (a : Addr) : Prop := (∃ kvs, Rd H a (.dK kvs)) ∨ ∃ kvs, Rd H a (.dT kvs)
theorem isD_at {X : Cx} {pins : List (Addr × Obj)} {σ : St} {H : Hp} {s : Shared} {a : Addr} (I : Inv X pins σ H s) (d : IsD H a) :
    s.TypeIs (.ref a) "dict" ∧ (∀ b, Value.ref a = .ref b → ∃ ob, s.heap.get? b = some ob ∧ ob.dict = none) ∧ (a == sysModules) = false := by
  rcases d with ⟨kvs, e⟩ | ⟨kvs, e⟩
  · obtain ⟨_, hd, vs, _, dd⟩ := dk_rd I.hok e
    refine ⟨dd.typeIs, fun b q => ?_, hd⟩
    cases q
    obtain ⟨ob, _, _, h1, h2, _⟩ := dd
    exact ⟨ob, h1, h2.2.1⟩
  · obtain ⟨_, hd, xs, _, dd⟩ := dt_rd I.hok e
    refine ⟨dd.typeIs, fun b q => ?_, hd⟩
    cases q
    obtain ⟨ob, _, _, h1, h2, _⟩ := dd
    exact ⟨ob, h1, h2.2.1⟩

section
variable {X : Cx} {pins : List (Addr × Obj)} {σ : St} {H : Hp} {s : Shared} {a : Addr} {y d : V} {u r : Value} {o : Option V} {A : Around} {E : Value → Shared → Prop}
/-- d.get(y) -/
theorem d_get1 {Q : Value → Shared → Prop} (hu : A.units + 1 < cLine) (I : Inv X pins σ H s) (g : DGet H a y o) (ry : RelV y u) (h : ∀ w' s', Inv X pins σ H s' → RelV (o.getD .non) w' → Q w' s') :
    wpAny (model X.prog X.w) A (call (.builtin "dict.get") [.ref a, u]) Q E s := by
  rcases g with ⟨kvs, k, e, ey, l⟩ | ⟨kvs, k, b, e, ey, eb, l⟩
  · subst ey
    obtain ⟨z, hd, vs, rel, dd⟩ := dk_rd I.hok e
    refine call_meetsIn PySem.F.slot_dict_get dd.typeIs PySem.F.entry_dict_get (PySem.F.args_dict_get_2 _ _) (meets_dict_get (mixKind X.prog X.w) a (kV_is ry) hd) ⟨_, dd.mapOf, h _ _ (I.tok _) ?_⟩
    rw [l]
    exact (rel.val k).getD rfl
  · subst ey
    cases (show u = Value.ref b from ry)
    obtain ⟨z, hd, xs, rel, dd⟩ := dt_rd I.hok e
    refine call_meetsIn PySem.F.slot_dict_get dd.typeIs PySem.F.entry_dict_get (PySem.F.args_dict_get_2 _ _) (meetsH_dict_get (tupleKind (mixKind X.prog X.w)) a b hd) ⟨tupleKind_room_in1 hu, k, xs, key_of I.hok eb, dd, h _ _ (I.tok _) ?_⟩
    rw [l]
    exact (rel.val k).getD rfl

end

def tDGet1 (td ty : TE) : TE := fun σ H Q => td σ H fun x H1 => ∃ a, x = .ref a ∧ IsD H1 a ∧ ty σ H1 fun y H2 => ∃ o, DGet H2 a y o ∧ Q (o.getD .non) H2

section
variable {X : Cx} {o e f : Expr} {apos cpos : Pos} {td ty tx : TE}
theorem pe_dget1 (hu : X.A.units + 1 < cLine) (ho : PE X o td) (he : PE X e ty) (m : M1 X o "get" apos e cpos) : PE X (.Call (.Attribute o "get" apos) [e] [] cpos) (tDGet1 td ty) := by
  intro pins s σ H Q I h
  refine wpAny_Call_method m.base m.few m.line PySem.F.plainAttrs_dict PySem.F.slot_dict_get PySem.F.type_dict_get (thn (ho pins s σ H _ I h) fun u s1 ⟨x, H1, I1, rx, a, ex, d, q1⟩ => ?_)
  subst ex
  obtain rfl : u = Value.ref a := rx
  obtain ⟨t1, t2, _⟩ := isD_at I1 d
  refine ⟨t1, t2, ?_⟩
  rw [m.trees]
  refine Calls.callWith_builtin rfl (Calls.evalArgs_plain (Calls.spliced_cons (thn (he pins s1 σ H1 _ I1 q1) fun iv s2 ⟨y, H2, I2, ry, ov, g, q2⟩ => Calls.spliced_nil ?_)))
  exact d_get1 hu I2 g ry fun w' s3 I3 rw' => ⟨_, H2, I3, rw', q2⟩

end

/-! ### dict(d): a copy -/
section
variable {X : Cx} {pins : List (Addr × Obj)} {σ : St} {H : Hp} {s : Shared} {a : Addr} {kvs : List (Key × V)} {A : Around} {E : Value → Shared → Prop}

end

section
variable {X : Cx} {pins : List (Addr × Obj)} {σ : St} {H : Hp} {s : Shared} {a : Addr} {y : V} {u : Value} {A : Around} {E : Value → Shared → Prop}

end
end L2

namespace L2
open PySem PySem.Spec PyProof.Rows

section
variable {prog : Program} {w : World} {A : Around} {E : Value → Shared → Prop}

end

section
variable {X : Cx}

end
end L2

namespace L2
open PySem PySem.Spec PyProof.Rows

section
variable {X : Cx} {pins : List (Addr × Obj)} {σ : St} {H : Hp} {s : Shared} {h' : Heap}

/-! ### locking a thing while a statement runs -/

end

section
variable {X : Cx}

/-! ### one iterator just laid -/

end

/-! ### range with a step -/

section
variable {X : Cx} {tg : Expr}

end

/-! ### reversed(list) -/

section
variable {X : Cx} {tg : Expr}

end

/-! ### a str -/

/-! ### a dict's keys: any dict's entries -/
section
variable {prog : Program} {w : World} {A : Around} {E : Value → Shared → Prop} {s : Shared}

end

/-! ### a locked dict -/

section
variable {X : Cx} {pins : List (Addr × Obj)} {σ : St} {H : Hp} {s : Shared} {d : Addr} {o : Obj}

end

section
variable {P : Program} {w : World} {K : PySem.W.Frag} {tg : Expr} {d : Addr} {o : Obj} {es : Array DictEntry} {ep : Nat}

end

/-! ### for k in d, d.keys(), d.values(), d.items() -/

section
variable {X : Cx} {tg e : Expr} {td : TE} {apos cpos : Pos}

end

/-! ### enumerate(list) -/

/-! ### zip(list, list) -/

end L2

section 
namespace Bits
open PySem PyProof.Rows

end Bits
end 

section 
namespace TL
open PySem PySem.Builtin PySem.Builtin.Str PySem.StrLaws

/-! ### the list functions -/

/-! ### the model's split and partition are these -/

/-! ### computing spl and par -/

/-! ### digits -/

/-! ### words: x.split() -/

end TL
end 

namespace L2
open PySem PySem.Spec PyProof.Rows

section
variable {X : Cx} {pins : List (Addr × Obj)} {σ : St} {H : Hp} {s : Shared} {Q : VK}

end

section
variable {X : Cx}

/-! ### of a text alone -/

/-! ### of a text and a text -/

end

section
variable {X : Cx} {o e : Expr} {to te : TE}

end
end L2

namespace L2
open PySem PySem.Spec PyProof.Rows

section
variable {X : Cx}

end

/-! ### slices of a text -/

end L2

namespace Att
open PySem PySem.W PySem.Calls PyProof.Rows

/-! ### the script -/

/-! ### the attachment: holds_open's last premise (the goal 'hc' behind k_head) from a wpAny of the law's body -/

/-! ### rules over ANY heap (no ledger) from facts about the written part K: the library's own take a ledger (News) for what they write -/
section
variable {prog : Program} {w : World} {A : Around} {E : Value → Shared → Prop} {s : Shared} {K : Frag}

/-! the whole heap as the ledger: makes every rule that writes through a ledger a rule over any heap -/

end
end Att

namespace L2
open PySem PySem.Spec PyProof.Rows

end L2

namespace L2
open PySem PySem.Spec PyProof.Rows

end L2

/- THE LAST THEOREM (shape; LID, My.* are yours):
   My.Adr: a structure of the addresses that your layer names (classes, functions); My.Txt K t: a structure (Prop) of the equations over K;
   My.txt_mk : {K} {implicit addresses ..} (e1 : nsIn K mainGlobals "law" = some (some (.ref f))) (e2 : K.lookup f = some ⟨oc, od, .func (fnOf "law" "law" params body scope dV kV doc pm an cdv ct), sl⟩) (e3 : codeIn K cdv "law" = true) .. : ∃ t, My.Txt K t

set_option maxRecDepth 100000 in
set_option maxHeartbeats 0 in
theorem PySem.Challenge.cw_LID_holds : PySem.Challenge.rw_LID.Holds := by
  w_on; o_law; k_head; (case hw => w_witness2)
  k_fill
  refine L2.walk_of (l := PySem.Challenge.rw_LID) (n := 63) (k := 40) (x := "script") (CX := fun w => ..) (sp := fun _ => My.sp_law) rfl (by decide) rfl ⟨rfl, by decide, by decide⟩ (fun w h Y => PySem.W.kIn_of Y) ?F ?S ?C
  case F =>
    intro w mg fa h KX G hmg
    have T : ∃ t, My.Txt (L2.KOf KX) t := by
      dsimp only [L2.KOf]                          -- K must stand as «<heap const> w.params» for k_is
      refine' My.txt_mk ?e1 ?e2 ?e3 ..
      (case e1 => PySem.W.k_is)                    -- in the order: a name -> its address -> its object -> its parts
      (case e2 => PySem.W.k_is)
      ..
    obtain ⟨t, T⟩ := T
    have e0 := hmg.symm.trans (PySem.W.mg_of KX G T.law)
    cases e0                                       -- fa is the law's own address
    exact ⟨_, fun s u => .of_eq rfl, fun base kb nb => My.law_fn T kb nb⟩     -- if «.of_eq rfl» comes too early: refine' ⟨_, ?b, fun base kb nb => My.law_fn T kb nb⟩; exact fun s u => .of_eq rfl
  case S => exact fun w H a ns hl hO hS => ..
  case C => exact ..
(the tactic k_is has no namespace: write k_is) -/

/-! SHORT WORDS over the layer: a def of the text, its body, what a loop and a test want. -/
namespace L2
open PySem PySem.Spec PyProof.Rows

/-! ### the text by places -/

def defArgs (s : Stmt) : Arguments := match s with
  | .FunctionDef _ a _ _ _ _ _ _ _ _ => a
  | _ => { posonlyargs := [], args := [], vararg := none, kwonlyargs := [], kw_defaults := [], kwarg := none, defaults := [] }
def defBody (s : Stmt) : List Stmt := match s with
  | .FunctionDef _ _ b _ _ _ _ _ _ _ => b
  | _ => []
def defScope (s : Stmt) : Scope := match s with
  | .FunctionDef _ _ _ _ _ _ sc _ _ _ => sc
  | _ => { kind := .function, names := [], isGenerator := false, isCoroutine := false }

/-! ### no exception leaves a def -/
abbrev CX0 : CXT := fun _ _ _ _ _ _ => False
abbrev E0 : XK := fun _ _ _ => False
theorem pass0 {X : Cx} : Passes CX0 X E0 := fun _ _ _ _ _ _ _ h => h.elim

/-! ### a def (or method) of the text as it stands behind the top -/
structure Fun (K : PySem.W.Frag) (x qual : Str) (st : Stmt) (f : Addr) (fd : FuncData) : Prop where
  ex : ∃ (oc : Value) (od : Option Addr) (kV doc pm : Value) (an : Option Addr) (cdv ct : Value) (osl : Array (Option Value)),
    fd = PySem.W.fnOf x qual (defArgs st) (defBody st) (defScope st) .none kV doc pm an cdv ct ∧ K.lookup f = some ⟨oc, od, .func fd, osl⟩ ∧ PySem.W.codeIn K cdv qual = true
  kp : PySem.W.keepIn K (.ref f) = true
section
variable {P : Program} {w : World} {K : PySem.W.Frag} {mg : Str → Option Value} {base : Heap}
/-- THE RULE for a def: its body as a term of rules, and the reading of that term -/
theorem Fun.ok {x qual : Str} {st : Stmt} {f : Addr} {fd : FuncData} {N ps : List Str} {k : Nat} {sp : Sp} (F : Fun K x qual st f fd) (S : FnScope N ps (defScope st)) (len : ∀ vs H Q E, sp vs H Q E → vs.length = ps.length)
    (hbody : ∀ (cdv : Value) (A : Around) (outer : List Env) (s : Shared) (H : Hp) (vs : List V) (Q : VK) (E : XK), Room k (A.deeper (envOfC qual (defScope st) s.heap.objs.size f cdv)) → sp vs H Q E →
      ∃ t, PSs (cxOf CX0 P w K mg base N qual (defScope st) f cdv A outer s H E).nox (defBody st) t ∧ t { nx := fun _ H' => Q .non H', rt := Q } (start N vs) H) : FnOk P w K mg base CX0 (k + 1) f fd ps sp := by
  obtain ⟨oc, od, kV, doc, pm, an, cdv, ct, osl, rfl, lk, hcd⟩ := F.ex
  refine fn_of lk hcd S len fun A outer s H vs Q E hr hsp => ?_
  obtain ⟨t, h, q⟩ := hbody cdv A outer s H vs Q E hr hsp
  exact ⟨t, h.nox, q⟩
/-- how its arguments bind (no defaults): h is «fun _ _ _ _ _ _ us hl => match us, hl with | [_, _], _ => rfl», one _ a parameter -/
theorem Fun.binds {x qual : Str} {st : Stmt} {f : Addr} {fd : FuncData} {ps : List Str} (F : Fun K x qual st f fd)
    (h : ∀ (kV doc pm : Value) (an : Option Addr) (cdv ct : Value) (us : List Value), us.length = ps.length → bindArgs (PySem.W.fnOf x qual (defArgs st) (defBody st) (defScope st) .none kV doc pm an cdv ct) ⟨us, []⟩ = pure (ps.zip us)) : Binds K fd ps [] := by
  obtain ⟨oc, od, kV, doc, pm, an, cdv, ct, osl, rfl, lk, hcd⟩ := F.ex
  exact .all (h kV doc pm an cdv ct)
theorem fun_mk {x qual : Str} {st : Stmt} {f : Addr} {oc : Value} {od an : Option Addr} {osl : Array (Option Value)} {kV doc pm cdv ct : Value} (l : K.lookup f = some ⟨oc, od, .func (PySem.W.fnOf x qual (defArgs st) (defBody st) (defScope st) .none kV doc pm an cdv ct), osl⟩)
    (c : PySem.W.codeIn K cdv qual = true) (k : PySem.W.keepIn K (.ref f) = true) : Fun K x qual st f (PySem.W.fnOf x qual (defArgs st) (defBody st) (defScope st) .none kV doc pm an cdv ct) := ⟨⟨oc, od, kV, doc, pm, an, cdv, ct, osl, rfl, l, c⟩, k⟩
end
theorem hu_of {A : Around} {k : Nat} (hr : Room k A) : A.units + 1 < cLine := Nat.lt_of_le_of_lt (Nat.add_le_add_left (by decide : 1 ≤ 64) _) hr.units
theorem small1000 {n : Nat} (h : n ≤ 1000) : n < sizeLine := Nat.lt_of_le_of_lt h (by decide)

/-! ### expressions in short: the name that stands in the i-th slot -/
section
variable {X : Cx}
theorem pv (i : Nat) {x : Str} {pos : Pos} (hN : X.N[i]? = some x := by rfl) (hv : Vis X.env.scope x := by first | exact Or.inl rfl | exact Or.inr (Or.inl rfl) | exact Or.inr (Or.inr rfl)) (hd : (x == ("__debug__" : Str)) = false := by decide)
    (hcd : (x == ("__classdict__" : Str)) = false := by decide) : PE X (.Name x pos) (tVar i) := pe_var hN hv hd hcd

end

/-! ### tests -/
theorem iteF {A B : Prop} (h : B) : if false = true then A else B := by
  rw [if_neg Bool.false_ne_true]
  exact h
theorem iteT {A B : Prop} (h : A) : if true = true then A else B := by
  rw [if_pos rfl]
  exact h
theorem ite2 {c A B : Prop} [Decidable c] (h1 : c → A) (h2 : ¬ c → B) : if c then A else B := by
  by_cases h : c
  · rw [if_pos h]
    exact h1 h
  · rw [if_neg h]
    exact h2 h

/-! ### heaps -/
/-- all that was tracked is as it was -/
def Same (H H' : Hp) : Prop := ∀ b o, H b = some o → H' b = some o
theorem Same.refl (H : Hp) : Same H H := fun _ _ h => h
theorem Same.trans {H H1 H2 : Hp} (a : Same H H1) (b : Same H1 H2) : Same H H2 := fun c o h => b c o (a c o h)
theorem Same.free {H H' : Hp} (e : Same H H') {l : Addr} (h : H' l = Option.none) : H l = Option.none := by
  cases q : H l with
  | none => rfl
  | some o =>
    rw [e l o q] at h
    cases h
theorem Same.seq {K : PySem.W.Frag} {H H' : Hp} {a : Addr} {xs : List V} (e : Same H H') (h : SqL K H a xs) : SqL K H' a xs := by
  rcases h with (h | ⟨o, h⟩) | h
  · exact .inl (.inl (e _ _ h))
  · exact .inl (.inr ⟨o, e _ _ h⟩)
  · exact .inr h

/-! ### a dict's pairs: keys that differ -/
section
variable {κ : Type} [DecidableEq κ]

end
/-! ### lists -/
theorem at_of {xs : List V} {z : Int} {j : Nat} {v : V} (e : z = (j : Int)) (h : xs[j]? = some v) : atI xs z = some v := by
  rw [e]
  exact atI_nat h

end L2

section
set_option Elab.async false
set_option linter.all false
set_option maxRecDepth 100000
set_option maxHeartbeats 2000000
namespace L2
open PySem PySem.Spec PyProof.Rows
open PySem.W (WData Codec OpenSpec Well WellAll ReadsW ReadsAllW)
/-! ### an answer as data -/
mutual
/-- x stands for the datum d, lists and tuples all the way -/
inductive Dw (K : PySem.W.Frag) (H : Hp) : V → WData → Prop
  | non : Dw K H .non .none
  | bl (b : Bool) : Dw K H (.bl b) (.bool b)
  | int (i : Int) : Dw K H (.int i) (.int i)
  | str (x : Str) : Dw K H (.str x) (.str x)
  | byt (b : Array UInt8) : Dw K H (.byt b) (.bytes b.toList)
  | lst {a : Addr} {xs : List V} {ds : List WData} : SqL K H a xs → DwAll K H xs ds → Dw K H (.ref a) (.list ds)
  | tup {a : Addr} {xs : List V} {ds : List WData} : SqT K H a xs → DwAll K H xs ds → Dw K H (.ref a) (.tuple ds)
inductive DwAll (K : PySem.W.Frag) (H : Hp) : List V → List WData → Prop
  | nil : DwAll K H [] []
  | cons {v : V} {vs : List V} {d : WData} {ds : List WData} : Dw K H v d → DwAll K H vs ds → DwAll K H (v :: vs) (d :: ds)
end
theorem dw_ints {K : PySem.W.Frag} {H : Hp} : ∀ ns : List Int, DwAll K H (ns.map V.int) (ns.map WData.int)
  | [] => .nil
  | n :: r => .cons (.int n) (dw_ints r)
theorem ints_dw {K : PySem.W.Frag} {H : Hp} : ∀ (ns : List Int) (xs : List V), DwAll K H xs (ns.map WData.int) → xs = ns.map V.int
  | [], xs, h => by
    cases h
    rfl
  | n :: r, xs, h => by
    cases h with
    | cons h1 h2 =>
      cases h1
      rw [ints_dw r _ h2] <;> rfl
section
variable {P : Program} {w : World} {K : PySem.W.Frag} {H : Hp} {h : Heap} {R : PySem.W.WRecords} {cl : Str → Option Addr}
theorem sqL_at {a : Addr} {xs : List V} (hok : HOk P w H h) (KX : K.In h) (q : SqL K H a xs) : ∃ (its : List Value) (o : Obj) (n : Nat), Vals xs its ∧ h.get? a = some o ∧ o.cls = .type "list" ∧ o.data = .seq its.toArray n := by
  rcases q with q | ⟨o, its, n, e, hc, _, hd, _, hv⟩
  · obtain ⟨_, its, n, hv, e⟩ := (show ObjOk P w H h a (.lst xs) from q.ok hok)
    exact ⟨its, _, n, hv, e, rfl, rfl⟩
  · exact ⟨its.toList, o, n, hv, KX _ _ e, hc, by simp [hd]⟩
theorem sqT_at {a : Addr} {xs : List V} (hok : HOk P w H h) (KX : K.In h) (q : SqT K H a xs) : ∃ (its : List Value) (o : Obj) (n : Nat), Vals xs its ∧ h.get? a = some o ∧ o.cls = .type "tuple" ∧ o.data = .seq its.toArray n := by
  rcases q with q | ⟨o, its, n, e, hc, hd, _, hv⟩
  · obtain ⟨_, its, hv, o, e, hc, n, hd⟩ := (show ObjOk P w H h a (.tup xs) from q.ok hok)
    exact ⟨its, o, n, hv, e, hc, hd⟩
  · exact ⟨its.toList, o, n, hv, KX _ _ e, hc, by simp [hd]⟩
mutual
theorem Dw.reads (hok : HOk P w H h) (KX : K.In h) : ∀ (d : WData) (v : V) (u : Value), Dw K H v d → RelV v u → ∃ as, ReadsW R cl h u d as
  | .none, _, _, x, r => by
    cases x
    cases r
    exact ⟨_, ReadsW.none⟩
  | .bool b, _, _, x, r => by
    cases x
    cases r
    exact ⟨_, ReadsW.bool b⟩
  | .int i, _, _, x, r => by
    cases x
    obtain ⟨t, rfl⟩ := r
    exact ⟨_, ReadsW.int i t⟩
  | .str s, _, _, x, r => by
    cases x
    obtain ⟨t, rfl⟩ := r
    exact ⟨_, ReadsW.str s t⟩
  | .bytes b, _, _, x, r => by
    cases x
    obtain ⟨t, rfl⟩ := r
    exact ⟨_, ReadsW.bytes _ t⟩
  | .list ds, _, _, x, r => by
    cases x with
    | lst hs ha =>
      cases r
      obtain ⟨its, o, n, rv, ho, hc, hd⟩ := sqL_at hok KX hs
      obtain ⟨as, hr⟩ := Dw.readsAll hok KX ds _ its ha rv
      exact ⟨_, ReadsW.list ho hc hd hr⟩
  | .tuple ds, _, _, x, r => by
    cases x with
    | tup hs ha =>
      cases r
      obtain ⟨its, o, n, rv, ho, hc, hd⟩ := sqT_at hok KX hs
      obtain ⟨as, hr⟩ := Dw.readsAll hok KX ds _ its ha rv
      exact ⟨_, ReadsW.tuple ho hc hd hr⟩
  | .float _, _, _, x, _ => by cases x
  | .dict _, _, _, x, _ => by cases x
  | .bytearray _, _, _, x, _ => by cases x
  | .set _, _, _, x, _ => by cases x
  | .frozenset _, _, _, x, _ => by cases x
  | .obj _ _, _, _, x, _ => by cases x
theorem Dw.readsAll (hok : HOk P w H h) (KX : K.In h) : ∀ (ds : List WData) (vs : List V) (us : List Value), DwAll K H vs ds → Vals vs us → ∃ as, ReadsAllW R cl h us ds as
  | [], _, _, x, r => by
    cases x
    cases r
    exact ⟨_, ReadsAllW.nil⟩
  | d :: ds, _, _, x, r => by
    cases x with
    | cons h1 h2 =>
      cases r with
      | cons r1 r2 =>
        obtain ⟨as, q1⟩ := Dw.reads hok KX d _ _ h1 r1
        obtain ⟨bs, q2⟩ := Dw.readsAll hok KX ds _ _ h2 r2
        exact ⟨_, ReadsAllW.cons q1 q2⟩
end
end
/-! ### the arguments -/
mutual
/-- data that a codec tells -/
def plW : WData → Bool
  | .none => true
  | .bool _ => true
  | .int _ => true
  | .str _ => true
  | .bytes _ => true
  | .list xs => plWs xs
  | .tuple xs => plWs xs
  | _ => false
def plWs : List WData → Bool
  | [] => true
  | x :: r => plW x && plWs r
end
theorem plWs_map {α : Type} {f : α → WData} (h : ∀ a, plW (f a) = true) : ∀ l : List α, plWs (l.map f) = true
  | [] => rfl
  | x :: r => by
    show (plW (f x) && plWs (r.map f)) = true
    rw [h x, plWs_map h r] <;> rfl
theorem pl_enc : ∀ (c : Codec) (a : c.denote), plW (c.enc a) = true
  | .unit, _ => rfl
  | .bool, _ => rfl
  | .int _ _, _ => rfl
  | .nat _ _, _ => rfl
  | .u8, _ => rfl
  | .bytes _ _, _ => rfl
  | .text _ _ _ _, _ => rfl
  | .list _ _ c, a => plWs_map (fun x => pl_enc c x) a
  | .pair c d, a => by
    show (plW (c.enc a.1) && (plW (d.enc a.2) && true)) = true
    rw [pl_enc c a.1, pl_enc d a.2] <;> rfl
  | .triple c d e, a => by
    show (plW (c.enc a.1) && (plW (d.enc a.2.1) && (plW (e.enc a.2.2) && true))) = true
    rw [pl_enc c a.1, pl_enc d a.2.1, pl_enc e a.2.2] <;> rfl
  | .option c, none => rfl
  | .option c, some x => pl_enc c x
theorem pl_encAll : ∀ (cs : List Codec) (a : Codec.denoteAll cs), plWs (Codec.encAll cs a) = true
  | [], _ => rfl
  | c :: cs, a => by
    show (plW (c.enc a.1) && plWs (Codec.encAll cs a.2)) = true
    rw [pl_enc c a.1, pl_encAll cs a.2] <;> rfl
theorem weight_mem : ∀ {xs : List WData} {d : WData}, d ∈ xs → d.weight ≤ WData.weightAll xs
  | [], d, h => absurd h (by simp)
  | x :: r, d, h => by
    show d.weight ≤ x.weight + 1 + WData.weightAll r
    rcases List.mem_cons.mp h with e | m
    · rw [e]
      omega
    · have z := weight_mem m
      omega
def toV : Value → V
  | .none => .non
  | .bool b => .bl b
  | .int i _ => .int i
  | .str x _ => .str x
  | .bytes b _ => .byt b
  | .ref a => .ref a
  | _ => .non
/-- a value of the arguments, its objects among A -/
def OkU (A : List Addr) : Value → Prop
  | .none => True
  | .bool _ => True
  | .int _ _ => True
  | .str _ _ => True
  | .bytes _ _ => True
  | .ref a => a ∈ A
  | _ => False
theorem OkU.mono {A B : List Addr} (h : ∀ a ∈ A, a ∈ B) : ∀ {u : Value}, OkU A u → OkU B u := fun {u} x => by
  cases u with
  | ref a => exact h a x
  | none => trivial
  | bool b => trivial
  | int i t => trivial
  | str s t => trivial
  | bytes b t => trivial
  | _ => exact False.elim x
theorem relV_toV {A : List Addr} {u : Value} (x : OkU A u) : RelV (toV u) u := by
  cases u with
  | ref a => rfl
  | none => rfl
  | bool b => rfl
  | int i t => exact ⟨t, rfl⟩
  | str s t => exact ⟨t, rfl⟩
  | bytes b t => exact ⟨t, rfl⟩
  | _ => exact False.elim x
theorem vals_toV {A : List Addr} : ∀ {vs : List Value}, (∀ u ∈ vs, OkU A u) → Vals (vs.map toV) vs
  | [], _ => .nil
  | u :: r, h => .cons (relV_toV (h u (List.mem_cons_self ..))) (vals_toV fun x hx => h x (List.mem_cons_of_mem _ hx))
/-- an object of the arguments -/
def ArgOb (h : Heap) (A : List Addr) (a : Addr) : Prop := ∃ vs : List Value, vs.length ≤ sizeLine ∧ (∀ u ∈ vs, OkU A u) ∧
  (h.get? a = some { cls := .type "list", data := .seq vs.toArray } ∨ h.get? a = some { cls := .type "tuple", data := .seq vs.toArray })
theorem ArgOb.mono {h : Heap} {A B : List Addr} {a : Addr} (k : ∀ a ∈ A, a ∈ B) (x : ArgOb h A a) : ArgOb h B a := by
  obtain ⟨vs, h1, h2, h3⟩ := x
  exact ⟨vs, h1, fun u hu => (h2 u hu).mono k, h3⟩
theorem wellAll_len {P : Params} {h : Heap} : ∀ {vs : List Value} {ds : List WData}, WellAll P h vs ds → vs.length = ds.length
  | _, _, .nil => rfl
  | _, _, .cons _ b => by
    show _ + 1 = _ + 1
    rw [wellAll_len b]
theorem well_list {P : Params} {h : Heap} {v : Value} {ds : List WData} (x : Well P h v (.list ds)) : ∃ (a : Addr) (vs : List Value), v = .ref a ∧ h.get? a = some { cls := .type "list", data := .seq vs.toArray } ∧ WellAll P h vs ds := by
  cases x with
  | list ho hall => exact ⟨_, _, rfl, ho, hall⟩
theorem well_tuple {P : Params} {h : Heap} {v : Value} {ds : List WData} (x : Well P h v (.tuple ds)) : ∃ (a : Addr) (vs : List Value), v = .ref a ∧ h.get? a = some { cls := .type "tuple", data := .seq vs.toArray } ∧ WellAll P h vs ds := by
  cases x with
  | tuple ho hall => exact ⟨_, _, rfl, ho, hall⟩
theorem well_cons {P : Params} {h : Heap} {us : List Value} {d : WData} {ds : List WData} (x : WellAll P h us (d :: ds)) : ∃ (v : Value) (vs : List Value), us = v :: vs ∧ Well P h v d ∧ WellAll P h vs ds := by
  cases x with
  | cons a b => exact ⟨_, _, rfl, a, b⟩
theorem line_of {n : Nat} (h : n ≤ 1048576) : n ≤ sizeLine := Nat.le_trans h (by decide)
section
variable {P : Params} {h : Heap}
mutual
theorem area_one : ∀ (d : WData) (v : Value), Well P h v d → plW d = true → d.weight ≤ 1048576 → ∃ A : List Addr, OkU A v ∧ ∀ a ∈ A, ArgOb h A a
  | .none, _, x, _, _ => by
    cases x
    exact ⟨[], trivial, fun a m => absurd m (by simp)⟩
  | .bool b, _, x, _, _ => by
    cases x
    exact ⟨[], trivial, fun a m => absurd m (by simp)⟩
  | .int i, _, x, _, _ => by
    cases x
    exact ⟨[], trivial, fun a m => absurd m (by simp)⟩
  | .str s, _, x, _, _ => by
    cases x
    exact ⟨[], trivial, fun a m => absurd m (by simp)⟩
  | .bytes b, _, x, _, _ => by
    cases x
    exact ⟨[], trivial, fun a m => absurd m (by simp)⟩
  | .list ds, _, x, p, z => by
    obtain ⟨a, vs, rfl, ho, hall⟩ := well_list x
    have z2 : WData.weightAll ds ≤ 1048576 := z
    obtain ⟨A, h1, h2⟩ := area_all ds _ hall p fun d hd => Nat.le_trans (weight_mem hd) z2
    have k : ∀ b ∈ A, b ∈ a :: A := fun b hb => List.mem_cons_of_mem _ hb
    refine ⟨a :: A, List.mem_cons_self .., fun b hb => ?_⟩
    rcases List.mem_cons.mp hb with e | m
    · rw [e]
      exact ⟨vs, line_of (by rw [wellAll_len hall]; exact Nat.le_trans (PySem.W.length_le_weightAllW ds) z2), fun u hu => (h1 u hu).mono k, .inl ho⟩
    · exact (h2 b m).mono k
  | .tuple ds, _, x, p, z => by
    obtain ⟨a, vs, rfl, ho, hall⟩ := well_tuple x
    have z2 : WData.weightAll ds ≤ 1048576 := z
    obtain ⟨A, h1, h2⟩ := area_all ds _ hall p fun d hd => Nat.le_trans (weight_mem hd) z2
    have k : ∀ b ∈ A, b ∈ a :: A := fun b hb => List.mem_cons_of_mem _ hb
    refine ⟨a :: A, List.mem_cons_self .., fun b hb => ?_⟩
    rcases List.mem_cons.mp hb with e | m
    · rw [e]
      exact ⟨vs, line_of (by rw [wellAll_len hall]; exact Nat.le_trans (PySem.W.length_le_weightAllW ds) z2), fun u hu => (h1 u hu).mono k, .inr ho⟩
    · exact (h2 b m).mono k
  | .float _, _, _, p, _ => Bool.noConfusion (show false = true from p)
  | .dict _, _, _, p, _ => Bool.noConfusion (show false = true from p)
  | .bytearray _, _, _, p, _ => Bool.noConfusion (show false = true from p)
  | .set _, _, _, p, _ => Bool.noConfusion (show false = true from p)
  | .frozenset _, _, _, p, _ => Bool.noConfusion (show false = true from p)
  | .obj _ _, _, _, p, _ => Bool.noConfusion (show false = true from p)
theorem area_all : ∀ (ds : List WData) (vs : List Value), WellAll P h vs ds → plWs ds = true → (∀ d ∈ ds, d.weight ≤ 1048576) → ∃ A : List Addr, (∀ u ∈ vs, OkU A u) ∧ ∀ a ∈ A, ArgOb h A a
  | [], _, x, _, _ => by
    cases x
    exact ⟨[], fun u m => absurd m (by simp), fun a m => absurd m (by simp)⟩
  | d :: ds, _, x, p, z => by
    obtain ⟨v, vs, rfl, x1, x2⟩ := well_cons x
    have q : plW d = true ∧ plWs ds = true := Bool.and_eq_true_iff.mp p
    obtain ⟨A, a1, a2⟩ := area_one d v x1 q.1 (z d (List.mem_cons_self ..))
    obtain ⟨B, b1, b2⟩ := area_all ds vs x2 q.2 fun e he => z e (List.mem_cons_of_mem _ he)
    have kA : ∀ b ∈ A, b ∈ A ++ B := fun b hb => List.mem_append.mpr (.inl hb)
    have kB : ∀ b ∈ B, b ∈ A ++ B := fun b hb => List.mem_append.mpr (.inr hb)
    refine ⟨A ++ B, fun u hu => ?_, fun b hb => ?_⟩
    · rcases List.mem_cons.mp hu with e | m
      · rw [e]
        exact a1.mono kA
      · exact (b1 u m).mono kB
    · rcases List.mem_append.mp hb with m | m
      · exact (a2 b m).mono kA
      · exact (b2 b m).mono kB
end
end
/-- what is tracked of an argument's object -/
def hoOf (o : Obj) : Option HO := match o.data with
  | .seq vs _ => if (o.cls == Value.type "list") = true then some (.frz o (.lst (vs.toList.map toV))) else some (.frz o (.tup (vs.toList.map toV)))
  | _ => none
def argH (K : PySem.W.Frag) (h : Heap) (A : List Addr) : Hp := fun b => if b ∈ A then (if (K.lookup b).isNone = true then (h.get? b).bind hoOf else none) else none
/-- nothing is tracked but what is known to the object -/
def OnlyF (H : Hp) : Prop := ∀ b, H b = none ∨ ∃ o u, H b = some (.frz o u)
theorem hoOf_lst (vs : List Value) : hoOf { cls := .type "list", data := .seq vs.toArray } = some (.frz { cls := .type "list", data := .seq vs.toArray } (.lst (vs.map toV))) := by
  show (if (Value.type "list" == Value.type "list") = true then some (HO.frz { cls := .type "list", data := .seq vs.toArray } (.lst (vs.toArray.toList.map toV))) else some (HO.frz { cls := .type "list", data := .seq vs.toArray } (.tup (vs.toArray.toList.map toV)))) = _
  rw [if_pos (beq_self_eq_true _)]
theorem hoOf_tup (vs : List Value) : hoOf { cls := .type "tuple", data := .seq vs.toArray } = some (.frz { cls := .type "tuple", data := .seq vs.toArray } (.tup (vs.map toV))) := by
  show (if (Value.type "tuple" == Value.type "list") = true then some (HO.frz { cls := .type "tuple", data := .seq vs.toArray } (.lst (vs.toArray.toList.map toV))) else some (HO.frz { cls := .type "tuple", data := .seq vs.toArray } (.tup (vs.toArray.toList.map toV)))) = _
  rw [if_neg (by decide)]
section
variable {P : Program} {w : World} {K : PySem.W.Frag} {h : Heap} {A : List Addr}
theorem argH_at {b : Addr} {o : Obj} (hb : b ∈ A) (hk : K.lookup b = none) (e : h.get? b = some o) : argH K h A b = hoOf o := by
  unfold argH
  rw [if_pos hb, hk, if_pos (show (none : Option Obj).isNone = true from rfl), e] <;> rfl
theorem of_argH {b : Addr} {u : HO} (q : argH K h A b = some u) : b ∈ A ∧ K.lookup b = none := by
  unfold argH at q
  by_cases hb : b ∈ A
  · rw [if_pos hb] at q
    cases hk : K.lookup b with
    | none => exact ⟨hb, rfl⟩
    | some o =>
      rw [hk, if_neg (by simp)] at q
      cases q
  · rw [if_neg hb] at q
    cases q
/-- what stands tracked -/
theorem argH_is (ar : ∀ a ∈ A, ArgOb h A a) {b : Addr} {u : HO} (q : argH K h A b = some u) : K.lookup b = none ∧ ∃ vs : List Value, vs.length ≤ sizeLine ∧ (∀ u ∈ vs, OkU A u) ∧
    ((h.get? b = some { cls := .type "list", data := .seq vs.toArray } ∧ u = .frz { cls := .type "list", data := .seq vs.toArray } (.lst (vs.map toV))) ∨
     (h.get? b = some { cls := .type "tuple", data := .seq vs.toArray } ∧ u = .frz { cls := .type "tuple", data := .seq vs.toArray } (.tup (vs.map toV)))) := by
  obtain ⟨hb, hk⟩ := of_argH q
  obtain ⟨vs, h1, h2, h3⟩ := ar b hb
  refine ⟨hk, vs, h1, h2, ?_⟩
  rcases h3 with e | e
  · rw [argH_at hb hk e, hoOf_lst] at q
    exact .inl ⟨e, (Option.some.inj q).symm⟩
  · rw [argH_at hb hk e, hoOf_tup] at q
    exact .inr ⟨e, (Option.some.inj q).symm⟩
theorem argH_only (ar : ∀ a ∈ A, ArgOb h A a) : OnlyF (argH K h A) := fun b => by
  cases q : argH K h A b with
  | none => exact .inl rfl
  | some u =>
    obtain ⟨_, vs, _, _, ⟨_, e⟩ | ⟨_, e⟩⟩ := argH_is ar q
    · exact .inr ⟨_, _, by rw [e]⟩
    · exact .inr ⟨_, _, by rw [e]⟩
theorem argH_ok (ar : ∀ a ∈ A, ArgOb h A a) : HOk P w (argH K h A) h := fun b u q => by
  obtain ⟨_, vs, h1, h2, ⟨e, rfl⟩ | ⟨e, rfl⟩⟩ := argH_is ar q
  · exact ⟨e, by rw [List.length_map]; exact h1, vs, _, vals_toV h2, e⟩
  · exact ⟨e, by rw [List.length_map]; exact h1, vs, vals_toV h2, _, e, rfl, _, rfl⟩
theorem seq_inj {c c' : Value} {vs us : List Value} (e : (some { cls := c, data := .seq vs.toArray } : Option Obj) = some { cls := c', data := .seq us.toArray }) : c = c' ∧ vs = us := by
  have e1 := Option.some.inj e
  have e2 : c = c' := congrArg Obj.cls e1
  have e3 : Data.seq vs.toArray = Data.seq us.toArray := congrArg Obj.data e1
  injection e3 with e4
  refine ⟨e2, ?_⟩
  have e5 := congrArg Array.toList e4
  simpa using e5
/-- a list argument -/
theorem argL (KX : K.In h) (ar : ∀ a ∈ A, ArgOb h A a) {a : Addr} {vs : List Value} (ha : a ∈ A) (e : h.get? a = some { cls := .type "list", data := .seq vs.toArray }) : (∀ u ∈ vs, OkU A u) ∧ SqL K (argH K h A) a (vs.map toV) := by
  obtain ⟨us, h1, h2, h3⟩ := ar a ha
  have hu : us = vs := by
    rcases h3 with q | q
    · rw [e] at q
      exact (seq_inj q).2.symm
    · rw [e] at q
      exact absurd (Value.type.inj (seq_inj q).1) (by decide)
  subst hu
  refine ⟨h2, ?_⟩
  cases hk : K.lookup a with
  | none => exact .inl (.inr ⟨_, by rw [argH_at ha hk e, hoOf_lst]⟩)
  | some o =>
    have e2 := KX a o hk
    rw [e] at e2
    obtain rfl := Option.some.inj e2
    exact .inr ⟨_, us.toArray, _, hk, rfl, rfl, rfl, by rw [List.size_toArray]; exact h1, by simpa using vals_toV h2⟩
theorem argT (KX : K.In h) (ar : ∀ a ∈ A, ArgOb h A a) {a : Addr} {vs : List Value} (ha : a ∈ A) (e : h.get? a = some { cls := .type "tuple", data := .seq vs.toArray }) : (∀ u ∈ vs, OkU A u) ∧ SqT K (argH K h A) a (vs.map toV) := by
  obtain ⟨us, h1, h2, h3⟩ := ar a ha
  have hu : us = vs := by
    rcases h3 with q | q
    · rw [e] at q
      exact absurd (Value.type.inj (seq_inj q).1) (by decide)
    · rw [e] at q
      exact (seq_inj q).2.symm
  subst hu
  refine ⟨h2, ?_⟩
  cases hk : K.lookup a with
  | none => exact .inl (.inr ⟨_, by rw [argH_at ha hk e, hoOf_tup]⟩)
  | some o =>
    have e2 := KX a o hk
    rw [e] at e2
    obtain rfl := Option.some.inj e2
    exact .inr ⟨_, us.toArray, _, hk, rfl, rfl, by rw [List.size_toArray]; exact h1, by simpa using vals_toV h2⟩
mutual
theorem dw_one {Pm : Params} (KX : K.In h) (ar : ∀ a ∈ A, ArgOb h A a) : ∀ (d : WData) (v : Value), Well Pm h v d → plW d = true → OkU A v → Dw K (argH K h A) (toV v) d
  | .none, _, x, _, _ => by
    cases x
    exact .non
  | .bool b, _, x, _, _ => by
    cases x
    exact .bl b
  | .int i, _, x, _, _ => by
    cases x
    exact .int i
  | .str s, _, x, _, _ => by
    cases x
    exact .str s
  | .bytes b, _, x, _, _ => by
    cases x
    have z := Dw.byt (K := K) (H := argH K h A) b.toArray
    exact z
  | .list ds, _, x, p, hu => by
    obtain ⟨a, vs, rfl, ho, hall⟩ := well_list x
    obtain ⟨h2, hs⟩ := argL KX ar hu ho
    exact .lst hs (dw_all KX ar ds _ hall p h2)
  | .tuple ds, _, x, p, hu => by
    obtain ⟨a, vs, rfl, ho, hall⟩ := well_tuple x
    obtain ⟨h2, hs⟩ := argT KX ar hu ho
    exact .tup hs (dw_all KX ar ds _ hall p h2)
  | .float _, _, _, p, _ => Bool.noConfusion (show false = true from p)
  | .dict _, _, _, p, _ => Bool.noConfusion (show false = true from p)
  | .bytearray _, _, _, p, _ => Bool.noConfusion (show false = true from p)
  | .set _, _, _, p, _ => Bool.noConfusion (show false = true from p)
  | .frozenset _, _, _, p, _ => Bool.noConfusion (show false = true from p)
  | .obj _ _, _, _, p, _ => Bool.noConfusion (show false = true from p)
theorem dw_all {Pm : Params} (KX : K.In h) (ar : ∀ a ∈ A, ArgOb h A a) : ∀ (ds : List WData) (vs : List Value), WellAll Pm h vs ds → plWs ds = true → (∀ u ∈ vs, OkU A u) → DwAll K (argH K h A) (vs.map toV) ds
  | [], _, x, _, _ => by
    cases x
    exact .nil
  | d :: ds, _, x, p, hu => by
    obtain ⟨v, vs, rfl, x1, x2⟩ := well_cons x
    have q : plW d = true ∧ plWs ds = true := Bool.and_eq_true_iff.mp p
    exact .cons (dw_one KX ar d v x1 q.1 (hu _ (List.mem_cons_self ..))) (dw_all KX ar ds vs x2 q.2 fun u m => hu u (List.mem_cons_of_mem _ m))
end
end
/-! ### the call -/
theorem spec_call {P : Program} {w : World} {K : PySem.W.Frag} {mg mb : Str → Option Value} {CX : CXT} {k : Nat} {fa : Addr} {fd : FuncData} {ps : List Str} {sp : Sp} {s₁ : Shared} {vals : List Value} {ds : List WData} {R : PySem.W.WRecords} {cl : Str → Option Addr} {d0 : WData}
    (KX : K.In s₁.heap) (hns : s₁.heap.Ns mainGlobals mg) (hb : s₁.heap.Ns builtinsNs mb) (hbb : ∀ x : Str, x ≠ "__name__" → mb x = bootBuiltins x) (hlim : s₁.heap.NoLimit) (hg : s₁.gens = #[])
    (hwl : WellAll w.params s₁.heap vals ds) (hpl : plWs ds = true) (hwt : ∀ d ∈ ds, d.weight ≤ 1048576) (hr : Room k callerA)
    (F : ∀ base : Heap, K.In base → base.Ns mainGlobals mg → FnOk P w K mg base CX k fa fd ps sp) (hbind : ∀ (s : Shared) (us : List Value), us.length = ps.length → BindsTo s fd ⟨us, []⟩ (ps.zip us)) (hlen : ds.length = ps.length)
    (hsp : ∀ (H : Hp) (xs : List V), OnlyF H → DwAll K H xs ds → sp xs H (fun v H' => Dw K H' v d0) fun _ _ _ => False)
    (hCX : ∀ H e s', CX [] H s₁ (fun _ _ _ => False) e s' → False) :
    codeAny (model P w) callerA (.call (.ref fa) ⟨vals, []⟩) (fun r s' => ∃ u as, r = .ok (.ret u) ∧ ReadsW R cl s'.heap u d0 as ∧ OldK s₁.heap s'.heap ∧ s'.os = s₁.os ∧ AllBare s'.gens) s₁ := by
  obtain ⟨A, ho, ar⟩ := area_all ds vals hwl hpl hwt
  have hO : OnlyF (argH K s₁.heap A) := argH_only ar
  have hok : HOk P w (argH K s₁.heap A) s₁.heap := argH_ok ar
  have hS := dw_all KX ar ds vals hwl hpl ho
  have hV := vals_toV ho
  have hK : ∀ b u, argH K s₁.heap A b = some u → K.lookup b = none := fun b u q => (argH_is ar q).1
  have noA : ∀ {b : Addr} {o : Obj} {es : Array DictEntry} {ep : Nat}, s₁.heap.get? b = some o → o.data = .dict es ep → argH K s₁.heap A b = none := fun {b o es ep} e d => by
    cases q : argH K s₁.heap A b with
    | none => rfl
    | some u =>
      obtain ⟨_, vs, _, _, ⟨e2, _⟩ | ⟨e2, _⟩⟩ := argH_is ar q
      · rw [e2] at e
        cases e
        have d' : Data.seq vs.toArray _ = Data.dict es ep := d
        cases d'
      · rw [e2] at e
        cases e
        have d' : Data.seq vs.toArray _ = Data.dict es ep := d
        cases d'
  generalize argH K s₁.heap A = H at hO hok hS hK noA
  have base_of : ∀ {b : Addr} {o : Obj}, s₁.heap.get? b = some o → H b = none → (hidT s₁.heap H).get? b = some o := fun e n => hidT_get e n
  have nsK : ∀ {b : Addr} {m : Str → Option Value}, s₁.heap.Ns b m → (hidT s₁.heap H).Ns b m := fun {b m} ⟨o, es, ep, e, d, r⟩ => ⟨o, es, ep, base_of e (noA e d), d, r⟩
  have nK : ∀ b o, K.lookup b = some o → H b = none := fun b o e => by
    cases q : H b with
    | none => rfl
    | some u =>
      rw [hK b u q] at e
      cases e
  have hKb : K.In (hidT s₁.heap H) := fun b o e => base_of (KX b o e) (nK b o e)
  have hM : Mod K mg (hidT s₁.heap H) := ⟨hKb, nsK hns, ⟨mb, nsK hb, hbb⟩, let ⟨mc, h1, h2⟩ := hlim; ⟨mc, nsK h1, h2⟩⟩
  have e0 : Env0 P w K mg (hidT s₁.heap H) callerA [] s₁ H := ⟨rfl, hM, fun b o e => of_hidT e, Nat.le_of_eq (hidT_size _ _), trivial, fun b hb => absurd (show b ∈ ([] : List Addr) from hb) (by simp), hok, .of_eq hg⟩
  have hl : vals.length = ps.length := by rw [wellAll_len hwl]; exact hlen
  refine codeAny_mono ((F _ hKb (nsK hns)).run callerA [] s₁ H ⟨vals, []⟩ vals (vals.map toV) _ _ hr e0 (hbind s₁ vals hl) hV (hsp H _ hO hS)) fun r s' x => ?_
  cases r with
  | error e => exact (hCX H e s' x).elim
  | ok fl =>
    cases fl with
    | next => exact False.elim x
    | brk => exact False.elim x
    | cont => exact False.elim x
    | ret u =>
      obtain ⟨v, H', os, bare, un, hok', r', q⟩ := x
      have kept : ∀ b o, s₁.heap.get? b = some o → s'.heap.get? b = some o := fun b o e => by
        cases q2 : H b with
        | none => exact un.keep b o e q2 (by intro z; exact absurd (show b ∈ ([] : List Addr) from z) (by simp)) (by simp)
        | some u2 =>
          rcases hO b with z | ⟨ob, u3, z⟩
          · rw [q2] at z
            cases z
          · have z2 := un.frzs b ob _ z
            obtain ⟨e1, _⟩ := hok b _ z
            obtain ⟨e2, _⟩ := hok' b _ z2
            rw [e] at e1
            cases e1
            exact e2
      have KX' : K.In s'.heap := fun b o e => kept b o (KX b o e)
      obtain ⟨as, hrd⟩ := Dw.reads (R := R) (cl := cl) hok' KX' d0 v u q r'
      exact ⟨u, as, rfl, hrd, OldK.of_keep kept, os, bare⟩
/-! ### the row -/
theorem layable_weight {ds : List WData} (h : WData.layableAll ds = true) : ∀ d ∈ ds, d.weight ≤ 1048576 := fun d hd =>
  (PySem.W.layableW_iff.mp (List.all_eq_true.mp h d hd)).2.2
theorem encAll_len : ∀ (cs : List Codec) (a : Codec.denoteAll cs), (Codec.encAll cs a).length = cs.length
  | [], _ => rfl
  | c :: cs, a => by
    show (Codec.encAll cs a.2).length + 1 = cs.length + 1
    rw [encAll_len cs a.2]
/-- the goal that k_headS leaves (case hc), from the promise of the row's def: whatever the arguments that the codecs let and the row asks for, the def gives what stands for enc (f ..) -/
theorem walk_spec {r : OpenSpec} {k : Nat} {q : Program} {loose : List Str} {XP : (Str → Option Value) → Heap → Prop} {YP : World → Heap → Prop} {d : DefRec} {K : Params → PySem.W.Frag} {CX : World → CXT} {ps : List Str} {sp : World → Sp}
    (hwell : r.wellSaid = true) (hdf : d.params.defaults = []) (hlen : r.args.length = ps.length) (hr : Room k callerA)
    (hY : ∀ (w : World) (h : Heap), YP w h → (K w.params).In h)
    (F : ∀ (w : World) (mg : Str → Option Value) (fa : Addr) (h : Heap), YP w h → (K w.params).In h → h.Ns mainGlobals mg → mg d.name = some (.ref fa) →
      ∃ fd : FuncData, (∀ (s : Shared) (us : List Value), us.length = ps.length → BindsTo s fd ⟨us, []⟩ (ps.zip us)) ∧
        ∀ base : Heap, (K w.params).In base → base.Ns mainGlobals mg → FnOk r.prog w (K w.params) mg base (CX w) k fa fd ps (sp w))
    (hsp : ∀ (w : World) (H : Hp) (xs : List V) (a : Codec.denoteAll r.args), OnlyF H → Codec.withinAll r.args a = true → Codec.app r.args r.asked a = true → DwAll (K w.params) H xs (Codec.encAll r.args a) →
      sp w xs H (fun v H' => Dw (K w.params) H' v (r.ret.enc (Codec.app r.args r.f a))) fun _ _ _ => False)
    (hCX : ∀ (w : World) (H : Hp) (s : Shared) (e : Value) (s' : Shared), CX w [] H s (fun _ _ _ => False) e s' → False) :
    PySem.W.WalkOS q loose XP YP r d [] (fun f vs => PySem.call f vs) := by
  intro w s_0 s₁ mg mb G Y fa o pm cd doc dV kV ho hd hcd hD hmg hg args vals as hpre hlay hrd hwl hlo
  obtain ⟨a, e1, e2⟩ := PySem.W.os_pre_some hpre
  obtain ⟨e3, hwi⟩ := Codec.encAll_of_decAll r.args args a e1
  subst e3
  have KX := hY w _ Y
  obtain ⟨fd, hb, hF⟩ := F w mg fa _ Y KX G.T.g hmg
  refine PySem.W.enter_call (codeAny_mono (spec_call (R := []) (cl := classAt s_0.heap) (d0 := r.ret.enc (Codec.app r.args r.f a)) KX G.T.g G.T.b G.T.builtins G.T.nolimit hg hwl (pl_encAll _ _) (layable_weight hlay) hr hF hb (by rw [encAll_len]; exact hlen)
    (fun H xs hO hS => hsp w H xs a hO hwi e2 hS) fun H e s' => hCX w H s₁ e s') fun r' s' hq => ?_)
  obtain ⟨u, as', rfl, h1, h2, h3, h4⟩ := hq
  exact ⟨.inl ⟨u, _, as', rfl, fun _ => rfl, h1, (OpenSpec.post_iff hwell hwi _ _).mpr rfl, fun z => Bool.noConfusion (show false = true from z)⟩, h2, h3, h4⟩
/-- the same where the promise hangs on the written part alone -/
theorem walk_specK {r : OpenSpec} {k : Nat} {q : Program} {loose : List Str} {XP : (Str → Option Value) → Heap → Prop} {YP : World → Heap → Prop} {d : DefRec} {K : Params → PySem.W.Frag} {CX : CXT} {ps : List Str} {sp : PySem.W.Frag → Sp}
    (hwell : r.wellSaid = true) (hdf : d.params.defaults = []) (hlen : r.args.length = ps.length) (hr : Room k callerA)
    (hY : ∀ (w : World) (h : Heap), YP w h → (K w.params).In h)
    (F : ∀ (w : World) (mg : Str → Option Value) (fa : Addr) (h : Heap), YP w h → (K w.params).In h → h.Ns mainGlobals mg → mg d.name = some (.ref fa) →
      ∃ fd : FuncData, (∀ (s : Shared) (us : List Value), us.length = ps.length → BindsTo s fd ⟨us, []⟩ (ps.zip us)) ∧
        ∀ base : Heap, (K w.params).In base → base.Ns mainGlobals mg → FnOk r.prog w (K w.params) mg base CX k fa fd ps (sp (K w.params)))
    (hsp : ∀ (K : PySem.W.Frag) (H : Hp) (xs : List V) (a : Codec.denoteAll r.args), OnlyF H → Codec.withinAll r.args a = true → Codec.app r.args r.asked a = true → DwAll K H xs (Codec.encAll r.args a) →
      sp K xs H (fun v H' => Dw K H' v (r.ret.enc (Codec.app r.args r.f a))) fun _ _ _ => False)
    (hCX : ∀ (H : Hp) (s : Shared) (e : Value) (s' : Shared), CX [] H s (fun _ _ _ => False) e s' → False) :
    PySem.W.WalkOS q loose XP YP r d [] (fun f vs => PySem.call f vs) :=
  walk_spec (K := K) (CX := fun _ => CX) (sp := fun w => sp (K w.params)) hwell hdf hlen hr hY F (fun w H xs a h1 h2 h3 h4 => hsp (K w.params) H xs a h1 h2 h3 h4) fun _ H s e s' => hCX H s e s'
end L2
-- rests on (row put in by the clerk, for the bench that shows a file only what it spells): KE.SpHead KE.OsShapes
end

set_option Elab.async false
set_option linter.all false
set_option maxRecDepth 100000
set_option maxHeartbeats 2000000
namespace JX
open PySem PySem.Spec PyProof.Rows PySem.SeqAt
/-! list.index from a place on -/
theorem list_index3At (l : Addr) (items : Array Value) (n : Nat) (dd : Option Addr) (sl : Array (Option Value)) (x : Value) (e : Value → Bool) (a : Nat) (t : Tok) (j : Nat) (hj : j < items.size) (hsmall : (j : Int) < 2 ^ 63 - 1) (haj : a ≤ j)
    (hit : e items[j] = true) (hno : ∀ m (hm : m < items.size), a ≤ m → m < j → e items[m] = false) :
    Meets (Builtin.«list.index» ⟨[.ref l, x, .int (a : Nat) t], []⟩)
      (fun A R s => s.heap.get? l = some { cls := .type "list", dict := dd, data := .seq items n, slots := sl } ∧ (∀ y, y ∈ items → EqAt A.in1 s y x (e y)) ∧ R (.ok (.ret (.int j s.toks))) { s with toks := s.toks + 1 }) := by
  intro prog w A R s h
  obtain ⟨hp, g, d, tk, os⟩ := s; obtain ⟨hl, he, h⟩ := h
  wp_walk using AutoSeq1.wpAny_loadPart' hl
  have a1 : ((fun i : Int => if i < 0 then max 0 (i + (items.size : Int)) else i) ((some (a : Int) : Option Int).getD 0)) = ((a : Nat) : Int) := by
    show (if (a : Int) < 0 then max 0 ((a : Int) + (items.size : Int)) else (a : Int)) = (a : Int)
    rw [if_neg (by omega)]
  have a2 : ((fun i : Int => if i < 0 then max 0 (i + (items.size : Int)) else i) ((none : Option Int).getD (2 ^ 63 - 1))) = 2 ^ 63 - 1 := by simp
  rw [a1, a2]
  exact ⟨plainId_quiet MeetsSeq.plain_index_loop _, codeAny_builtin MeetsSeq.entry_index_loop (by
    rw [Around.under_plainId MeetsSeq.plain_index_loop _]
    exact index_loopAt l items n dd sl x e (2 ^ 63 - 1) j hj hsmall hit _ a rfl haj (fun m hm h1 h2 => hno m hm h1 h2) prog w A R _ ⟨hl, he, h⟩)⟩
end JX
namespace L2
open PySem PySem.Spec PyProof.Rows
section
variable {X : Cx}
def rIndex3 (K : PySem.W.Frag) : V → List V → Hp → VK → Prop := fun x xs H Q => ∃ (a : Addr) (ns : List Int) (k : Int) (b j : Nat), x = V.ref a ∧ xs = [.int k, .int (b : Nat)] ∧ SqL K H a (ns.map V.int) ∧ b ≤ j ∧ ns[j]? = some k ∧
  (∀ (m : Nat) (z : Int), b ≤ m → m < j → ns[m]? = some z → z ≠ k) ∧ Q (.int (j : Nat)) H
theorem mt_index3 : MtR X "list.index" (rIndex3 X.K) := by
  intro pins s σ H x xs v us Q I rx rxs h
  obtain ⟨a, ns, k, b, j, rfl, rfl, hs, hbj, hz, hno, q⟩ := h
  cases rx
  cases rxs with
  | cons ry rt =>
    rename_i uy ut
    cases rt with
    | cons rb rt =>
    cases rt
    obtain ⟨tb, rfl⟩ := rb
    obtain ⟨its, rv, ⟨⟨cls, dd, data, sl⟩, n, ho, hc, hdn, hd⟩, hlen⟩ := I.list hs
    simp only at hc hd
    subst hc hd
    have hz' : (ns.map V.int)[j]? = some (V.int k) := by rw [List.getElem?_map, hz]; rfl
    obtain ⟨u, hu, ru⟩ := rv.get hz'
    obtain ⟨hjl, hje⟩ := List.getElem?_eq_some_iff.mp hu
    have hvl := rv.length
    have hj : j < its.toArray.size := by simpa using hjl
    have hsl := sizeLine_eq
    have fys : (ns.map V.int).all flatV = true := by
      rw [List.all_map]
      exact List.all_eq_true.mpr fun _ _ => rfl
    have fy : flatV (V.int k) = true := rfl
    refine call_meets PySem.F.slot_list_index ⟨_, ho, rfl⟩ PySem.F.entry_list_index (PySem.F.args_list_index_3 _ _ _)
      (JX.list_index3At a its.toArray n dd sl uy (eqU (V.int k)) b tb j hj (by omega) hbj ?_ ?_) ⟨ho, fun u' hu' => mem_eqAt ry fy rv fys u' (by simpa using hu'), ?_⟩
    · have e1 : its.toArray[j] = u := by simpa using hje
      rw [e1, eqU_of ru (flat_at fys hz')]
      simp [eqV]
    · intro m hm hbm hmj
      have hml : m < its.length := by simpa using hm
      have hmy : m < ns.length := by rw [List.length_map] at hvl; omega
      have hy' : (ns.map V.int)[m]? = some (V.int ns[m]) := by rw [List.getElem?_map, List.getElem?_eq_getElem hmy]; rfl
      obtain ⟨u2, hu2, ru2⟩ := rv.get hy'
      obtain ⟨_, hme⟩ := List.getElem?_eq_some_iff.mp hu2
      have e1 : its.toArray[m] = u2 := by simpa using hme
      rw [e1, eqU_of ru2 (flat_at fys hy')]
      have := hno m ns[m] hbm hmj (List.getElem?_eq_getElem hmy)
      simp [eqV, this]
    · exact ⟨.int (j : Nat), H, I.tok _, ⟨_, rfl⟩, q⟩
/-- xs[i], by values -/
def rGetL (K : PySem.W.Frag) : V → V → Hp → VK → Prop := fun o i H Q => ∃ p xs, ∃ j : Nat, ∃ v, o = .ref p ∧ i = .int (j : Nat) ∧ SqL K H p xs ∧ xs[j]? = some v ∧ Q v H
theorem get_list : PGet X (rGetL X.K) := by
  intro pins s σ H o i ov iv Q I ro ri h
  obtain ⟨p, xs, j, v, rfl, rfl, hq, hv, q⟩ := h
  cases ro
  obtain ⟨t, rfl⟩ := ri
  obtain ⟨its, r, pl, hz⟩ := I.list hq
  obtain ⟨w, ew, rw'⟩ := r.get hv
  have hl := r.length
  have hn := line63
  have hj : j < xs.length := (List.getElem?_eq_some_iff.mp hv).1
  exact wpAny_getItem_list pl.isList (by omega) (by omega) (by simpa using ew) ⟨v, H, I, rw', q⟩
/-- sorted(xs, reverse=True), ints -/
def tSortedR (K : PySem.W.Frag) (ta : TA) : TE := fun σ H Q => ta σ H fun vs H1 => ∃ (a : Addr) (ns : List Int), vs = [V.ref a] ∧ SqL K H1 a (ns.map V.int) ∧ ns.length < 64 ∧
  ∀ (ns' : List Int) (p : Addr), ns'.Perm ns → ns'.Pairwise (· ≥ ·) → H1 p = none → Q (.ref p) (upd H1 p (.lst (ns'.map V.int)))
theorem pe_sortedR {e : Expr} {ta : TA} {p pos kp cp : Pos} {j : Nat} (hg : Gl X "sorted") (hm : X.mg "sorted" = none) (ha : PA X [e] ta)
    (hs : starEach [e] X.env = [(false, eval e X.env)] := by rfl) : PE X (.Call (.Name "sorted" p) [e] [⟨some "reverse", .Constant (.bool true) j cp, kp⟩] pos) (tSortedR X.K ta) := by
  intro pins s σ H Q I h
  refine wpAny_Call_Name_kw (ld_blt I hg hm PyProof.Rows.boot_sorted ?_)
  refine callWith_kw (he := by rw [hs]; rfl) (hplain := by rw [hs]; rfl) (thn (ha pos pins s σ H _ I h) fun us s1 ⟨vs, H1, I1, r1, q1⟩ => ?_)
  · obtain ⟨a, ns, rfl, hq, h64, q⟩ := q1
    have hk : PK X [⟨some "reverse", .Constant (.bool true) j cp, kp⟩] (tCons (tC (.bl true)) tNil) := pk_cons pe_bl pk_nil
    refine thn (hk pos pins s1 σ H1 (fun zs H2 => zs = [.bl true] ∧ H2 = H1) I1 ⟨rfl, rfl⟩) fun ws s2 ⟨zs, H2, I2, r2, e1, e2⟩ => ?_
    subst e1 e2
    cases r2 with
    | cons rb rt =>
      cases rt
      cases rb
      obtain ⟨its, rv, hl, _⟩ := I2.list hq
      rw [Vals.ref1 r1]
      have hi := rv.ints
      refine PyProof.Rows.sorted_ints_rev (b := true) hl.isList hi (by rw [hi.length]; exact h64) fun out ns' h1 h2 h3 => ?_
      obtain ⟨ep, he'⟩ := PyProof.Rows.sortedAll_at s2.heap its out
      have hlen : (ns'.map V.int).length ≤ sizeLine := by rw [List.length_map, h2.length_eq]; exact small64 h64
      exact ⟨.ref _, upd _ (s2.heap.objs.size + 1) (.lst (ns'.map V.int)), I2.laid (t' := s2.toks) (fun _ _ => PyProof.Rows.sortedAll_old) (Nat.le_succ _) ⟨hlen, out.toList, ep, vals_of_ints h1, he'⟩, rfl, q ns' _ h2 h3 (I2.hok.fresh (Nat.le_succ _))⟩
end
end L2

/-! The mathematics: the specification's reading of a text, step by step, over lists of ints. -/
namespace Jm
open Jug

def by8 (t : List Int) : Bytes := t.map fun z => UInt8.ofNat z.toNat
def hI (z : Int) : Int := if 48 ≤ z ∧ z ≤ 57 then z - 48 else if 97 ≤ z ∧ z ≤ 102 then z - 97 + 10 else -1
def Ok8 (t : List Int) : Prop := ∀ z ∈ t, 0 ≤ z ∧ z ≤ 255

theorem Ok8.drop {t : List Int} (h : Ok8 t) (n : Nat) : Ok8 (t.drop n) := fun z hz => h z (List.mem_of_mem_drop hz)
theorem by8_nil : by8 [] = [] := rfl
theorem by8_cons (z : Int) (r : List Int) : by8 (z :: r) = UInt8.ofNat z.toNat :: by8 r := rfl
theorem by8_length (t : List Int) : (by8 t).length = t.length := by simp [by8]
theorem u8_toNat {z : Int} (h0 : 0 ≤ z) (h1 : z ≤ 255) : (UInt8.ofNat z.toNat).toNat = z.toNat := by
  rw [UInt8.toNat_ofNat']
  have : z.toNat < 256 := by omega
  omega
theorem u8_eq {z : Int} (h0 : 0 ≤ z) (h1 : z ≤ 255) (c : UInt8) : UInt8.ofNat z.toNat = c ↔ z = (c.toNat : Int) := by
  constructor
  · intro h
    have := congrArg UInt8.toNat h
    rw [u8_toNat h0 h1] at this
    omega
  · intro h
    apply UInt8.toNat_inj.mp
    rw [u8_toNat h0 h1]
    omega
theorem u8_93 {z : Int} (h0 : 0 ≤ z) (h1 : z ≤ 255) : UInt8.ofNat z.toNat = 93 ↔ z = 93 := u8_eq h0 h1 93
theorem u8_91 {z : Int} (h0 : 0 ≤ z) (h1 : z ≤ 255) : UInt8.ofNat z.toNat = 91 ↔ z = 91 := u8_eq h0 h1 91
theorem hI_lt (z : Int) : hI z < 16 := by unfold hI; split <;> (try split) <;> omega

theorem digitIn_none {z : Int} (h0 : 0 ≤ z) (h1 : z ≤ 255) (h : hI z < 0) : digitIn (UInt8.ofNat z.toNat) = none := by
  unfold digitIn
  rw [u8_toNat h0 h1]
  unfold hI at h
  split at h
  · omega
  · split at h
    · omega
    · rw [if_neg (by omega), if_neg (by omega)]
theorem digitIn_some {z : Int} (h0 : 0 ≤ z) (h1 : z ≤ 255) (h : 0 ≤ hI z) : digitIn (UInt8.ofNat z.toNat) = some (hI z).toNat := by
  unfold digitIn
  rw [u8_toNat h0 h1]
  unfold hI at h ⊢
  split at h
  · rename_i q
    rw [if_pos (by omega), if_pos q]
    congr 1
    omega
  · rename_i q
    split at h
    · rename_i q'
      rw [if_neg (by omega), if_pos (by omega), if_neg q, if_pos q']
      congr 1
      omega
    · omega
/-! handIn, a byte at a time -/
theorem hand_nil (p : Nat) (l : List Nat) : handIn p (by8 []) l = .error p := by simp [by8, handIn]
theorem hand_close (p : Nat) {z : Int} (r : List Int) (l : List Nat) (h : z = 93) : handIn p (by8 (z :: r)) l = if l.length < 2 then .error p else .ok (falling l, p + 1, by8 r) := by
  subst h
  rw [by8_cons]
  show handIn p ((93 : UInt8) :: by8 r) l = _
  rw [handIn, if_pos rfl]
theorem hand_bad (p : Nat) {z : Int} (r : List Int) (l : List Nat) (h0 : 0 ≤ z) (h1 : z ≤ 255) (h : z ≠ 93) (hb : 3 ≤ l.length ∨ hI z < 1) : handIn p (by8 (z :: r)) l = .error p := by
  rw [by8_cons, handIn, if_neg (fun e => h ((u8_93 h0 h1).mp e))]
  by_cases hn : hI z < 0
  · rw [digitIn_none h0 h1 hn]
  · rw [digitIn_some h0 h1 (by omega)]
    show (if (hI z).toNat = 0 ∨ ATONCE ≤ l.length then _ else _) = _
    rw [if_pos]
    show (hI z).toNat = 0 ∨ 3 ≤ l.length
    omega
theorem hand_go (p : Nat) {z : Int} (r : List Int) (l : List Nat) (h0 : 0 ≤ z) (h1 : z ≤ 255) (h : z ≠ 93) (hl : l.length < 3) (hb : 1 ≤ hI z) :
    handIn p (by8 (z :: r)) l = handIn (p + 1) (by8 r) (l ++ [(hI z).toNat]) := by
  rw [by8_cons, handIn, if_neg (fun e => h ((u8_93 h0 h1).mp e)), digitIn_some h0 h1 (by omega)]
  show (if (hI z).toNat = 0 ∨ ATONCE ≤ l.length then _ else _) = _
  rw [if_neg]
  show ¬((hI z).toNat = 0 ∨ 3 ≤ l.length)
  omega
def dg (z : Int) : Nat := (hI z).toNat
theorem hand_ok : ∀ (r : List Int) (p : Nat) (l : List Nat) (x : Beat) (q : Nat) (s : Bytes), Ok8 r → handIn p (by8 r) l = .ok (x, q, s) →
    ∃ ds rest, r = ds ++ 93 :: rest ∧ q = p + ds.length + 1 ∧ s = by8 rest ∧ x = falling (l ++ ds.map dg) ∧ (∀ z ∈ ds, 1 ≤ hI z ∧ z ≠ 93) ∧ 2 ≤ (l ++ ds.map dg).length ∧ ((l ++ ds.map dg).length ≤ max 3 l.length)
  | [], p, l, x, q, s, _, h => by rw [hand_nil] at h; cases h
  | z :: r, p, l, x, q, s, h8, h => by
    obtain ⟨h0, h1⟩ := h8 z (List.mem_cons_self)
    by_cases hz : z = 93
    · rw [hand_close p r l hz] at h
      split at h
      · cases h
      · rename_i hl
        cases h
        refine ⟨[], r, by rw [hz]; rfl, rfl, rfl, by simp, by simp, by simp; omega, by simp; omega⟩
    · by_cases hb : 3 ≤ l.length ∨ hI z < 1
      · rw [hand_bad p r l h0 h1 hz hb] at h
        cases h
      · rw [hand_go p r l h0 h1 hz (by omega) (by omega)] at h
        obtain ⟨ds, rest, e1, e2, e3, e4, e5, e6, e7⟩ := hand_ok r (p + 1) _ x q s (fun y hy => h8 y (List.mem_cons_of_mem _ hy)) h
        refine ⟨z :: ds, rest, by rw [e1]; rfl, by rw [e2, List.length_cons]; omega, e3, by rw [e4]; simp [dg], ?_, ?_, ?_⟩
        · intro y hy
          rcases List.mem_cons.mp hy with rfl | hy
          · exact ⟨by omega, hz⟩
          · exact e5 y hy
        · simp at e6 ⊢; omega
        · simp at e7 ⊢; omega
/-! one beat -/
def stepIn (p : Nat) : Bytes → Except Nat (Beat × Nat × Bytes)
  | [] => .error p
  | c :: r => if c = 91 then handIn (p + 1) r [] else match digitIn c with
    | none => .error p
    | some n => .ok (if n = 0 then [] else [n], p + 1, r)
theorem beats_nil (f p : Nat) (l : Pattern) : beatsIn (f + 1) p [] l = if l.isEmpty = true then .error p else .ok l := by rw [beatsIn]
theorem beats_long (f p : Nat) (c : UInt8) (r : Bytes) (l : Pattern) (h : 16 ≤ l.length) : beatsIn (f + 1) p (c :: r) l = .error p := by
  rw [beatsIn, if_pos (show LONG ≤ l.length from h)]
theorem beats_err (f p : Nat) (c : UInt8) (r : Bytes) (l : Pattern) (h : l.length < 16) {e : Nat} (hs : stepIn p (c :: r) = .error e) : beatsIn (f + 1) p (c :: r) l = .error e := by
  rw [beatsIn, if_neg (show ¬ LONG ≤ l.length by show ¬ 16 ≤ l.length; omega)]
  unfold stepIn at hs
  dsimp only at hs
  by_cases hc : c = 91
  · rw [if_pos hc] at hs ⊢
    rw [hs]
  · rw [if_neg hc] at hs ⊢
    cases hd : digitIn c with
    | none => rw [hd] at hs; cases hs; rfl
    | some n => rw [hd] at hs; cases hs
theorem beats_go (f p : Nat) (c : UInt8) (r : Bytes) (l : Pattern) (h : l.length < 16) {x : Beat} {q : Nat} {s : Bytes} (hs : stepIn p (c :: r) = .ok (x, q, s)) : beatsIn (f + 1) p (c :: r) l = beatsIn f q s (l ++ [x]) := by
  rw [beatsIn, if_neg (show ¬ LONG ≤ l.length by show ¬ 16 ≤ l.length; omega)]
  unfold stepIn at hs
  dsimp only at hs
  by_cases hc : c = 91
  · rw [if_pos hc] at hs ⊢
    rw [hs]
  · rw [if_neg hc] at hs ⊢
    cases hd : digitIn c with
    | none => rw [hd] at hs; cases hs
    | some n => rw [hd] at hs; cases hs; rfl
/-- a beat without a fault: its bytes -/
theorem step_ok {t : List Int} {p : Nat} {x : Beat} {q : Nat} {s : Bytes} (h8 : Ok8 t) (h : stepIn p (by8 t) = .ok (x, q, s)) :
    ∃ seg rest, t = seg ++ rest ∧ q = p + seg.length ∧ s = by8 rest ∧ 1 ≤ seg.length ∧ seg.length ≤ 5 ∧ x = falling (((seg.map hI).filter (fun z => decide (0 < z))).map Int.toNat) ∧
      (x.length ≤ 3 ∧ ∀ n ∈ ((seg.map hI).filter (fun z => decide (0 < z))), 1 ≤ n ∧ n ≤ 15) ∧
      (∀ z r, t = z :: r → (z = 91 → ∃ ds, seg = 91 :: ds ++ [93] ∧ ∀ y ∈ ds, y ≠ 93) ∧ (z ≠ 91 → seg.length = 1)) := by
  have pos15 : ∀ seg : List Int, ∀ n ∈ ((seg.map hI).filter (fun z => decide (0 < z))), 1 ≤ n ∧ n ≤ 15 := by
    intro seg n hn
    obtain ⟨hm, hp⟩ := List.mem_filter.mp hn
    obtain ⟨z, _, rfl⟩ := List.mem_map.mp hm
    have := hI_lt z
    have : 0 < hI z := of_decide_eq_true hp
    omega
  cases t with
  | nil => cases h
  | cons z r =>
    obtain ⟨h0, h1⟩ := h8 z (List.mem_cons_self)
    rw [by8_cons] at h
    unfold stepIn at h
    dsimp only at h
    by_cases hz : z = 91
    · rw [if_pos ((u8_91 h0 h1).mpr hz)] at h
      obtain ⟨ds, rest, e1, e2, e3, e4, e5, e6, e7⟩ := hand_ok r (p + 1) [] x q s (fun y hy => h8 y (List.mem_cons_of_mem _ hy)) h
      have hf : ∀ ds : List Int, (∀ z ∈ ds, 1 ≤ hI z ∧ z ≠ 93) → (((91 :: ds ++ [93]).map hI).filter (fun z => decide (0 < z))).map Int.toNat = ds.map dg := by
        intro ds hd
        have h91 : hI 91 = -1 := rfl
        have h93 : hI 93 = -1 := rfl
        rw [List.map_append, List.map_cons, List.filter_append, List.filter_cons, h91]
        simp only [List.map_cons, List.map_nil, h93]
        rw [if_neg (by decide)]
        have e2 : List.filter (fun z => decide (0 < z)) [(-1 : Int)] = [] := by decide
        rw [e2, List.append_nil]
        induction ds with
        | nil => rfl
        | cons d ds ih =>
          obtain ⟨hd1, _⟩ := hd d (List.mem_cons_self)
          rw [List.map_cons, List.filter_cons, if_pos (by simp; omega), List.map_cons, ih (fun z hz => hd z (List.mem_cons_of_mem _ hz))]
          rfl
      have hlen : ∀ (n : Nat) (l : List Nat), (putIn n l).length = l.length + 1 := by
        intro n l
        induction l with
        | nil => rfl
        | cons m r ih => unfold putIn; split <;> simp [ih]
      have hfl : ∀ l : List Nat, (falling l).length = l.length := by
        intro l
        induction l with
        | nil => rfl
        | cons m r ih => show (putIn m (falling r)).length = _; rw [hlen, ih]; rfl
      simp at e6 e7
      refine ⟨91 :: ds ++ [93], rest, by rw [e1, hz]; simp, by rw [e2]; simp; omega, e3, by simp, by simp; omega, ?_, ⟨?_, pos15 _⟩, ?_⟩
      · rw [hf ds e5, e4]; rfl
      · rw [e4, hfl]; simp; omega
      · intro z' r' e
        cases e
        exact ⟨fun _ => ⟨ds, rfl, fun y hy => (e5 y hy).2⟩, fun hne => absurd hz hne⟩
    · rw [if_neg (fun e => hz ((u8_91 h0 h1).mp e))] at h
      by_cases hn : hI z < 0
      · rw [digitIn_none h0 h1 hn] at h; cases h
      · rw [digitIn_some h0 h1 (by omega)] at h
        cases h
        refine ⟨[z], r, rfl, rfl, rfl, by simp, by simp, ?_, ⟨?_, pos15 _⟩, ?_⟩
        · simp only [List.map_cons, List.map_nil, List.filter_cons, List.filter_nil]
          by_cases hzz : (hI z).toNat = 0
          · rw [if_pos hzz, if_neg (by simp; omega)]; rfl
          · rw [if_neg hzz, if_pos (by simp; omega)]; rfl
        · split <;> simp
        · intro z' r' e
          cases e
          exact ⟨fun e => absurd e hz, fun _ => rfl⟩
/-- the reading, from a place on: l is what has been read -/
def At (t : List Int) (place : Nat) (l : Pattern) : Prop :=
  place ≤ t.length ∧ l.length ≤ 16 ∧ (place = 0 ↔ l = []) ∧ ∃ f, t.length - place < f ∧ read (by8 t) = beatsIn f place (by8 (t.drop place)) l
theorem At.start (t : List Int) : At t 0 [] := ⟨Nat.zero_le _, Nat.zero_le _, by simp, t.length + 1, by omega, by rw [List.drop_zero]; unfold Jug.read; rw [by8_length]⟩
theorem drop_cons {t : List Int} {p : Nat} (h : p < t.length) : ∃ z r, t.drop p = z :: r ∧ t[p]? = some z := ⟨t[p], t.drop (p + 1), List.drop_eq_getElem_cons h, List.getElem?_eq_getElem h⟩
theorem At.long {t : List Int} {p : Nat} {l : Pattern} (a : At t p l) (hp : p < t.length) (hl : l.length = 16) : read (by8 t) = .error p := by
  obtain ⟨_, _, _, f, hf, e⟩ := a
  obtain ⟨z, r, ed, _⟩ := drop_cons hp
  obtain ⟨f', rfl⟩ : ∃ f', f = f' + 1 := ⟨f - 1, by omega⟩
  rw [e, ed, by8_cons, beats_long _ _ _ _ _ (by omega)]
theorem At.err {t : List Int} {p e : Nat} {l : Pattern} (a : At t p l) (hp : p < t.length) (hl : l.length ≠ 16) (hs : stepIn p (by8 (t.drop p)) = .error e) : read (by8 t) = .error e := by
  obtain ⟨_, h16, _, f, hf, er⟩ := a
  obtain ⟨z, r, ed, _⟩ := drop_cons hp
  obtain ⟨f', rfl⟩ : ∃ f', f = f' + 1 := ⟨f - 1, by omega⟩
  rw [ed, by8_cons] at hs
  rw [er, ed, by8_cons, beats_err _ _ _ _ _ (by omega) hs]
theorem At.next {t : List Int} (h8 : Ok8 t) {p q : Nat} {x : Beat} {s : Bytes} {l : Pattern} (a : At t p l) (hp : p < t.length) (hl : l.length ≠ 16) (hs : stepIn p (by8 (t.drop p)) = .ok (x, q, s)) : At t q (l ++ [x]) ∧ p < q := by
  obtain ⟨_, h16, hz, f, hf, er⟩ := a
  obtain ⟨z, r, ed, _⟩ := drop_cons hp
  obtain ⟨f', rfl⟩ : ∃ f', f = f' + 1 := ⟨f - 1, by omega⟩
  obtain ⟨seg, rest, e1, e2, e3, e4, _⟩ := step_ok (h8.drop p) hs
  have hlen : (t.drop p).length = seg.length + rest.length := by rw [e1, List.length_append]
  rw [List.length_drop] at hlen
  have erest : t.drop q = rest := by
    rw [e2, ← List.drop_drop, e1, List.drop_left]
  rw [ed, by8_cons] at hs
  refine ⟨⟨by omega, by simp; omega, ⟨by omega, by simp⟩, f', by omega, ?_⟩, by omega⟩
  rw [er, ed, by8_cons, beats_go _ _ _ _ _ (by omega) hs, e3, erest]
theorem At.last {t : List Int} {l : Pattern} (a : At t t.length l) : read (by8 t) = if l = [] then .error t.length else .ok l := by
  obtain ⟨_, _, _, f, hf, er⟩ := a
  obtain ⟨f', rfl⟩ : ∃ f', f = f' + 1 := ⟨f - 1, by omega⟩
  rw [er, List.drop_length, by8_nil, beats_nil]
  cases l with
  | nil => rfl
  | cons a b => rfl
/-! patterns that are read -/

theorem putIn_mem {n y : Nat} : ∀ {l : List Nat}, y ∈ putIn n l ↔ y = n ∨ y ∈ l
  | [] => by simp [putIn]
  | m :: r => by
    unfold putIn
    split
    · simp
    · simp only [List.mem_cons, putIn_mem (l := r)]
      constructor
      · rintro (h | h | h) <;> simp [h]
      · rintro (h | h | h) <;> simp [h]
theorem putIn_sorted {n : Nat} : ∀ {l : List Nat}, l.Pairwise (· ≥ ·) → (putIn n l).Pairwise (· ≥ ·)
  | [], _ => by simp [putIn]
  | m :: r, h => by
    obtain ⟨h1, h2⟩ := List.pairwise_cons.mp h
    unfold putIn
    split
    · rename_i hlt
      refine List.pairwise_cons.mpr ⟨fun y hy => ?_, h⟩
      rcases List.mem_cons.mp hy with rfl | hy
      · show n ≥ y; omega
      · have := h1 y hy; show n ≥ y; omega
    · refine List.pairwise_cons.mpr ⟨fun y hy => ?_, putIn_sorted h2⟩
      rcases putIn_mem.mp hy with rfl | hy
      · show m ≥ y; omega
      · exact h1 y hy
theorem putIn_perm {n : Nat} : ∀ {l : List Nat}, (putIn n l).Perm (n :: l)
  | [] => List.Perm.refl _
  | m :: r => by
    unfold putIn
    split
    · exact List.Perm.refl _
    · exact ((putIn_perm (l := r)).cons m).trans (List.Perm.swap n m r)
theorem falling_sorted : ∀ l : List Nat, (falling l).Pairwise (· ≥ ·)
  | [] => List.Pairwise.nil
  | _ :: r => putIn_sorted (falling_sorted r)
theorem falling_perm : ∀ l : List Nat, (falling l).Perm l
  | [] => List.Perm.refl _
  | n :: r => (putIn_perm (n := n)).trans ((falling_perm r).cons n)
/-- two falling lists of the same numbers are one -/
theorem falling_one {a b : List Nat} (hp : a.Perm b) (ha : a.Pairwise (· ≥ ·)) (hb : b.Pairwise (· ≥ ·)) : a = b :=
  hp.eq_of_pairwise (le := fun x y => x ≥ y) (fun _ _ _ _ h1 h2 => Nat.le_antisymm h2 h1) ha hb
theorem falling_ints {ns ms : List Int} (h0 : ∀ n ∈ ns, 0 ≤ n) (hp : ms.Perm ns) (hs : ms.Pairwise (· ≥ ·)) : ms = (falling (ns.map Int.toNat)).map Int.ofNat := by
  have back : ∀ l : List Int, (∀ n ∈ l, 0 ≤ n) → l = (l.map Int.toNat).map Int.ofNat := by
    intro l hl
    rw [List.map_map]
    induction l with
    | nil => rfl
    | cons a r ih =>
      rw [List.map_cons, ← ih (fun n hn => hl n (List.mem_cons_of_mem _ hn))]
      congr 1
      exact (Int.toNat_of_nonneg (hl a List.mem_cons_self)).symm
  have hm : ∀ n ∈ ms, 0 ≤ n := fun n hn => h0 n (hp.mem_iff.mp hn)
  have e := back ms hm
  have q : ms.map Int.toNat = falling (ns.map Int.toNat) := by
    refine falling_one ((hp.map Int.toNat).trans (falling_perm _).symm) ?_ (falling_sorted _)
    rw [List.pairwise_map]
    refine hs.imp ?_
    intro a b hab
    show b.toNat ≤ a.toNat
    have : b ≤ a := hab
    omega
  rw [← q]
  exact e
/-! a beat by its first byte -/
theorem drop_at {t : List Int} {p : Nat} {z : Int} (h : t[p]? = some z) : t.drop p = z :: t.drop (p + 1) := by
  obtain ⟨hp, e⟩ := List.getElem?_eq_some_iff.mp h
  rw [← e]
  exact List.drop_eq_getElem_cons hp
theorem step_open {t : List Int} {p : Nat} {z : Int} (h : t[p]? = some z) (hz : z = 91) : stepIn p (by8 (t.drop p)) = handIn (p + 1) (by8 (t.drop (p + 1))) [] := by
  subst hz
  rw [drop_at h, by8_cons]
  unfold stepIn
  dsimp only
  rw [if_pos (show UInt8.ofNat (Int.toNat 91) = 91 from rfl)]
theorem step_none {t : List Int} {p : Nat} {z : Int} (h : t[p]? = some z) (z0 : 0 ≤ z) (z1 : z ≤ 255) (hz : z ≠ 91) (hn : hI z < 0) : stepIn p (by8 (t.drop p)) = .error p := by
  rw [drop_at h, by8_cons]
  unfold stepIn
  dsimp only
  rw [if_neg (fun e => hz ((u8_91 z0 z1).mp e)), digitIn_none z0 z1 hn]
theorem step_dig {t : List Int} {p : Nat} {z : Int} (h : t[p]? = some z) (z0 : 0 ≤ z) (z1 : z ≤ 255) (hz : z ≠ 91) (hn : 0 ≤ hI z) : ∃ x, stepIn p (by8 (t.drop p)) = .ok (x, p + 1, by8 (t.drop (p + 1))) := by
  rw [drop_at h, by8_cons]
  unfold stepIn
  dsimp only
  rw [if_neg (fun e => hz ((u8_91 z0 z1).mp e)), digitIn_some z0 z1 hn]
  exact ⟨_, rfl⟩
theorem step_index {t : List Int} (h8 : Ok8 t) {p q : Nat} {x : Beat} {s : Bytes} (hz : t[p]? = some 91) (h : stepIn p (by8 (t.drop p)) = .ok (x, q, s)) :
    1 ≤ q ∧ p ≤ q - 1 ∧ t[q - 1]? = some 93 ∧ ∀ m z, p ≤ m → m < q - 1 → t[m]? = some z → z ≠ 93 := by
  obtain ⟨seg, rest, e1, e2, e3, e4, e5, e6, e7, e8⟩ := step_ok (h8.drop p) h
  obtain ⟨ds, es, hds⟩ := (e8 91 _ (drop_at hz)).1 rfl
  have hlen : seg.length = ds.length + 2 := by rw [es]; simp
  have at_ : ∀ k, t[p + k]? = (seg ++ rest)[k]? := fun k => by rw [← e1, List.getElem?_drop]
  refine ⟨by omega, by omega, ?_, ?_⟩
  · have e : q - 1 = p + (ds.length + 1) := by omega
    rw [e, at_, es]
    simp
  · intro m z h1 h2 hm
    obtain ⟨k, rfl⟩ : ∃ k, m = p + k := ⟨m - p, by omega⟩
    rw [at_, es] at hm
    cases k with
    | zero => simp at hm; omega
    | succ k =>
      have hk : k < ds.length := by omega
      have : (91 :: ds ++ [93] ++ rest)[k + 1]? = some ds[k] := by
        simp [List.getElem?_append, hk]
      rw [this] at hm
      exact hds z (by rw [← Option.some.inj hm]; exact List.getElem_mem hk)
theorem step_single {t : List Int} (h8 : Ok8 t) {p q : Nat} {x : Beat} {s : Bytes} {z : Int} (ez : t[p]? = some z) (hz : z ≠ 91) (h : stepIn p (by8 (t.drop p)) = .ok (x, q, s)) : q = p + 1 := by
  obtain ⟨seg, rest, e1, e2, e3, e4, e5, e6, e7, e8⟩ := step_ok (h8.drop p) h
  have := (e8 z _ (drop_at ez)).2 hz
  omega
/-! what is read is good -/
def GoodBeat (b : Beat) : Prop := b.length ≤ 3 ∧ (∀ h ∈ b, 1 ≤ h ∧ h ≤ 15) ∧ b.Pairwise (· ≥ ·)
theorem step_good {t : List Int} {p q : Nat} {x : Beat} {s : Bytes} (h8 : Ok8 t) (h : stepIn p (by8 t) = .ok (x, q, s)) : GoodBeat x := by
  obtain ⟨seg, rest, e1, e2, e3, e4, e5, e6, e7, e8⟩ := step_ok h8 h
  refine ⟨e7.1, fun n hn => ?_, by rw [e6]; exact falling_sorted _⟩
  rw [e6] at hn
  have hm := (falling_perm _).mem_iff.mp hn
  obtain ⟨z, hz, rfl⟩ := List.mem_map.mp hm
  have := e7.2 z hz
  omega
theorem beats_good : ∀ (f p : Nat) (t : List Int) (l q : Pattern), Ok8 t → beatsIn f p (by8 t) l = .ok q → (∀ b ∈ l, GoodBeat b) → l.length ≤ 16 → (∀ b ∈ q, GoodBeat b) ∧ 1 ≤ q.length ∧ q.length ≤ 16
  | 0, p, t, l, q, _, h, _, _ => by
    unfold beatsIn at h
    cases h
  | f + 1, p, [], l, q, _, h, hl, h16 => by
    rw [by8_nil, beats_nil] at h
    split at h
    · cases h
    · rename_i hne
      cases h
      refine ⟨hl, ?_, h16⟩
      cases l with
      | nil => exact absurd rfl hne
      | cons a b => simp
  | f + 1, p, z :: r, l, q, h8, h, hl, h16 => by
    by_cases h1 : l.length = 16
    · rw [by8_cons, beats_long _ _ _ _ _ (by omega)] at h
      cases h
    · cases hs : stepIn p (by8 (z :: r)) with
      | error e =>
        rw [by8_cons] at hs h
        rw [beats_err _ _ _ _ _ (by omega) hs] at h
        cases h
      | ok y =>
        obtain ⟨x, q', s⟩ := y
        have hg := step_good h8 hs
        obtain ⟨seg, rest, e1, e2, e3, e4, _⟩ := step_ok h8 hs
        rw [by8_cons] at hs h
        rw [beats_go _ _ _ _ _ (by omega) hs, e3] at h
        refine beats_good f q' rest _ q (fun y hy => h8 y (by rw [e1]; exact List.mem_append_right _ hy)) h (fun b hb => ?_) (by simp; omega)
        rcases List.mem_append.mp hb with hb | hb
        · exact hl b hb
        · rw [List.mem_singleton.mp hb]
          exact hg
theorem read_good {t : List Int} {p : Pattern} (h8 : Ok8 t) (h : Jug.read (by8 t) = .ok p) : (∀ b ∈ p, GoodBeat b) ∧ 1 ≤ p.length ∧ p.length ≤ 16 := by
  unfold Jug.read at h
  exact beats_good _ _ _ _ _ h8 h (by simp) (by simp)
/-! counting -/
def cnt (N : Nat) (ks : List Nat) : List Nat := (List.range N).map fun k => ks.count k
theorem cnt_length (N : Nat) (ks : List Nat) : (cnt N ks).length = N := by simp [cnt]
theorem cnt_at {N k : Nat} (ks : List Nat) (h : k < N) : (cnt N ks)[k]? = some (ks.count k) := by
  unfold cnt
  rw [List.getElem?_map, List.getElem?_range h]
  rfl
theorem cnt_nil (N : Nat) : cnt N [] = List.replicate N 0 := by
  unfold cnt
  apply List.ext_getElem?
  intro i
  by_cases h : i < N
  · rw [List.getElem?_map, List.getElem?_range h, List.getElem?_replicate, if_pos h]
    rfl
  · rw [List.getElem?_eq_none (by simp; omega), List.getElem?_eq_none (by simp; omega)]
theorem cnt_bump {N k : Nat} (ks : List Nat) (h : k < N) : (cnt N ks).set k (ks.count k + 1) = cnt N (ks ++ [k]) := by
  apply List.ext_getElem?
  intro i
  by_cases hi : i < N
  · rw [cnt_at _ hi, List.getElem?_set, cnt_length, List.count_append]
    by_cases e : k = i
    · subst e
      rw [if_pos rfl, if_pos h]
      simp
    · rw [if_neg e, cnt_at _ hi]
      have : List.count i [k] = 0 := by
        rw [List.count_eq_zero]
        simp
        omega
      rw [this, Nat.add_zero]
  · rw [List.getElem?_eq_none (by rw [List.length_set, cnt_length]; omega), List.getElem?_eq_none (by rw [cnt_length]; omega)]
theorem total_count {α : Type} (F : α → List Nat) (t : Nat) : ∀ L : List α, total (L.map fun x => (F x).count t) = (L.flatMap F).count t
  | [] => rfl
  | a :: r => by
    rw [List.map_cons, List.flatMap_cons, List.count_append, ← total_count F t r]
    rfl
theorem filter_count {f : Nat → Nat} {t : Nat} : ∀ b : List Nat, (b.filter fun h => f h == t).length = (b.map f).count t
  | [] => rfl
  | a :: r => by
    rw [List.filter_cons, List.map_cons, List.count_cons, ← filter_count r]
    split <;> simp
/-- where the throws of the first i beats land -/
def landKs (p : Pattern) (i : Nat) : List Nat := (List.range i).flatMap fun s => (p.getD s []).map fun h => (s + h) % p.length
theorem landKs_succ (p : Pattern) (i : Nat) : landKs p (i + 1) = landKs p i ++ (p.getD i []).map fun h => (i + h) % p.length := by
  unfold landKs
  rw [List.range_succ, List.flatMap_append]
  simp
theorem zipIdx_map {β : Type} (p : Pattern) (g : Beat × Nat → β) : p.zipIdx.map g = (List.range p.length).map fun s => g (p.getD s [], s) := by
  apply List.ext_getElem?
  intro i
  by_cases h : i < p.length
  · rw [List.getElem?_map, List.getElem?_map, List.getElem?_range h, List.getElem?_zipIdx, List.getElem?_eq_getElem h]
    simp [List.getD, h]
  · rw [List.getElem?_eq_none (by simp; omega), List.getElem?_eq_none (by simp; omega)]
theorem landing_count (p : Pattern) (t : Nat) : landing p t = (landKs p p.length).count t := by
  unfold landing landKs
  rw [zipIdx_map, ← total_count]
  congr 1
  apply List.map_congr_left
  intro s _
  exact filter_count (f := fun h => (s + h) % p.length) (p.getD s [])
/-- what is in the air, beat by beat back -/
def backIx (p : Pattern) (t d : Nat) : Nat := (t + LONG * p.length - (d + 1)) % p.length
def airKs (p : Pattern) (t i : Nat) : List Nat := (List.range i).flatMap fun d => ((p.getD (backIx p t d) []).filter fun h => decide (d + 1 ≤ h)).map fun h => h - (d + 1)
theorem airKs_succ (p : Pattern) (t i : Nat) : airKs p t (i + 1) = airKs p t i ++ ((p.getD (backIx p t i) []).filter fun h => decide (i + 1 ≤ h)).map fun h => h - (i + 1) := by
  unfold airKs
  rw [List.range_succ, List.flatMap_append]
  simp
theorem airAt_cnt (p : Pattern) (t : Nat) : airAt p t = cnt 15 (airKs p t 15) := by
  unfold airAt cnt airKs
  apply List.map_congr_left
  intro k _
  rw [← total_count]
  show total ((List.range 15).map _) = _
  congr 1
  apply List.map_congr_left
  intro d _
  show ((p.getD (backIx p t d) []).filter fun h => h == k + d + 1).length = _
  generalize p.getD (backIx p t d) [] = b
  induction b with
  | nil => rfl
  | cons a r ih =>
    rw [List.filter_cons, List.filter_cons]
    by_cases h1 : d + 1 ≤ a
    · rw [if_pos (show decide (d + 1 ≤ a) = true from decide_eq_true h1), List.map_cons, List.count_cons, ← ih]
      by_cases h2 : a = k + d + 1
      · rw [if_pos (by simpa using h2), if_pos (by simp; omega)]
        rfl
      · rw [if_neg (by simpa using h2), if_neg (by simp; omega)]
        rfl
    · rw [if_neg (by simp; omega), if_neg (by simpa using h1), ih]
theorem backIx_int {p : Pattern} (hp : 1 ≤ p.length) {k d : Nat} (hd : d < 15) : ((k : Int) - (1 + (d : Int))) % (p.length : Int) = (backIx p (k % p.length) d : Int) := by
  unfold backIx
  show _ = (((k % p.length + 16 * p.length - (d + 1)) % p.length : Nat) : Int)
  rw [Int.natCast_emod]
  have e : ((k % p.length + 16 * p.length - (d + 1) : Nat) : Int) = (k : Int) - (1 + (d : Int)) + (p.length : Int) * (16 - ((k / p.length : Nat) : Int)) := by
    have h1 := Nat.div_add_mod k p.length
    have h2 : ((k % p.length : Nat) : Int) = (k : Int) - (p.length : Int) * ((k / p.length : Nat) : Int) := by
      have : ((p.length * (k / p.length) + k % p.length : Nat) : Int) = (k : Int) := by rw [h1]
      rw [Int.natCast_add, Int.natCast_mul] at this
      omega
    rw [Int.mul_sub]
    omega
  rw [e, Int.add_mul_emod_self_left]
theorem backIx_lt {p : Pattern} (hp : 1 ≤ p.length) (t d : Nat) : backIx p t d < p.length := Nat.mod_lt _ hp
/-! refusals -/
def refusal (t : List Int) : List Int := match Jug.read (by8 t) with
  | .error e => [-6, (e : Int)]
  | .ok p => match clash p with
    | some k => [-5, (k : Int)]
    | none => []
theorem of_refused {t : List Int} {f : Pattern → Answer} (h : refusal t ≠ []) : Jug.of (by8 t) f = refusal t := by
  unfold Jug.of refusal at *
  cases e : Jug.read (by8 t) with
  | error e => rfl
  | ok p =>
    rw [e] at h
    dsimp only at h ⊢
    cases e2 : clash p with
    | some k => rfl
    | none => rw [e2] at h; exact absurd rfl h
theorem of_right {t : List Int} {f : Pattern → Answer} (h : refusal t = []) : ∃ p, Jug.read (by8 t) = .ok p ∧ clash p = none ∧ Jug.of (by8 t) f = f p := by
  unfold Jug.of refusal at *
  cases e : Jug.read (by8 t) with
  | error e' => rw [e] at h; cases h
  | ok p =>
    rw [e] at h
    dsimp only at h ⊢
    cases e2 : clash p with
    | some k => rw [e2] at h; cases h
    | none => exact ⟨p, rfl, e2, rfl⟩
end Jm

set_option Elab.async false
set_option linter.all false
set_option maxRecDepth 100000
set_option maxHeartbeats 2000000
namespace L2
open PySem PySem.Spec PyProof.Rows
/-! words for defs and globals -/
def IntG (mg : Str → Option Value) (x : Str) (i : Int) : Prop := ∃ t, mg x = some (.int i t)
/-- a def of the text, as a caller sees it -/
structure Def (P : Program) (w : World) (K : PySem.W.Frag) (mg : Str → Option Value) (base : Heap) (x : Str) (ps : List Str) (k : Nat) (sp : Sp) : Prop where
  ex : ∃ (f : Addr) (fd : FuncData), FnOk P w K mg base CX0 k f fd ps sp ∧ mg x = some (.ref f) ∧ PySem.W.keepIn K (.ref f) = true ∧ Binds K fd ps []
section
variable {X : Cx}
theorem pgl {x : Str} {i : Int} {pos : Pos} (h : IntG X.mg x i) (hg : Gl X x := by rfl) (hd : (x == ("__debug__" : Str)) = false := by decide) : PE X (.Name x pos) (tC (.int i)) := by
  obtain ⟨t, e⟩ := h
  exact pe_glob hg e ⟨t, rfl⟩ hd
theorem pcall {x : Str} {ps : List Str} {k : Nat} {sp : Sp} {e : Expr} {es : List Expr} {t : TA} {p pos : Pos} (D : Def X.prog X.w X.K X.mg X.base x ps k sp) (hr : Room k X.A) (ha : PA X (e :: es) t)
    (hg : Gl X x := by rfl) (hdb : (x == ("__debug__" : Str)) = false := by decide) (he : starEach (e :: es) X.env = (false, eval e X.env) :: starEach es X.env := by rfl)
    (hpl : (backTo pos (starEach es X.env)).any (·.1) = false := by rfl) (hx : Passes CX0 X E0 := by exact pass0) :
    PE X (.Call (.Name x p) (e :: es) [] pos) (tCall sp [] E0 t) := by
  obtain ⟨f, fd, G, hm, hk, hb⟩ := D.ex
  exact pe_call G hr hg hm hk hb .nil hx ha hdb he hpl
end
theorem Same.new {H H1 : Hp} (s : Same H H1) {p : Addr} {o : HO} (hp : H1 p = none) : Same H (upd H1 p o) := fun b u e => by
  have e1 := s b u e
  rw [upd_ne (ne_of_none e1 hp)]
  exact e1
/-- a write to what was not there at the start -/
theorem Same.own {H H1 : Hp} (s : Same H H1) {p : Addr} {o : HO} (hp : H p = none) : Same H (upd H1 p o) := fun b u e => by
  rw [upd_ne (ne_of_none e hp)]
  exact s b u e
/-! patterns in the heap -/
def natsV (l : List Nat) : List V := l.map fun (n : Nat) => V.int (n : Int)
theorem natsV_int (l : List Nat) : natsV l = (l.map Int.ofNat).map V.int := by
  unfold natsV
  rw [List.map_map]
  rfl
def BeatAt (H : Hp) (v : V) (b : List Nat) : Prop := ∃ x, v = .ref x ∧ H x = some (.lst (natsV b))
def PatAt (H : Hp) (v : V) (p : List (List Nat)) : Prop := ∃ x vs, v = .ref x ∧ H x = some (.lst vs) ∧ Paired (BeatAt H) vs p
theorem BeatAt.same {H H' : Hp} (s : Same H H') {v : V} {b : List Nat} (h : BeatAt H v b) : BeatAt H' v b := by
  obtain ⟨x, e, h⟩ := h
  exact ⟨x, e, s _ _ h⟩
theorem BeatAt.upd {H : Hp} {v : V} {b : List Nat} {D : Addr} {o : HO} (h : BeatAt H v b) (hn : v ≠ .ref D) : BeatAt (upd H D o) v b := by
  obtain ⟨x, rfl, h⟩ := h
  exact ⟨x, rfl, by rw [upd_ne (fun e => hn (by rw [e]))]; exact h⟩
theorem PatAt.same {H H' : Hp} (s : Same H H') {v : V} {p : List (List Nat)} (h : PatAt H v p) : PatAt H' v p := by
  obtain ⟨x, vs, e, h1, h2⟩ := h
  exact ⟨x, vs, e, s _ _ h1, Paired.imp' (fun _ _ q => q.same s) h2⟩
theorem Paired.getL {α β : Type} {F : α → β → Prop} : ∀ {l : List α} {m : List β} {i : Nat} {a : α}, Paired F l m → l[i]? = some a → ∃ b, m[i]? = some b ∧ F a b
  | _, _, _, _, .nil, e => by simp at e
  | _, _, 0, _, .cons r _, e => by simp at e; subst e; exact ⟨_, rfl, r⟩
  | _, _, i + 1, a, .cons _ t, e => by
    obtain ⟨u, h1, h2⟩ := Paired.getL (i := i) (a := a) t (by simpa using e)
    exact ⟨u, by simpa using h1, h2⟩
theorem Paired.getR {α β : Type} {F : α → β → Prop} : ∀ {l : List α} {m : List β} {i : Nat} {b : β}, Paired F l m → m[i]? = some b → ∃ a, l[i]? = some a ∧ F a b
  | _, _, _, _, .nil, e => by simp at e
  | _, _, 0, _, .cons r _, e => by simp at e; subst e; exact ⟨_, rfl, r⟩
  | _, _, i + 1, a, .cons _ t, e => by
    obtain ⟨u, h1, h2⟩ := Paired.getR (i := i) (b := a) t (by simpa using e)
    exact ⟨u, by simpa using h1, h2⟩
theorem take_snoc {α : Type} : ∀ {l : List α} {i : Nat} {x : α}, l[i]? = some x → l.take (i + 1) = l.take i ++ [x]
  | [], i, x, h => by simp at h
  | a :: l, 0, x, h => by
    have e : a = x := Option.some.inj h
    subst e
    rfl
  | a :: l, i + 1, x, h => by
    have ih := take_snoc (l := l) (i := i) (x := x) h
    show a :: l.take (i + 1) = a :: l.take i ++ [x]
    rw [ih]
    rfl
theorem map_get {α β : Type} {f : α → β} {l : List α} {i : Nat} {y : β} (h : (l.map f)[i]? = some y) : ∃ x, l[i]? = some x ∧ y = f x := by
  rw [List.getElem?_map] at h
  cases e : l[i]? with
  | none => rw [e] at h; cases h
  | some z => rw [e] at h; exact ⟨z, rfl, (Option.some.inj h).symm⟩
/-! comprehensions: [f(x) for x in xs], [x for x in xs if p(x)] -/
theorem lc_mapL {K : PySem.W.Frag} {a : Addr} {xs : List V} {j : Nat} {te : TE} {vs : List Nat} {σ : St} {H1 : Hp} {D : Addr} {Qd : Hp → Prop} (f : V → V) (hS : SqL K H1 a xs) (hD : H1 D = none) (hlen : xs.length ≤ sizeLine)
    (hw : ∀ x, wipe ((wipe σ vs).set j (some x)) vs = wipe σ vs)
    (he : ∀ (i : Nat) (x : V) (H' : Hp) (Qk : VK), xs[i]? = some x → Same H1 H' → (∀ H4, Same H' H4 → Qk (f x) H4) → te ((wipe σ vs).set j (some x)) H' Qk)
    (hd : ∀ H', Same H1 H' → H' D = some (.lst (xs.map f)) → Qd H') :
    ∃ W : Nat → Nat → Hp → Prop, (∃ m, W 0 m (upd H1 D (.lst []))) ∧ ∀ i m H, W i m H →
      ((Itl K a).stop i H ∧ Qd H) ∨ ((Itl K a).go i H ∧ ∃ Nx : Hp → Prop, (∀ H', Nx H' → ∃ m', m' < m ∧ W (i + 1) m' H') ∧ ∀ x H', (Itl K a).yld i H x H' → gName j x (wipe σ vs) H' fun σ2 H2 => wipe σ2 vs = wipe σ vs ∧ tYes σ2 H2 fun b H3 =>
        if b = true then te σ2 H3 fun y H4 => ∃ acc, H4 D = some (.lst acc) ∧ acc.length < sizeLine ∧ Nx (upd H4 D (.lst (acc ++ [y]))) else Nx H3) := by
  refine lc_list (xs := xs) (fun i H' => Same H1 H' ∧ H' D = some (.lst ((xs.take i).map f))) ⟨(Same.refl H1).new hD, upd_same⟩ (fun i H' _ ⟨s, _⟩ => s.seq hS) ?_ ?_
  · rintro i x H' hi ⟨s, hDv⟩
    refine ⟨hw x, ?_⟩
    unfold tYes
    dsimp only
    rw [if_pos rfl]
    refine he i x H' _ hi s fun H4 s4 => ⟨_, s4 _ _ hDv, ?_, (s.trans s4).own hD, ?_⟩
    · rw [List.length_map, List.length_take]
      have := (List.getElem?_eq_some_iff.mp hi).1
      omega
    · rw [upd_same, take_snoc hi, List.map_append]
      rfl
  · rintro H' ⟨s, hDv⟩
    rw [List.take_length] at hDv
    exact hd H' s hDv
theorem lc_filterL {K : PySem.W.Frag} {a : Addr} {xs : List V} {j : Nat} {tt : TT} {vs : List Nat} {σ : St} {H1 : Hp} {D : Addr} {Qd : Hp → Prop} (p : V → Bool) (hS : SqL K H1 a xs) (hD : H1 D = none) (hlen : xs.length ≤ sizeLine) (hj : j < σ.length)
    (hw : ∀ x, wipe ((wipe σ vs).set j (some x)) vs = wipe σ vs)
    (he : ∀ (i : Nat) (x : V) (H' : Hp) (Qk : Bool → Hp → Prop), xs[i]? = some x → Same H1 H' → Qk (p x) H' → tt ((wipe σ vs).set j (some x)) H' Qk)
    (hd : ∀ H', Same H1 H' → H' D = some (.lst (xs.filter p)) → Qd H') :
    ∃ W : Nat → Nat → Hp → Prop, (∃ m, W 0 m (upd H1 D (.lst []))) ∧ ∀ i m H, W i m H →
      ((Itl K a).stop i H ∧ Qd H) ∨ ((Itl K a).go i H ∧ ∃ Nx : Hp → Prop, (∀ H', Nx H' → ∃ m', m' < m ∧ W (i + 1) m' H') ∧ ∀ x H', (Itl K a).yld i H x H' → gName j x (wipe σ vs) H' fun σ2 H2 => wipe σ2 vs = wipe σ vs ∧ tt σ2 H2 fun b H3 =>
        if b = true then tVar j σ2 H3 fun y H4 => ∃ acc, H4 D = some (.lst acc) ∧ acc.length < sizeLine ∧ Nx (upd H4 D (.lst (acc ++ [y]))) else Nx H3) := by
  refine lc_list (xs := xs) (fun i H' => Same H1 H' ∧ H' D = some (.lst ((xs.take i).filter p))) ⟨(Same.refl H1).new hD, upd_same⟩ (fun i H' _ ⟨s, _⟩ => s.seq hS) ?_ ?_
  · rintro i x H' hi ⟨s, hDv⟩
    refine ⟨hw x, he i x H' _ hi s ?_⟩
    have hil := (List.getElem?_eq_some_iff.mp hi).1
    have e1 := take_snoc hi
    cases hp : p x with
    | true =>
      refine iteT ⟨x, ?_, _, hDv, ?_, s.own hD, ?_⟩
      · rw [List.getElem?_set_self (by rw [wipe_length]; exact hj)]
      · have := List.length_filter_le p (xs.take i)
        rw [List.length_take] at this
        omega
      · rw [upd_same, e1, List.filter_append, List.filter_cons, if_pos hp]
        rfl
    | false =>
      refine iteF ⟨s, ?_⟩
      rw [e1, List.filter_append, List.filter_cons, if_neg (by rw [hp]; exact Bool.false_ne_true), List.filter_nil, List.append_nil]
      exact hDv
  · rintro H' ⟨s, hDv⟩
    rw [List.take_length] at hDv
    exact hd H' s hDv
theorem cutV_seg {α : Type} {f : α → V} {t seg rest : List α} {p q : Nat} (hp : p ≤ t.length) (e : t.drop p = seg ++ rest) (hq : q = p + seg.length) : cutV (t.map f) (some (p : Int)) (some (q : Int)) = seg.map f := by
  have hl : (t.drop p).length = seg.length + rest.length := by rw [e, List.length_append]
  rw [List.length_drop] at hl
  unfold cutV
  rw [HT.sIx_nat, HT.sIx_nat, List.length_map, Nat.min_eq_left hp, Nat.min_eq_left (by omega), ← List.map_drop, ← List.map_take, e, hq, Nat.add_sub_cancel_left, List.take_left]
def hV : V → V
  | .int z => .int (Jm.hI z)
  | v => v
def posV : V → Bool
  | .int z => decide (0 < z)
  | _ => false
theorem filter_pos (l : List Int) : (l.map V.int).filter posV = (l.filter fun z => decide (0 < z)).map V.int := by
  rw [List.filter_map]
  rfl
/-! lists of ints in the heap -/
def IntsAt (H : Hp) (v : V) (l : List Int) : Prop := ∃ x, v = .ref x ∧ H x = some (.lst (l.map V.int))

theorem natsV_length (l : List Nat) : (natsV l).length = l.length := by simp [natsV]
theorem natsV_at {l : List Nat} {i n : Nat} (h : l[i]? = some n) : (natsV l)[i]? = some (V.int (n : Int)) := by
  unfold natsV
  rw [List.getElem?_map, h]
  rfl
theorem natsV_set (l : List Nat) (i n : Nat) : (natsV l).set i (V.int (n : Int)) = natsV (l.set i n) := by
  unfold natsV
  rw [List.map_set]
theorem natsV_get {l : List Nat} {i : Nat} {v : V} (h : (natsV l)[i]? = some v) : ∃ n, l[i]? = some n ∧ v = V.int (n : Int) := map_get h
theorem ixN_nat {n j : Nat} (h : j < n) : ixN n (j : Int) = some j := by
  unfold ixN
  rw [if_pos (by omega), if_pos (by omega)]
  rfl
/-- x[j] += 1 of a count -/
theorem bump_ok {N k : Nat} {ks : List Nat} (h : k < N) : (natsV (Jm.cnt N ks)).set k (V.int (((ks.count k : Nat) : Int) + 1)) = natsV (Jm.cnt N (ks ++ [k])) := by
  have e : ((ks.count k : Nat) : Int) + 1 = ((ks.count k + 1 : Nat) : Int) := by omega
  rw [e, natsV_set, Jm.cnt_bump ks h]
theorem rep_zero (n : Nat) : (List.replicate n [V.int 0]).flatten = natsV (Jm.cnt n []) := by
  rw [Jm.cnt_nil]
  unfold natsV
  induction n with
  | zero => rfl
  | succ n ih => rw [List.replicate_succ, List.flatten_cons, ih, List.replicate_succ, List.map_cons]; rfl
theorem PatAt.at {H : Hp} {x : Addr} {vs : List V} {p : List (List Nat)} (h : Paired (BeatAt H) vs p) {i : Nat} (hi : i < p.length) : ∃ y b, vs[i]? = some (.ref y) ∧ p[i]? = some b ∧ p.getD i [] = b ∧ H y = some (.lst (natsV b)) := by
  obtain ⟨v, e1, y, rfl, e2⟩ := Paired.getR h (List.getElem?_eq_getElem hi)
  exact ⟨y, p[i], e1, List.getElem?_eq_getElem hi, by simp [List.getD, hi], e2⟩
end L2

/-! The root of a pattern: told over and over, or turned into itself. -/
namespace Jm
open Jug

/-! heights, balls -/
theorem total_sum (l : List Nat) : total l = l.sum := by
  induction l with
  | nil => rfl
  | cons a r ih => rw [List.sum_cons, ← ih]; rfl
theorem heights_flat (p : Pattern) : heights p = p.flatten.sum := by
  unfold heights
  induction p with
  | nil => rfl
  | cons b r ih =>
    rw [List.map_cons, List.flatten_cons, List.sum_append, ← ih, ← total_sum]
    rfl

end Jm

set_option Elab.async false
set_option linter.all false
set_option maxRecDepth 100000
set_option maxHeartbeats 2000000
namespace L2
open PySem PySem.Spec PyProof.Rows
/-! patterns as data: == of two -/

/-! parts of patterns -/

theorem Paired.append {α β : Type} {F : α → β → Prop} : ∀ {l l' : List α} {m m' : List β}, Paired F l m → Paired F l' m' → Paired F (l ++ l') (m ++ m')
  | _, _, _, _, .nil, s => s
  | _, _, _, _, .cons r t, s => .cons r (Paired.append t s)

theorem cut_drop {xs : List V} {k : Nat} (hk : k ≤ xs.length) : cutV xs (some (k : Int)) none = xs.drop k := by
  unfold cutV
  rw [HT.sIx_none, HT.sIx_nat, Nat.min_eq_left hk]
  exact List.take_of_length_le (by rw [List.length_drop]; exact Nat.le_refl _)
/-! rules within a comprehension's block: the written part by its name -/
section
variable {X : Cx} {K : PySem.W.Frag}

end

def le3 (k : Int) : V → V
  | .int z => .bl (decide (z ≤ k))
  | v => v
theorem le3_map (k : Int) (s : List Int) : (s.map V.int).map (le3 k) = (s.map fun z => decide (z ≤ k)).map V.bl := by
  rw [List.map_map, List.map_map]
  rfl
theorem natsV_toNat {s : List Int} (h : ∀ z ∈ s, 0 ≤ z) : s.map V.int = natsV (s.map Int.toNat) := by
  unfold natsV
  rw [List.map_map]
  apply List.map_congr_left
  intro z hz
  have := h z hz
  show V.int z = V.int (z.toNat : Int)
  congr 1
  omega
theorem natsV_append (a b : List Nat) : natsV (a ++ b) = natsV a ++ natsV b := by
  unfold natsV
  rw [List.map_append]
theorem rep_zeros (n : Nat) : (List.replicate n [V.int 0]).flatten = natsV (List.replicate n 0) := by
  rw [rep_zero, Jm.cnt_nil]
end L2

set_option Elab.async false
set_option linter.all false
set_option maxRecDepth 100000
set_option maxHeartbeats 4000000
namespace JX
open PySem PySem.Spec PyProof.Rows
/-! max of a list, whatever its items: the comparison may read the heap; with or without a default -/
abbrev Kp (h h' : Heap) : Prop := ∀ b o, h.get? b = some o → h'.get? b = some o
theorem max_args_dflt (a v : Value) : argsOk "max" ⟨[a], [(Str.ofString "default", v)]⟩ := by unfold argsOk; kernel_rfl
section
variable {prog : Program} {w : World} {A : Around}
theorem max_turns {R : Result → Shared → Prop} {h0 : Heap} {l I S : Addr} {items : List Value} {kw : List (Str × Value)} {bt : Nat → Nat → Bool} (hh : A.handled = none)
    (hI0 : h0.get? I = none) (hS0 : h0.get? S = none) (hIS : I ≠ S) (hl : h0.IsList l items.toArray)
    (hcmp : ∀ i j vi vj (s : Shared) (Q : Value → Shared → Prop) (E : Value → Shared → Prop), items[i]? = some vi → items[j]? = some vj → Kp h0 s.heap → Q (.bool (bt i j)) s → wpAny (model prog w) A.in1 (richCompare .Gt vi vj) Q E s)
    (hkw : items = [] → ∃ nm d, kw = [(nm, d)]) :
    ∀ (k j : Nat) (s : Shared) (old : List Value) (c : Nat), items.length - j = k → j ≤ items.length → Kp h0 s.heap → s.heap.IsListIter I l j →
      s.heap.get? S = some { cls := .type "list", dict := none, data := .seq old.toArray c, slots := #[] } →
      ((j = 0 ∧ old = []) ∨ ∃ vb, 0 < j ∧ old = [vb, vb] ∧ items[argBest bt (j - 1)]? = some vb) →
      (∀ v h' tk, ((items ≠ [] ∧ items[argBest bt (items.length - 1)]? = some v) ∨ (items = [] ∧ ∃ nm, kw = [(nm, v)])) → Kp h0 h' → R (.ok (.ret v)) { s with heap := h', toks := tk }) →
      codeAny (model prog w) A (.builtin "max.loop" ⟨[.ref I, .none, .ref S], kw⟩) R s := by
  have hnm : (toString "max" ++ toString ".loop" : String) = "max.loop" := by decide
  have hlS : l ≠ S := fun e => by
    obtain ⟨o, ho, _⟩ := hl
    rw [e, hS0] at ho
    cases ho
  intro k
  induction k with
  | zero =>
    intro j s old c hk hj hkp st hS hold hR
    have ej : j = items.length := by omega
    refine codeAny_builtin F.entry_max_loop ?_
    rw [Around.under_plainId F.plain_max_loop _]
    show wpAny _ A.in1 (seqItems? (.ref S) >>= fun _ => _) _ _ s
    refine wpAny_bind (wpAny_seqItems hS rfl ?_)
    show wpAny _ A.in1 (tryCatch (pyNext (.ref I)) _ >>= fun _ => _) _ _ s
    have hl' : s.heap.IsList l items.toArray := by
      obtain ⟨o, ho, q⟩ := hl
      exact ⟨o, hkp _ _ ho, q⟩
    refine wpAny_bind (wpAny_tryCatch (wpAny_pyNext_list_end hh st hl' (by simp; omega) fun h' eb => ?_))
    have hkp' : Kp h0 h' := fun b o e => eb b o (fun z => by rw [z, hI0] at e; cases e) (hkp b o e)
    have hS' := eb S _ (Ne.symm hIS) hS
    rcases hold with ⟨j0, rfl⟩ | ⟨vb, j1, rfl, hvb⟩
    · have e0 : items = [] := List.eq_nil_of_length_eq_zero (by omega)
      obtain ⟨nm, d, ekw⟩ := hkw e0
      subst ekw
      refine wpAny_bind (wpAny_rule ?_)
      exact wpAny_pure (hR d h' s.toks (.inr ⟨e0, nm, rfl⟩) hkp')
    · show wpAny _ A.in1 (updateSeq S (fun _ => #[]) >>= fun _ => _) _ _ _
      refine wpAny_bind ?_
      refine wpAny_updateSeq hS' rfl (wpAny_bind (wpAny_letGo (wpAny_pure ?_)))
      refine hR vb _ s.toks (.inl ⟨fun e => by rw [e] at ej; simp at ej; omega, by rw [← ej]; exact hvb⟩) fun b o e => ?_
      exact (Heap.get?_update_other _ _ (fun z : S = b => by rw [← z, hS0] at e; cases e)).trans (hkp' b o e)
  | succ k ih =>
    intro j s old c hk hj hkp st hS hold hR
    have hlt : j < items.length := by omega
    refine codeAny_builtin F.entry_max_loop ?_
    rw [Around.under_plainId F.plain_max_loop _]
    show wpAny _ A.in1 (seqItems? (.ref S) >>= fun _ => _) _ _ s
    refine wpAny_bind (wpAny_seqItems hS rfl ?_)
    show wpAny _ A.in1 (tryCatch (pyNext (.ref I)) _ >>= fun _ => _) _ _ s
    have hl' : s.heap.IsList l items.toArray := by
      obtain ⟨o, ho, q⟩ := hl
      exact ⟨o, hkp _ _ ho, q⟩
    have hv : items[j]? = some items[j] := List.getElem?_eq_getElem hlt
    refine wpAny_bind (wpAny_tryCatch (wpAny_pyNext_list_item st hl' (x := items[j]) (by simpa using hv) fun h' st' sb => ?_))
    have hkp' : Kp h0 h' := fun b o e => (sb.2 b (fun z => by rw [z, hI0] at e; cases e)).trans (hkp b o e)
    have hS' := (sb.2 S (Ne.symm hIS)).trans hS
    have kS : ∀ {f : Obj → Obj}, Kp h0 (h'.update S f) := fun {f} b o e => (Heap.get?_update_other _ _ (fun z : S = b => by rw [← z, hS0] at e; cases e)).trans (hkp' b o e)
    have stS : ∀ {f : Obj → Obj}, (h'.update S f).IsListIter I l (j + 1) := fun {f} => st'.at fun o e => (Heap.get?_update_other _ _ (Ne.symm hIS)).trans e
    rcases hold with ⟨j0, rfl⟩ | ⟨vb, j1, rfl, hvb⟩
    · subst j0
      show wpAny _ A.in1 (updateSeq S (fun _ => #[items[0], items[0]]) >>= fun _ => _) _ _ _
      refine wpAny_bind ?_
      refine wpAny_updateSeq hS' rfl ?_
      rw [hnm]
      refine wpAny_pure ⟨plainId_quiet F.plain_max_loop _, ih 1 _ [items[0], items[0]] _ (by omega) hlt kS stS (Heap.get?_update_self _ hS' rfl) (.inr ⟨_, by omega, rfl, hv⟩) fun v h'' tk hv' hk'' => hR v h'' tk hv' hk''⟩
    · show wpAny _ A.in1 (tryCatch (holding [items[j], items[j]] (richCompare .Gt items[j] vb >>= fun _ => _)) _ >>= fun _ => _) _ _ _
      refine wpAny_bind (wpAny_tryCatch (wpAny_holding (wpAny_bind (hcmp j (argBest bt (j - 1)) items[j] vb _ _ _ hv hvb hkp' ?_))))
      refine wpAny_bind (wpAny_holding (wpAny_truthy_bool ?_))
      refine wpAny_bind (wpAny_letGo (wpAny_pure ?_))
      obtain ⟨i, rfl⟩ : ∃ i, j = i + 1 := ⟨j - 1, by omega⟩
      have ei : i + 1 - 1 = i := rfl
      rw [ei] at hvb ⊢
      cases hb : bt (i + 1) (argBest bt i) with
      | true =>
        simp only [if_true]
        refine wpAny_bind ?_
        refine wpAny_updateSeq hS' rfl (wpAny_bind (wpAny_letGo ?_))
        rw [hnm]
        refine wpAny_pure ⟨plainId_quiet F.plain_max_loop _, ih (i + 2) _ [items[i + 1], items[i + 1]] _ (by omega) hlt kS stS (Heap.get?_update_self _ hS' rfl) (.inr ⟨_, by omega, rfl, ?_⟩) fun v h'' tk hv' hk'' => hR v h'' tk hv' hk''⟩
        show items[argBest bt (i + 1)]? = _
        simp only [argBest, hb, if_true]
        exact hv
      | false =>
        simp only [Bool.false_eq_true, if_false]
        refine wpAny_bind (wpAny_letGo ?_)
        rw [hnm]
        refine wpAny_pure ⟨plainId_quiet F.plain_max_loop _, ih (i + 2) _ [vb, vb] c (by omega) hlt hkp' st' hS' (.inr ⟨_, by omega, rfl, ?_⟩) fun v h'' tk hv' hk'' => hR v h'' tk hv' hk''⟩
        show items[argBest bt (i + 1)]? = _
        simp only [argBest, hb, Bool.false_eq_true, if_false]
        exact hvb
theorem max_any {E : Value → Shared → Prop} {s : Shared} {l : Addr} {items : List Value} {dflt : Option Value} {bt : Nat → Nat → Bool} {Q : Value → Shared → Prop} (hh : A.handled = none) (hl : s.heap.IsList l items.toArray)
    (hcmp : ∀ i j vi vj (s' : Shared) (Q : Value → Shared → Prop) (E : Value → Shared → Prop), items[i]? = some vi → items[j]? = some vj → Kp s.heap s'.heap → Q (.bool (bt i j)) s' → wpAny (model prog w) A.in1 (richCompare .Gt vi vj) Q E s')
    (hne : items = [] → ∃ d, dflt = some d)
    (hQ : ∀ v h' tk, ((items ≠ [] ∧ items[argBest bt (items.length - 1)]? = some v) ∨ (items = [] ∧ dflt = some v)) → Kp s.heap h' → Q v { s with heap := h', toks := tk }) :
    wpAny (model prog w) A (call (.builtin "max") [.ref l] (dflt.toList.map fun d => (Str.ofString "default", d))) Q E s := by
  have hnm : (toString "max" ++ toString ".loop" : String) = "max.loop" := by decide
  have hargs : argsOk "max" ⟨[.ref l], dflt.toList.map fun d => (Str.ofString "default", d)⟩ := by
    cases dflt with
    | none => exact F.args_max1 _
    | some d => exact max_args_dflt _ _
  have run : wpAny (model prog w) A.in1 (Builtin.«max» ⟨[.ref l], dflt.toList.map fun d => (Str.ofString "default", d)⟩) (fun fin s' => match fin with
      | .done f => (match (Except.ok f : Result) with | .ok (.ret v) => Q v s' | .ok _ => False | .error e => E e s')
      | .again c' => c'.quiet = true ∧ codeAny (model prog w) A c' (fun r s'' => match r with | .ok (.ret v) => Q v s'' | .ok _ => False | .error e => E e s'') s') E s := by
    show wpAny _ A.in1 (Builtin.Builtins.bindParams "max" ["key", "default"] 0 ⟨[], dflt.toList.map fun d => (Str.ofString "default", d)⟩ >>= fun _ => _) _ _ s
    refine wpAny_bind (wpAny_of_eq (show Builtin.Builtins.bindParams "max" ["key", "default"] 0 ⟨[], dflt.toList.map fun d => (Str.ofString "default", d)⟩ = pure [none, dflt] from ?_) ?_)
    · cases dflt with
      | none => rfl
      | some d => rfl
    refine wpAny_bind (wpAny_pure ?_)
    refine wpAny_bind (wpAny_pyIter_list hl ?_)
    refine wpAny_bind (wpAny_newObj_type ?_ (by show 0 ≤ sizeLine; decide))
    rw [hnm]
    have k1 : ∀ {o1 o2 : Obj}, Kp s.heap ((s.heap.push o1).push o2) := fun {o1 o2} b o e => Heap.get?_push_of_some _ (Heap.get?_push_of_some _ e)
    have z1 : ∀ {o1 : Obj}, (s.heap.push o1).objs.size = s.heap.objs.size + 1 := fun {o1} => Heap.size_push ..
    refine wpAny_pure ⟨plainId_quiet F.plain_max_loop _, max_turns (h0 := s.heap) (items := items) (bt := bt) hh ?_ ?_ ?_ hl hcmp ?_ _ 0 _ [] _ rfl (Nat.zero_le _) k1 ?_ (Heap.get?_push_size _ rfl) (.inl ⟨rfl, rfl⟩) fun v h' tk hv hk => ?_⟩
    · exact Heap.get?_none_of_le (Nat.le_refl _)
    · exact Heap.get?_none_of_le (by rw [z1]; exact Nat.le_succ _)
    · show s.heap.objs.size ≠ _
      rw [z1]
      omega
    · intro e
      obtain ⟨d, rfl⟩ := hne e
      exact ⟨_, d, rfl⟩
    · exact ⟨_, Heap.get?_push_of_some _ (Heap.get?_push_size _ rfl), rfl, rfl⟩
    · refine hQ v h' tk ?_ hk
      rcases hv with hv | ⟨e, nm, hv⟩
      · exact .inl hv
      · refine .inr ⟨e, ?_⟩
        cases dflt with
        | none => cases hv
        | some d => cases hv; rfl
  refine wpAny_call (codeAny_call_builtin F.plain_max F.entry_max ?_)
  simp only [checkBuiltinCall, F.kind_max]
  cases hsig : Manifest.signature? "max" with
  | none => exact wpAny_pure run
  | some sig =>
    simp only [argsOk, hsig] at hargs
    have h2 : Bind.checkArgs "max" sig ⟨[.ref l], dflt.toList.map fun d => (Str.ofString "default", d)⟩ = pure () := hargs
    show wpAny _ A.in1 (Bind.checkArgs "max" sig _) _ _ s
    rw [h2]
    exact wpAny_pure run
end
end JX
namespace L2
open PySem PySem.Spec PyProof.Rows
section
variable {X : Cx}
theorem gt_best (f : Nat → Int) : ∀ n, ∃ i, i ≤ n ∧ argBest (fun i j => decide (f j < f i)) n = i ∧ ∀ j, j ≤ n → f j ≤ f i
  | 0 => ⟨0, Nat.le_refl _, rfl, fun j hj => by rw [Nat.le_zero.mp hj]; exact Int.le_refl _⟩
  | n + 1 => by
    obtain ⟨i, h1, h2, h3⟩ := gt_best f n
    by_cases h : f i < f (n + 1)
    · refine ⟨n + 1, Nat.le_refl _, ?_, fun j hj => ?_⟩
      · unfold argBest
        rw [h2, if_pos (decide_eq_true h)]
      · rcases Nat.lt_or_ge j (n + 1) with q | q
        · have := h3 j (by omega)
          omega
        · have e : j = n + 1 := by omega
          rw [e]
          exact Int.le_refl _
    · refine ⟨i, by omega, ?_, fun j hj => ?_⟩
      · unfold argBest
        rw [h2, if_neg (by simpa using h)]
      · rcases Nat.lt_or_ge j (n + 1) with q | q
        · exact h3 j (by omega)
        · have e : j = n + 1 := by omega
          rw [e]
          omega
/-- max(xs, default=d), ints -/
def tMaxD (K : PySem.W.Frag) (ta : TA) (d : Int) : TE := fun σ H Q => ta σ H fun vs H1 => ∃ (a : Addr) (ns : List Int), vs = [V.ref a] ∧ SqL K H1 a (ns.map V.int) ∧
  (ns = [] → Q (.int d) H1) ∧ ∀ m, m ∈ ns → (∀ y, y ∈ ns → y ≤ m) → Q (.int m) H1
theorem pe_maxD {e : Expr} {ta : TA} {p pos kp cp : Pos} {j : Nat} {d : Int} (hc : X.calm = true) (hg : Gl X "max") (hm : X.mg "max" = none) (ha : PA X [e] ta)
    (hs : starEach [e] X.env = [(false, eval e X.env)] := by rfl) : PE X (.Call (.Name "max" p) [e] [⟨some "default", .Constant (.int d) j cp, kp⟩] pos) (tMaxD X.K ta d) := by
  intro pins s σ H Q I h
  refine wpAny_Call_Name_kw (ld_blt I hg hm PyProof.Rows.boot_max ?_)
  refine callWith_kw (he := by rw [hs]; rfl) (hplain := by rw [hs]; rfl) (thn (ha pos pins s σ H _ I h) fun us s1 ⟨vs, H1, I1, r1, q1⟩ => ?_)
  obtain ⟨a, ns, rfl, hq, q0, q⟩ := q1
  have hk : PK X [⟨some "default", .Constant (.int d) j cp, kp⟩] (tCons (tC (.int d)) tNil) := pk_cons pe_int pk_nil
  refine thn (hk pos pins s1 σ H1 (fun zs H2 => zs = [.int d] ∧ H2 = H1) I1 ⟨rfl, rfl⟩) fun ws s2 ⟨zs, H2, I2, r2, e1, e2⟩ => ?_
  subst e1 e2
  cases r2 with
  | cons rb rt =>
    cases rt
    obtain ⟨tk, rfl⟩ := rb
    obtain ⟨its, rv, hl, _⟩ := I2.list hq
    rw [Vals.ref1 r1]
    have hi := rv.ints
    have hlen := rv.length
    rw [List.length_map] at hlen
    have at_ : ∀ i v, its[i]? = some v → ∃ t, v = Value.int (ns.getD i 0) t := fun i v hv => by
      have hil := (List.getElem?_eq_some_iff.mp hv).1
      have hn : (ns.map V.int)[i]? = some (V.int ns[i]) := by rw [List.getElem?_map, List.getElem?_eq_getElem (by omega)]; rfl
      obtain ⟨u, hu, ru⟩ := rv.get hn
      rw [hv] at hu
      cases hu
      obtain ⟨t, rfl⟩ := ru
      exact ⟨t, by rw [List.getD, List.getElem?_eq_getElem (by omega)]; rfl⟩
    refine JX.max_any (dflt := some (.int d tk)) (bt := fun i j => decide (ns.getD j 0 < ns.getD i 0)) (I2.ok.hd hc) hl.isList ?_ (fun _ => ⟨_, rfl⟩) fun v h' tk' hv hk => ?_
    · intro i j vi vj s' Q' E' hvi hvj _ hq'
      obtain ⟨t1, rfl⟩ := at_ i vi hvi
      obtain ⟨t2, rfl⟩ := at_ j vj hvj
      exact (PyProof.Rows.gt_int hq' : wpAny (model X.prog X.w) X.A.in1 (compareOp .Gt (.int _ t1) (.int _ t2)) Q' E' s')
    · rcases hv with ⟨hne, hv⟩ | ⟨he, hv⟩
      · obtain ⟨t, rfl⟩ := at_ _ v hv
        obtain ⟨i, h1, h2, h3⟩ := gt_best (fun i => ns.getD i 0) (its.length - 1)
        have hpos : 0 < its.length := List.length_pos_iff.mpr hne
        rw [h2] at hv ⊢
        have gm : ∀ i, i < ns.length → ns.getD i 0 = ns[i]! := fun i hi => by simp [List.getD, hi]
        refine ⟨.int (ns.getD i 0), _, I2.kept hk, ⟨t, rfl⟩, q _ ?_ fun y hy => ?_⟩
        · rw [List.getD, List.getElem?_eq_getElem (by omega)]
          exact List.getElem_mem _
        · obtain ⟨m, hm, rfl⟩ := List.getElem_of_mem hy
          have := h3 m (by omega)
          rw [show ns.getD m 0 = ns[m] by rw [List.getD, List.getElem?_eq_getElem hm]; rfl] at this
          exact this
      · have e0 : ns = [] := List.eq_nil_of_length_eq_zero (by rw [hlen, he]; rfl)
        cases hv
        exact ⟨.int d, _, I2.kept hk, ⟨tk, rfl⟩, q0 e0⟩
end
end L2

/-! States: what is in the air, a beat from a state. -/
namespace Jm
open Jug
def toNats (s : List Int) : List Nat := s.map Int.toNat
def isState (s : List Int) : Bool := decide (s.length ≤ 15) && s.all fun z => decide (z ≤ 3)
def whole (l : List Nat) : List Nat := l ++ List.replicate (15 - l.length) 0
theorem whole_len {l : List Nat} (h : l.length ≤ 15) : (whole l).length = 15 := by
  unfold whole
  rw [List.length_append, List.length_replicate]
  omega
theorem airIn_eq {s : List Int} (h0 : ∀ z ∈ s, 0 ≤ z) : airIn (toNats s) = if isState s = true then some (whole (toNats s)) else none := by
  have hl : (toNats s).length = s.length := by simp [toNats]
  have e : airOk (whole (toNats s)) = isState s := by
    unfold airOk isState
    have a1 : ((whole (toNats s)).length == HIGH) = decide (s.length ≤ 15) := by
      unfold whole
      rw [List.length_append, List.length_replicate, hl, Bool.eq_iff_iff]
      show (s.length + (15 - s.length) == 15) = true ↔ _
      simp
      omega
    have a2 : ((whole (toNats s)).all fun n => decide (n ≤ ATONCE)) = s.all fun z => decide (z ≤ 3) := by
      unfold whole
      rw [List.all_append]
      have r1 : ((List.replicate (15 - (toNats s).length) 0).all fun n => decide (n ≤ ATONCE)) = true := by
        rw [List.all_eq_true]
        intro x hx
        rw [(List.mem_replicate.mp hx).2]
        rfl
      rw [r1, Bool.and_true]
      unfold toNats
      rw [List.all_map, Bool.eq_iff_iff, List.all_eq_true, List.all_eq_true]
      constructor
      · intro h x hx
        have := h x hx
        have h2 := h0 x hx
        simp [ATONCE] at this
        simp
        omega
      · intro h x hx
        have := h x hx
        have h2 := h0 x hx
        simp at this
        simp [ATONCE]
        omega
    rw [a1, a2]
  show (if airOk (whole (toNats s)) = true then some (whole (toNats s)) else none) = _
  rw [e]
/-! a beat from a state -/
def cntB (N : Nat) (f : Nat → Nat) (ks : List Nat) : List Nat := (List.range N).map fun k => f k + ks.count k
theorem cntB_length (N : Nat) (f : Nat → Nat) (ks : List Nat) : (cntB N f ks).length = N := by simp [cntB]
theorem cntB_at {N k : Nat} (f : Nat → Nat) (ks : List Nat) (h : k < N) : (cntB N f ks)[k]? = some (f k + ks.count k) := by
  unfold cntB
  rw [List.getElem?_map, List.getElem?_range h]
  rfl
theorem cntB_bump {N k : Nat} (f : Nat → Nat) (ks : List Nat) (h : k < N) : (cntB N f ks).set k (f k + ks.count k + 1) = cntB N f (ks ++ [k]) := by
  apply List.ext_getElem?
  intro i
  by_cases hi : i < N
  · rw [cntB_at _ _ hi, List.getElem?_set, cntB_length, List.count_append]
    by_cases e : k = i
    · subst e
      rw [if_pos rfl, if_pos h]
      simp
      omega
    · rw [if_neg e, cntB_at _ _ hi]
      have : List.count i [k] = 0 := by
        rw [List.count_eq_zero]
        simp
        omega
      rw [this, Nat.add_zero]
  · rw [List.getElem?_eq_none (by rw [List.length_set, cntB_length]; omega), List.getElem?_eq_none (by rw [cntB_length]; omega)]
theorem moved_cntB {st : List Nat} (h : st.length = 15) : st.drop 1 ++ [0] = cntB 15 (fun k => st.getD (k + 1) 0) [] := by
  apply List.ext_getElem?
  intro i
  by_cases hi : i < 15
  · rw [cntB_at _ _ hi]
    by_cases h14 : i < 14
    · rw [List.getElem?_append_left (by rw [List.length_drop]; omega), List.getElem?_drop, List.getElem?_eq_getElem (by omega)]
      simp [List.getD]
      rw [List.getElem?_eq_getElem (by omega)]
      simp [Nat.add_comm]
    · have e : i = 14 := by omega
      subst e
      rw [List.getElem?_append_right (by rw [List.length_drop]; omega), List.length_drop, h]
      simp [List.getD, h]
  · rw [List.getElem?_eq_none (by rw [List.length_append, List.length_drop]; simp; omega), List.getElem?_eq_none (by rw [cntB_length]; omega)]
def nextState (st : List Nat) (b : Beat) : List Nat := cntB 15 (fun k => st.getD (k + 1) 0) (b.map fun h => h - 1)
theorem nextState_len (st : List Nat) (b : Beat) : (nextState st b).length = 15 := cntB_length _ _ _
theorem afterBeat_eq {st : List Nat} {b : Beat} (hb : ∀ h ∈ b, 1 ≤ h) : afterBeat st b = if b.length ≠ st.headD 0 then none else some (nextState st b) := by
  unfold afterBeat nextState cntB
  congr 1
  congr 1
  apply List.map_congr_left
  intro k _
  congr 1
  induction b with
  | nil => rfl
  | cons a r ih =>
    have h1 := hb a List.mem_cons_self
    rw [List.filter_cons, List.map_cons, List.count_cons, ← ih (fun h hh => hb h (List.mem_cons_of_mem _ hh))]
    by_cases e : a = k + 1
    · rw [if_pos (by simpa using e), if_pos (by simp; omega)]
      rfl
    · rw [if_neg (by simpa using e), if_neg (by simp; omega)]
      rfl

end Jm

set_option Elab.async false
set_option linter.all false
set_option maxRecDepth 100000
set_option maxHeartbeats 4000000
namespace JX
open PySem PySem.Spec PyProof.Rows
open PySem.AutoSeq1 (wpAny_loadPart')
theorem noFill_tuple_mulJ : fillsNumberSlot (.type "tuple") "mul" = pure false :=
  PySem.fillsNumberSlot_seq (id := "tuple.__mul__") (r := some (.builtin "tuple.__rmul__")) F.slot_tuple_mul.lookup (by decide +kernel) F.slot_tuple_rmul.lookup (by decide +kernel)
theorem repeat_tupleJ : seqRepeat? (.type "tuple") = pure (some (.builtin "tuple.__mul__")) := by
  unfold seqRepeat?
  rw [PySem.seqSlot_of (T := "tuple") (name := "__mul__") (id := "tuple.__mul__") F.slot_tuple_mul.lookup (by decide +kernel), PySem.seqSlot_of (T := "tuple") (name := "__rmul__") (id := "tuple.__rmul__") F.slot_tuple_rmul.lookup (by decide +kernel)]
  all_goals rfl
theorem rmul_int_tuple (a : Int) (t : Tok) (l : Addr) (items : Array Value) (n : Nat) (dd : Option Addr) (sl : Array (Option Value)) :
    Meets (Builtin.«int.__rmul__» ⟨[.int a t, .ref l], []⟩) (fun _ R s => s.heap.get? l = some { cls := .type "tuple", dict := dd, data := .seq items n, slots := sl } ∧ R (.ok (.ret Value.notImplemented)) s) :=
  .of_wp fun prog w A R s h => by
    obtain ⟨hp, g, d, tk, os⟩ := s
    obtain ⟨hl, h⟩ := h
    wp_walk using wpAny_loadPart' hl
    exact ⟨_, rfl, h⟩
theorem mul_tuple1 (l : Addr) (items : Array Value) (n : Nat) (dd : Option Addr) (sl : Array (Option Value)) (u : Tok) :
    Meets (Builtin.«tuple.__mul__» ⟨[.ref l, .int 1 u], []⟩) (fun _ R s => s.heap.get? l = some { cls := .type "tuple", dict := dd, data := .seq items n, slots := sl } ∧ R (.ok (.ret (.ref l))) s) :=
  .of_wp fun prog w A R s h => by
    obtain ⟨hp, g, d, tk, os⟩ := s
    obtain ⟨hl, h⟩ := h
    have f1 := AutoSeq1.idx_int
    wp_walk using wpAny_loadPart' hl
    exact ⟨_, rfl, h⟩
theorem mul_tuple0 (l : Addr) (items : Array Value) (n : Nat) (dd : Option Addr) (sl : Array (Option Value)) (x : Int) (u : Tok) (h1 : ¬ x = 1) (h0 : x ≤ 0) (hlo : ¬ x < -(2 ^ 63)) (hne : items.isEmpty = false) :
    Meets (Builtin.«tuple.__mul__» ⟨[.ref l, .int x u], []⟩) (fun _ R s => s.heap.get? l = some { cls := .type "tuple", dict := dd, data := .seq items n, slots := sl } ∧ R (.ok (.ret (.ref s.heap.objs.size))) { s with heap := s.heap.push { cls := .type "tuple", data := .seq #[] } }) :=
  .of_wp fun prog w A R s h => by
    obtain ⟨hp, g, d, tk, os⟩ := s
    obtain ⟨hl, h⟩ := h
    have f1 := AutoSeq1.idx_int
    wp_walk using wpAny_loadPart' hl
    rw [if_neg (by simp; omega)]
    wp_walk using wpAny_loadPart' hl
    exact ⟨_, rfl, h⟩
theorem mul_tupleN (l : Addr) (items : Array Value) (n : Nat) (dd : Option Addr) (sl : Array (Option Value)) (x : Int) (u : Tok) (h1 : 1 < x) (hhi : x < 2 ^ 63) (hne : items.isEmpty = false) (hsz : (items.size : Int) * x ≤ (sizeLine : Nat)) (out : Array Value) (hout : List.foldl (fun x1 x2 => x1 ++ x2) #[] (List.replicate x.toNat items) = out) (hos : out.size ≤ sizeLine) :
    Meets (Builtin.«tuple.__mul__» ⟨[.ref l, .int x u], []⟩) (fun _ R s => s.heap.get? l = some { cls := .type "tuple", dict := dd, data := .seq items n, slots := sl } ∧ R (.ok (.ret (.ref s.heap.objs.size))) { s with heap := s.heap.push { cls := .type "tuple", data := .seq out } }) :=
  .of_wp fun prog w A R s h => by
    obtain ⟨hp, g, d, tk, os⟩ := s
    obtain ⟨hl, h⟩ := h
    have f1 := AutoSeq1.idx_int
    have hz : ((sizeLine : Nat) : Int) ≤ (2 ^ 63 - 1) / 8 := by decide
    wp_walk using wpAny_loadPart' hl
    rw [if_neg (by simp; omega)]
    wp_walk using wpAny_loadPart' hl
    rw [if_neg (by simp [hne]; omega)]
    wp_walk using wpAny_loadPart' hl
    rw [if_neg (by simp [hne]; omega)]
    wp_walk using wpAny_loadPart' hl
    rw [if_neg (by omega)]
    wp_walk using wpAny_loadPart' hl
    rw [if_neg (by unfold Builtin.Tuple.tupleTooMany; simp; omega)]
    wp_walk using wpAny_loadPart' hl
    rw [hout]
    exact ⟨_, rfl, h⟩
end JX
namespace L2
open PySem PySem.Spec PyProof.Rows
section
variable {X : Cx}
/-- t * k, the tuple not empty -/
def rRepT : R2 := fun x y H Q => ∃ l k xs, x = .ref l ∧ y = .int k ∧ H l = some (.tup xs) ∧ xs ≠ [] ∧ -(2 ^ 63) ≤ k ∧ k < 2 ^ 63 ∧ xs.length * k.toNat ≤ sizeLine ∧
  ∀ p H', Same H H' → H' p = some (.tup (List.replicate k.toNat xs).flatten) → Q (.ref p) H'
theorem Inv.tnew {pins : List (Addr × Obj)} {σ : St} {H : Hp} {s : Shared} {ys : List V} {its : List Value} {t' : Nat} (I : Inv X pins σ H s) (hv : Vals ys its) (hz : ys.length ≤ sizeLine) :
    Inv X pins σ (upd H s.heap.objs.size (.tup ys)) { s with heap := s.heap.push { cls := .type "tuple", data := .seq its.toArray }, toks := t' } :=
  I.laid (fun b o e => Heap.get?_push_of_some _ e) (Nat.le_refl _) ⟨hz, its, hv, ⟨_, Heap.get?_push_size _ rfl, rfl, _, rfl⟩⟩
theorem op_repT : OpR X (binaryOp .Mult) rRepT := by
  intro pins s σ H x y v u Q I rx ry h
  obtain ⟨l, k, xs, rfl, rfl, hH, hne, h1, h2, hz, q⟩ := h
  cases rx
  obtain ⟨t, rfl⟩ := ry
  obtain ⟨hlen, its, r, ht⟩ := I.hok l _ hH
  obtain ⟨⟨cls, dd, data, sl⟩, e, hc, n, hd⟩ := id ht
  simp only at hc hd
  subst hc hd
  have hl := r.length
  have hits : its ≠ [] := fun e => hne (List.eq_nil_of_length_eq_zero (by rw [hl, e]; rfl))
  have hemp : its.toArray.isEmpty = false := by
    cases its with
    | nil => exact absurd rfl hits
    | cons a b => rfl
  refine wpAny_binaryOp_repeat_ref (T := "tuple") (U := "int") (by decide) ⟨_, e, rfl⟩ (fun s' => typeIs_int s' k t) JX.noFill_tuple_mulJ F.fills_int_mul F.slot_int_rmul JX.repeat_tupleJ F.slot_int_index.lookup
    (call_meets F.slot_int_rmul (typeIs_int s k t) F.entry_int_rmul (F.args_int_rmul_2 _ _) (JX.rmul_int_tuple k t l its.toArray n dd sl) ⟨e, rfl, ⟨_, e, rfl⟩, ?_⟩)
  by_cases k1 : k = 1
  · subst k1
    refine call_meets F.slot_tuple_mul ⟨_, e, rfl⟩ F.entry_tuple_mul (F.args_tuple_mul_2 _ _) (JX.mul_tuple1 l its.toArray n dd sl t) ⟨e, ⟨.ref l, H, I, rfl, q l H (Same.refl H) ?_⟩⟩
    rw [hH]
    simp
  · by_cases k0 : k ≤ 0
    · refine call_meets F.slot_tuple_mul ⟨_, e, rfl⟩ F.entry_tuple_mul (F.args_tuple_mul_2 _ _) (JX.mul_tuple0 l its.toArray n dd sl k t k1 k0 (by omega) hemp) ⟨e, ?_⟩
      refine ⟨.ref _, _, I.tnew (t' := s.toks) (ys := []) (its := []) .nil (Nat.zero_le _), rfl, q _ _ ((Same.refl H).new I.fresh) ?_⟩
      rw [upd_same]
      have : k.toNat = 0 := by omega
      rw [this]
      rfl
    · have hout : List.foldl (fun x1 x2 => x1 ++ x2) #[] (List.replicate k.toNat its.toArray) = (List.replicate k.toNat its).flatten.toArray := by
        have := foldl_rep its k.toNat []
        rw [List.nil_append] at this
        exact this
      have hsz : (List.replicate k.toNat its).flatten.length ≤ sizeLine := by
        rw [len_rep, ← hl, Nat.mul_comm]
        exact hz
      refine call_meets F.slot_tuple_mul ⟨_, e, rfl⟩ F.entry_tuple_mul (F.args_tuple_mul_2 _ _) (JX.mul_tupleN l its.toArray n dd sl k t (by omega) h2 hemp ?_ _ hout (by simpa using hsz)) ⟨e, ?_⟩
      · have ek : ((k.toNat : Nat) : Int) = k := by omega
        rw [← ek, List.size_toArray, ← hl, ← Int.natCast_mul]
        exact Int.ofNat_le.mpr hz
      · exact ⟨.ref _, _, I.tnew (t' := s.toks) (r.rep k.toNat) (by rw [len_rep, Nat.mul_comm]; exact hz), rfl, q _ _ ((Same.refl H).new I.fresh) upd_same⟩
/-- t + u of tuples, whatever is empty -/
def rCatA : R2 := fun x y H Q => ∃ a b xs ys, x = .ref a ∧ y = .ref b ∧ H a = some (.tup xs) ∧ H b = some (.tup ys) ∧ xs.length + ys.length ≤ sizeLine ∧
  ∀ p H', Same H H' → H' p = some (.tup (xs ++ ys)) → Q (.ref p) H'
theorem op_catA : OpR X (binaryOp .Add) rCatA := by
  intro pins s σ H x y v u Q I rx ry h
  obtain ⟨a, b, xs, ys, rfl, rfl, ha, hb, hz, q⟩ := h
  cases rx
  cases ry
  obtain ⟨hla, its, ra, hta⟩ := I.hok a _ ha
  obtain ⟨hlb, jts, rb, htb⟩ := I.hok b _ hb
  by_cases hx : xs = []
  · have hi : its = [] := List.eq_nil_of_length_eq_zero (by rw [← ra.length, hx]; rfl)
    subst hi hx
    obtain ⟨⟨cls, dd, data, sl⟩, ho, hc, n, hd⟩ := id hta
    obtain ⟨⟨cls2, dd2, data2, sl2⟩, ho2, hc2, n2, hd2⟩ := id htb
    simp only at hc hd hc2 hd2
    subst hc hd hc2 hd2
    exact concat_meets ⟨_, ho, rfl⟩ ⟨_, ho2, rfl⟩ noFill_tuple_add seq_tuple_add PySem.F.slot_tuple_add PySem.F.entry_tuple_add (PySem.F.args_tuple_add_2 _ _)
      (tuple_addW0 a b _ jts.toArray n n2 dd dd2 sl sl2 rfl) ⟨ho, ho2, ⟨.ref b, H, I, rfl, q b H (Same.refl H) hb⟩⟩
  · have hi : its ≠ [] := fun e => hx (List.eq_nil_of_length_eq_zero (by rw [ra.length, e]; rfl))
    refine HT.cat_tup hta htb hi (fun e => ?_) (fun e => ?_) (by rw [← ra.length, ← rb.length]; exact hz)
    · have hy : ys = [] := List.eq_nil_of_length_eq_zero (by rw [rb.length, e]; rfl)
      refine ⟨.ref a, H, I, rfl, q a H (Same.refl H) ?_⟩
      rw [hy, List.append_nil]
      exact ha
    · exact ⟨.ref _, _, I.tnew (t' := s.toks) (ra.append rb) (by rw [List.length_append]; exact hz), rfl, q _ _ ((Same.refl H).new I.fresh) upd_same⟩
/-- max(t) of a tuple of ints -/
def rMaxT (K : PySem.W.Frag) : List V → Hp → VK → Prop := fun vs H Q => ∃ (a : Addr) (ns : List Int), vs = [V.ref a] ∧ SqT K H a (ns.map V.int) ∧ 0 < ns.length ∧ ∀ m, m ∈ ns → (∀ y, y ∈ ns → y ≤ m) → Q (.int m) H
theorem cr_maxT (hc : X.calm = true) : CallR X (.builtin "max") (rMaxT X.K) := by
  intro pins s σ H vs us Q I r h
  obtain ⟨a, ns, rfl, hs, hne, q⟩ := h
  obtain ⟨its, rv, hl, _⟩ := I.tuple hs
  rw [Vals.ref1 r]
  have hlen := rv.length
  rw [List.length_map] at hlen
  have at_ : ∀ i v, its[i]? = some v → ∃ t, v = Value.int (ns.getD i 0) t := fun i v hv => by
    have hil := (List.getElem?_eq_some_iff.mp hv).1
    have hn : (ns.map V.int)[i]? = some (V.int ns[i]) := by rw [List.getElem?_map, List.getElem?_eq_getElem (by omega)]; rfl
    obtain ⟨u, hu, ru⟩ := rv.get hn
    rw [hv] at hu
    cases hu
    obtain ⟨t, rfl⟩ := ru
    exact ⟨t, by rw [List.getD, List.getElem?_eq_getElem (by omega)]; rfl⟩
  have ht : s.heap.IsTuple a its.toArray := hl
  have hlt : a < s.heap.objs.size := by
    obtain ⟨o, e, _⟩ := hl
    exact Heap.lt_size e
  refine call_max_walk (wpAny_pyIter_tuple ht ?_)
  refine ⟨s.heap.objs.size, _, _, _, _, _, (fun i j => decide (ns.getD j 0 < ns.getD i 0)), rfl, Walks.tuple (A := X.A.in1) (I.ok.hd hc) _ a (Nat.ne_of_lt hlt) its.toArray,
    ⟨⟨_, Heap.get?_push_size _ rfl, rfl, rfl⟩, ht.at fun o e => Heap.get?_push_of_some _ e⟩, fun b hb => ?_, by rw [List.size_toArray]; omega, ?_, fun v h' tk hP hk => ?_⟩
  · rw [Heap.size_push]
    simp at hb
    rcases hb with rfl | rfl
    · exact Nat.lt_succ_self _
    · exact Nat.lt_succ_of_lt hlt
  · intro i j vi vj s' Q' E' hi hj hq
    obtain ⟨t1, rfl⟩ := at_ i vi (by simpa using hi)
    obtain ⟨t2, rfl⟩ := at_ j vj (by simpa using hj)
    exact (PyProof.Rows.gt_int hq : wpAny (model X.prog X.w) X.A.in1 (compareOp .Gt (.int _ t1) (.int _ t2)) Q' E' s')
  · have hP : its.toArray[argBest (fun i j => decide (ns.getD j 0 < ns.getD i 0)) (its.toArray.size - 1)]? = some v := hP
    rw [List.size_toArray] at hP
    obtain ⟨i, h1, h2, h3⟩ := gt_best (fun i => ns.getD i 0) (its.length - 1)
    rw [h2] at hP
    have hP : its[i]? = some v := by simpa using hP
    obtain ⟨t, rfl⟩ := at_ i v hP
    have hi := (List.getElem?_eq_some_iff.mp hP).1
    refine ⟨.int (ns.getD i 0), H, I.kept fun b o e => hk b o (fun hm => ?_) (Heap.get?_push_of_some _ e), ⟨t, rfl⟩, q _ ?_ fun y hy => ?_⟩
    · have : b = s.heap.objs.size := by simpa using hm
      rw [this] at e
      exact absurd (Heap.lt_size e) (Nat.lt_irrefl _)
    · rw [List.getD, List.getElem?_eq_getElem (by omega)]
      exact List.getElem_mem _
    · obtain ⟨m, hm, rfl⟩ := List.getElem_of_mem hy
      have := h3 m (by omega)
      rw [show ns.getD m 0 = ns[m] by rw [List.getD, List.getElem?_eq_getElem hm]; rfl] at this
      exact this
end
end L2

set_option Elab.async false
set_option linter.all false
set_option maxRecDepth 100000
set_option maxHeartbeats 4000000
namespace JX
open PySem PySem.Spec PyProof.Rows
open PySem.SeqAt (EqAt)
open PySem.AutoSeq1 (wpAny_loadPart')
/-! a > b of lists, item by item -/

end JX
namespace L2
open PySem PySem.Spec PyProof.Rows

section
variable {X : Cx}

end
end L2

/-! Texts told; the form. -/
namespace Jm
open Jug
def dgt (n : Nat) : Nat := if n < 10 then 48 + n else 87 + n
theorem digitOf_nat {n : Nat} (h : n ≤ 15) : (digitOf n).toNat = dgt n := by
  unfold digitOf dgt
  rw [UInt8.toNat_ofNat']
  split <;> omega
/-- a beat's text, in numbers -/
def beatTx (b : Beat) : List Nat := match b with
  | [] => [48]
  | [h] => [dgt h]
  | l => 91 :: (l.map dgt ++ [93])
def textTx (p : Pattern) : List Nat := p.flatMap beatTx
theorem beatTx_eq {b : Beat} (h : ∀ n ∈ b, n ≤ 15) : (Beat.text b).map UInt8.toNat = beatTx b := by
  match b, h with
  | [], _ => rfl
  | [n], h => show [(digitOf n).toNat] = [dgt n]; rw [digitOf_nat (h n (by simp))]
  | n :: m :: r, h =>
    show (91 :: ((n :: m :: r).map digitOf ++ [93])).map UInt8.toNat = 91 :: ((n :: m :: r).map dgt ++ [93])
    rw [List.map_cons, List.map_append, List.map_map]
    congr 2
    apply List.map_congr_left
    intro x hx
    exact digitOf_nat (h x hx)
theorem textTx_eq : ∀ {p : Pattern}, (∀ b ∈ p, ∀ n ∈ b, n ≤ 15) → (textOf p).map UInt8.toNat = textTx p
  | [], _ => rfl
  | b :: r, h => by
    show (Beat.text b ++ textOf r).map UInt8.toNat = beatTx b ++ textTx r
    rw [List.map_append, beatTx_eq (h b List.mem_cons_self), textTx_eq fun c hc => h c (List.mem_cons_of_mem _ hc)]
theorem beatTx_len {b : Beat} (h : b.length ≤ 3) : (beatTx b).length ≤ 5 := by
  match b, h with
  | [], _ => simp [beatTx]
  | [n], h => simp [beatTx]
  | n :: m :: r, h => simp [beatTx] at h ⊢; omega
theorem gives_eq {p : Pattern} (h : ∀ b ∈ p, ∀ n ∈ b, n ≤ 15) : gives (textOf p) = (((textTx p).length :: textTx p).map Int.ofNat) := by
  unfold gives
  rw [textTx_eq h]
  have : (textOf p).length = (textTx p).length := by rw [← textTx_eq h, List.length_map]
  rw [this]
  rfl
/-! the greatest turn -/

end Jm

set_option Elab.async false
set_option linter.all false
set_option maxRecDepth 100000
set_option maxHeartbeats 4000000
namespace L2
open PySem PySem.Spec PyProof.Rows
section
variable {X : Cx}
/-- {k: v}, k a tuple -/
def tDispT (tk tv : TE) : TE := fun σ H Q => ∀ p, H p = none → tk σ (upd H p (.dT [])) fun x H1 => tv σ H1 fun y H2 => H2 p = some (.dT []) ∧ ∃ b k, x = .ref b ∧ H2 b = some (.tup (k.map kV)) ∧ Q (.ref p) (upd H2 p (.dT [(k, y)]))
theorem pe_dispT {k v : Expr} {tk tv : TE} {pos : Pos} (hu : X.A.units + 1 < cLine) (hk : PE X k tk) (hv : PE X v tv) : PE X (.Dict [some k] [v] pos) (tDispT tk tv) := by
  intro pins s σ H Q I q
  have hn := I.hok.fresh (Nat.le_refl s.heap.objs.size)
  have I1 := I.laid (a := s.heap.objs.size) (o := .dT []) (h' := s.heap.push { cls := .type "dict", data := .dict #[] }) (t' := s.toks) (fun _ _ q => Heap.get?_push_of_some _ q) (Nat.le_refl _) (dt_empty s.heap I.big)
  refine wpAny_Dict_any rfl rfl (by simp) (by show 1 ≤ 15; decide) (pairTrees_cons_walk (thn (hk pins _ σ _ _ I1 (q _ hn)) fun u s1 ⟨x, H1, I2, rx, q1⟩ => thn (hv pins s1 σ H1 _ I2 q1) fun w2 s2 ⟨y, H2, I3, ry, e, b, ks, ex, eb, q2⟩ => pairTrees_nil_walk ?_))
  subst ex
  obtain rfl : u = Value.ref b := rx
  obtain ⟨z, hd, xs, rel, dd⟩ := dt_of I3.hok e
  have hx : xs = [] := by cases rel; rfl
  subst hx
  show wpAny _ _ (storeAll s.heap.objs.size [(Value.ref b, w2)]) _ _ s2
  unfold storeAll
  rw [List.forIn_cons]
  refine wpAny_bind (wpAny_bind (wpAny_dictSet_heap (hsz := by simp) (Nat.lt_of_succ_lt hu) (key_of I3.hok eb) dd fun h' dd' hs => wpAny_pure ?_))
  dsimp only
  rw [List.forIn_nil]
  refine wpAny_pure ?_
  obtain ⟨q0, es, ep, hq, h2, h3, h4, _, h5⟩ := dd'
  refine ⟨.ref s.heap.objs.size, _, d_write (ob := .dT [(ks, y)]) I3 (by rw [e]; exact True.intro) hs ⟨q0, hq⟩ ⟨by show 1 ≤ sizeLine; decide, hd, _, ((KT.put (H := H2) (kvs := []) (xs := []) .nil ks eb ry).keeps fun c ys ec => ?_), q0, es, ep, hq, h2, h3, h4, h5⟩, rfl, q2⟩
  rw [upd_ne (ne_of ec e (fun z => nomatch z))]
  exact ec
end
end L2

/-! Ways: rows of throws, layers of states. -/
namespace Jm
open Jug
/-! rows of throws, grown at their ends -/
def top (h : Nat) (b : Beat) : Nat := (b.getLast?).getD h
def grow (h : Nat) (l : List Beat) : List Beat := l.flatMap fun b => (List.range (top h b)).map fun k => b ++ [k + 1]
def ups (h : Nat) : Nat → List Beat → List Beat
  | 0, l => l
  | n + 1, l => ups h n (grow h l)
theorem ups_append (h : Nat) : ∀ (n : Nat) (l m : List Beat), ups h n (l ++ m) = ups h n l ++ ups h n m
  | 0, _, _ => rfl
  | n + 1, l, m => by
    show ups h n (grow h (l ++ m)) = ups h n (grow h l) ++ ups h n (grow h m)
    unfold grow
    rw [List.flatMap_append]
    exact ups_append h n _ _
theorem ups_flat (h : Nat) (n : Nat) : ∀ (α : Type) (l : List α) (f : α → Beat), ups h n (l.map f) = l.flatMap fun a => ups h n [f a]
  | _, [], _ => by
    have : ∀ n, ups h n [] = [] := fun n => by
      induction n with
      | zero => rfl
      | succ n ih => exact ih
    exact this n
  | α, a :: l, f => by
    rw [List.map_cons, List.flatMap_cons, ← ups_flat h n α l f]
    exact ups_append h n [f a] (l.map f)
theorem ups_rows (h : Nat) : ∀ (n : Nat) (b : Beat), ups h n [b] = (rowsOf n (top h b)).map fun r => b ++ r
  | 0, b => by
    show [b] = ([[]] : List Beat).map fun r => b ++ r
    simp
  | n + 1, b => by
    show ups h n (grow h [b]) = _
    have e : grow h [b] = (List.range (top h b)).map fun k => b ++ [k + 1] := by simp [grow]
    rw [e, ups_flat]
    show _ = (((List.range (top h b)).flatMap fun (k : Nat) => (rowsOf n (k + 1)).map fun (r : Beat) => (k + 1) :: r)).map fun r => b ++ r
    rw [List.map_flatMap]
    congr 1
    funext k
    rw [ups_rows h n (b ++ [k + 1])]
    have et : top h (b ++ [k + 1]) = k + 1 := by simp [top]
    rw [et, List.map_map]
    apply List.map_congr_left
    intro r _
    simp
theorem ups_start (h n : Nat) : ups h n [[]] = rowsOf n h := by
  rw [ups_rows]
  show (rowsOf n h).map (fun r => [] ++ r) = _
  simp
theorem ups_succ (h : Nat) : ∀ (n : Nat) (l : List Beat), ups h (n + 1) l = grow h (ups h n l)
  | 0, _ => rfl
  | n + 1, l => ups_succ h n (grow h l)
theorem rows_good : ∀ (n h : Nat) (b : Beat), b ∈ rowsOf n h → b.length = n ∧ ∀ x ∈ b, 1 ≤ x ∧ x ≤ h
  | 0, h, b, hb => by
    have : b = [] := by simpa [rowsOf] using hb
    subst this
    simp
  | n + 1, h, b, hb => by
    unfold rowsOf at hb
    obtain ⟨k, hk, hb⟩ := List.mem_flatMap.mp hb
    obtain ⟨r, hr, rfl⟩ := List.mem_map.mp hb
    obtain ⟨h1, h2⟩ := rows_good n (k + 1) r hr
    have hk := List.mem_range.mp hk
    refine ⟨by simp [h1], fun x hx => ?_⟩
    rcases List.mem_cons.mp hx with rfl | hx
    · omega
    · have := h2 x hx
      omega
theorem flat_len {α β : Type} (f : α → List β) (m : Nat) : ∀ l : List α, (∀ a ∈ l, (f a).length ≤ m) → (l.flatMap f).length ≤ l.length * m
  | [], _ => by simp
  | a :: r, h => by
    rw [List.flatMap_cons, List.length_append, List.length_cons, Nat.succ_mul]
    have h1 := h a List.mem_cons_self
    have h2 := flat_len f m r fun x hx => h x (List.mem_cons_of_mem _ hx)
    omega
theorem rows_len : ∀ (n h : Nat), (rowsOf n h).length ≤ h ^ n
  | 0, h => by simp [rowsOf]
  | n + 1, h => by
    unfold rowsOf
    have := flat_len (fun (k : Nat) => (rowsOf n (k + 1)).map fun (r : Beat) => (k + 1) :: r) (h ^ n) (List.range h) fun k hk => by
      rw [List.length_map]
      have hk := List.mem_range.mp hk
      exact Nat.le_trans (rows_len n (k + 1)) (Nat.pow_le_pow_left (by omega) n)
    rw [List.length_range] at this
    rw [Nat.pow_succ, Nat.mul_comm]
    exact this
/-! one layer -/
def unrev (l : List (Air × Pattern)) : List (Air × Pattern) := l.reverse.map fun x => (x.1, x.2.reverse)
theorem unrev_cons (x : Air × Pattern) (l : List (Air × Pattern)) : unrev (x :: l) = unrev l ++ [(x.1, x.2.reverse)] := by simp [unrev]
def keys (R : List (Air × Pattern)) : List Air := R.map (·.1)
/-- what one beat adds -/
def stepN (most : Nat) (R0 : List (Air × Pattern)) (s : Air) (w : Pattern) (new : List (Air × Pattern)) (b : Beat) : List (Air × Pattern) :=
  if ((nextState s b).all fun n => decide (n ≤ most)) = true ∧ ¬ nextState s b ∈ keys (R0 ++ unrev new) then (nextState s b, b :: w) :: new else new
theorem contains_keys {R : List (Air × Pattern)} {t : Air} : (keys R).reverse.contains t = decide (t ∈ keys R) := by
  rw [Bool.eq_iff_iff]
  simp
def nextsOf (most : Nat) (s : Air) (bs : List Beat) : List (Beat × Air) := bs.filterMap fun (b : Beat) => match afterBeat s b with
  | none => none
  | some t => if (t.all fun (n : Nat) => decide (n ≤ most)) = true then some (b, t) else none
theorem nexts_of (high most : Nat) (s : Air) : nexts high most s = nextsOf most s (rowsOf (s.headD 0) high) := rfl
theorem fold_nexts {most : Nat} {R0 : List (Air × Pattern)} {s : Air} {w : Pattern} : ∀ (bs : List Beat) (new : List (Air × Pattern)), (∀ b ∈ bs, b.length = s.headD 0 ∧ ∀ h ∈ b, 1 ≤ h) →
    ((nextsOf most s bs).foldl (fun (a : List Air × List (Air × Pattern)) (n : Beat × Air) => if a.1.contains n.2 = true then a else (n.2 :: a.1, (n.2, n.1 :: w) :: a.2)) ((keys (R0 ++ unrev new)).reverse, new)) =
      ((keys (R0 ++ unrev (bs.foldl (stepN most R0 s w) new))).reverse, bs.foldl (stepN most R0 s w) new)
  | [], new, _ => rfl
  | b :: bs, new, hb => by
    obtain ⟨h1, h2⟩ := hb b List.mem_cons_self
    have hr := fun c hc => hb c (List.mem_cons_of_mem _ hc)
    have en : nextsOf most s (b :: bs) = if ((nextState s b).all fun n => decide (n ≤ most)) = true then (b, nextState s b) :: nextsOf most s bs else nextsOf most s bs := by
      unfold nextsOf
      rw [List.filterMap_cons, afterBeat_eq h2, if_neg (by simp [h1])]
      dsimp only
      by_cases hq : ((nextState s b).all fun n => decide (n ≤ most)) = true
      · rw [if_pos hq, if_pos hq]
      · rw [if_neg hq, if_neg hq]
    rw [en, List.foldl_cons]
    by_cases ha : ((nextState s b).all fun n => decide (n ≤ most)) = true
    · rw [if_pos ha, List.foldl_cons]
      dsimp only
      rw [contains_keys]
      by_cases hm : nextState s b ∈ keys (R0 ++ unrev new)
      · rw [if_pos (decide_eq_true hm), fold_nexts bs new hr]
        have : stepN most R0 s w new b = new := by
          unfold stepN
          rw [if_neg (fun q => q.2 hm)]
        rw [this]
      · rw [if_neg (by simpa using hm)]
        have e : stepN most R0 s w new b = (nextState s b, b :: w) :: new := by
          unfold stepN
          rw [if_pos ⟨ha, hm⟩]
        have ek : nextState s b :: (keys (R0 ++ unrev new)).reverse = (keys (R0 ++ unrev ((nextState s b, b :: w) :: new))).reverse := by
          rw [unrev_cons]
          simp [keys]
        rw [ek, e, fold_nexts bs _ hr]
    · rw [if_neg ha]
      have : stepN most R0 s w new b = new := by
        unfold stepN
        rw [if_neg (fun q => ha q.1)]
      rw [this, fold_nexts bs new hr]
/-- one state of a layer -/
def stateN (high most : Nat) (R0 : List (Air × Pattern)) (new : List (Air × Pattern)) (x : Air × Pattern) : List (Air × Pattern) :=
  (rowsOf (x.1.headD 0) high).foldl (stepN most R0 x.1 x.2) new
theorem layer_eq {high most : Nat} {R0 : List (Air × Pattern)} : ∀ (now new : List (Air × Pattern)),
    layer high most now (keys (R0 ++ unrev new)).reverse new = ((now.foldl (stateN high most R0) new).reverse, (keys (R0 ++ unrev (now.foldl (stateN high most R0) new))).reverse)
  | [], new => rfl
  | (s, w) :: r, new => by
    unfold layer
    dsimp only
    rw [nexts_of, fold_nexts (R0 := R0) (s := s) (w := w) (rowsOf (s.headD 0) high) new fun b hb => ⟨(rows_good _ _ b hb).1, fun h hh => ((rows_good _ _ b hb).2 h hh).1⟩]
    dsimp only
    rw [layer_eq r]
    rfl
/-! what stays true -/
def GoodSt (most : Nat) (s : Air) : Prop := s.length = 15 ∧ ∀ n ∈ s, n ≤ most
def GoodRow (high : Nat) (n : Nat) (p : Pattern) : Prop := p.length ≤ n ∧ ∀ b ∈ p, b.length ≤ 2 ∧ ∀ h ∈ b, 1 ≤ h ∧ h ≤ high
structure RowsOk (high most n : Nat) (R : List (Air × Pattern)) : Prop where
  nd : (keys R).Nodup
  st : ∀ x ∈ R, GoodSt most x.1 ∧ GoodRow high n x.2
theorem GoodRow.mono {high n m : Nat} {p : Pattern} (h : GoodRow high n p) (hm : n ≤ m) : GoodRow high m p := ⟨Nat.le_trans h.1 hm, h.2⟩
theorem nodup_snoc {α : Type} {l : List α} {x : α} (h : l.Nodup) (hx : ¬ x ∈ l) : (l ++ [x]).Nodup := by
  rw [List.nodup_append]
  refine ⟨h, by simp, fun a ha b hb => ?_⟩
  simp at hb
  subst hb
  exact fun e => hx (e ▸ ha)
/-- at most 3^15 states -/
def code : List Nat → Nat
  | [] => 0
  | n :: r => n + 3 * code r
theorem code_lt : ∀ {s : List Nat}, (∀ n ∈ s, n ≤ 2) → code s < 3 ^ s.length
  | [], _ => by simp [code]
  | n :: r, h => by
    have h1 := h n List.mem_cons_self
    have h2 := code_lt (s := r) fun x hx => h x (List.mem_cons_of_mem _ hx)
    show n + 3 * code r < 3 ^ (r.length + 1)
    rw [Nat.pow_succ]
    omega
theorem code_inj : ∀ {s t : List Nat}, s.length = t.length → (∀ n ∈ s, n ≤ 2) → (∀ n ∈ t, n ≤ 2) → code s = code t → s = t
  | [], [], _, _, _, _ => rfl
  | [], _ :: _, h, _, _, _ => by simp at h
  | _ :: _, [], h, _, _, _ => by simp at h
  | n :: r, m :: q, h, h1, h2, e => by
    have a1 := h1 n List.mem_cons_self
    have a2 := h2 m List.mem_cons_self
    have e : n + 3 * code r = m + 3 * code q := e
    have en : n = m := by omega
    have ec : code r = code q := by omega
    rw [en, code_inj (by simpa using h) (fun x hx => h1 x (List.mem_cons_of_mem _ hx)) (fun x hx => h2 x (List.mem_cons_of_mem _ hx)) ec]
theorem nodup_bound : ∀ (N : Nat) (l : List Nat), l.Nodup → (∀ x ∈ l, x < N) → l.length ≤ N
  | 0, l, _, h => by
    cases l with
    | nil => simp
    | cons a r => exact absurd (h a List.mem_cons_self) (by omega)
  | N + 1, l, hn, h => by
    have h1 := nodup_bound N (l.erase N) (hn.erase N) fun x hx => by
      have hm := List.mem_of_mem_erase hx
      have := h x hm
      have hne : x ≠ N := fun e => by
        rw [e] at hx
        exact (hn.not_mem_erase) hx
      omega
    have h2 := List.length_erase (a := N) (l := l)
    split at h2 <;> omega
theorem rows_bound {high most n : Nat} {R : List (Air × Pattern)} (h : RowsOk high most n R) (hm : most ≤ 2) : R.length ≤ 14348907 := by
  have h1 : (R.map fun x => code x.1).Nodup := by
    have e : (R.map fun x => code x.1) = (keys R).map code := by simp [keys]
    rw [e]
    rw [List.Nodup, List.pairwise_map]
    refine List.Pairwise.imp_of_mem ?_ h.nd
    intro a b ha hb hab e
    obtain ⟨x, hx, rfl⟩ := List.mem_map.mp ha
    obtain ⟨y, hy, rfl⟩ := List.mem_map.mp hb
    have g1 := (h.st x hx).1
    have g2 := (h.st y hy).1
    exact hab (code_inj (g1.1.trans g2.1.symm) (fun n hn => Nat.le_trans (g1.2 n hn) hm) (fun n hn => Nat.le_trans (g2.2 n hn) hm) e)
  have h2 := nodup_bound 14348907 _ h1 fun c hc => by
    obtain ⟨x, hx, rfl⟩ := List.mem_map.mp hc
    have g1 := (h.st x hx).1
    have := code_lt (s := x.1) fun n hn => Nat.le_trans (g1.2 n hn) hm
    rw [g1.1] at this
    exact this
  rw [List.length_map] at h2
  exact h2
/-- the row of a state -/
def look (R : List (Air × Pattern)) (s : Air) : Option Pattern := (R.find? fun x => decide (x.1 = s)).map (·.2)
theorem look_mem {R : List (Air × Pattern)} (hn : (keys R).Nodup) {x : Air × Pattern} (hx : x ∈ R) : look R x.1 = some x.2 := by
  unfold look
  induction R with
  | nil => cases hx
  | cons a r ih =>
    rw [List.find?_cons]
    have hn' : (a.1 :: keys r).Nodup := hn
    obtain ⟨n1, n2⟩ := List.nodup_cons.mp hn'
    rcases List.mem_cons.mp hx with rfl | hx
    · simp
    · have hne : ¬ a.1 = x.1 := fun e => n1 (by rw [e]; exact List.mem_map.mpr ⟨x, hx, rfl⟩)
      rw [decide_eq_false hne]
      exact ih n2 hx
theorem look_none {R : List (Air × Pattern)} {s : Air} (h : ¬ s ∈ keys R) : look R s = none := by
  unfold look
  rw [Option.map_eq_none_iff, List.find?_eq_none]
  intro x hx
  simp
  intro e
  exact h (List.mem_map.mpr ⟨x, hx, e⟩)
/-! a beat's step keeps the rows in order -/
theorem step_ok' {high most n : Nat} {R0 new : List (Air × Pattern)} {s : Air} {w : Pattern} {b : Beat} (h : RowsOk high most n (R0 ++ unrev new)) (hw : GoodRow high (n - 1) w.reverse) (hn : 1 ≤ n) (hb : b.length ≤ 2 ∧ ∀ x ∈ b, 1 ≤ x ∧ x ≤ high) :
    RowsOk high most n (R0 ++ unrev (stepN most R0 s w new b)) := by
  unfold stepN
  split
  · rename_i q
    obtain ⟨q1, q2⟩ := q
    rw [unrev_cons, ← List.append_assoc]
    refine ⟨?_, fun x hx => ?_⟩
    · show (keys (R0 ++ unrev new ++ [_])).Nodup
      unfold keys
      rw [List.map_append]
      exact nodup_snoc h.nd q2
    · rcases List.mem_append.mp hx with hx | hx
      · exact h.st x hx
      · have e : x = (nextState s b, (b :: w).reverse) := by simpa using hx
        subst e
        refine ⟨⟨nextState_len _ _, fun m hm => of_decide_eq_true (List.all_eq_true.mp q1 m hm)⟩, ?_, fun c hc => ?_⟩
        · have := hw.1
          simp at this ⊢
          omega
        · have hc : c ∈ b :: w := List.mem_reverse.mp hc
          rcases List.mem_cons.mp hc with rfl | hc
          · exact hb
          · exact hw.2 c (List.mem_reverse.mpr hc)
  · exact h

/-! the search -/
theorem wayFrom_none {high most : Nat} {goal : Air} : ∀ (f : Nat) (met : List Air), wayFrom high most goal f [] met = none
  | 0, _ => rfl
  | _ + 1, _ => rfl
theorem wayFrom_step {high most : Nat} {goal : Air} {f : Nat} {now : List (Air × Pattern)} {met : List Air} (h : now.find? (fun x => x.1 == goal) = none) :
    wayFrom high most goal (f + 1) now met = wayFrom high most goal f (layer high most now met []).1 (layer high most now met []).2 := by
  conv => lhs; unfold wayFrom
  rw [h]
  dsimp only
  split
  · rename_i q
    have e : now = [] := List.isEmpty_iff.mp q
    subst e
    exact (wayFrom_none f _).symm
  · rfl
theorem wayFrom_found {high most : Nat} {goal : Air} {f : Nat} {now : List (Air × Pattern)} {met : List Air} {x : Air × Pattern} (h : now.find? (fun x => x.1 == goal) = some x) : wayFrom high most goal (f + 1) now met = some x.2.reverse := by
  unfold wayFrom
  rw [h]
end Jm

set_option Elab.async false
set_option linter.all false
set_option maxRecDepth 100000
set_option maxHeartbeats 2000000
namespace L2
open PySem PySem.Spec PyProof.Rows
/-! heaps where only dicts by tuples have changed -/
def isDT : HO → Prop
  | .dT _ => True
  | _ => False
def Keep (H H' : Hp) : Prop := ∀ b o, H b = some o → ¬ isDT o → H' b = some o
theorem Keep.refl (H : Hp) : Keep H H := fun _ _ h _ => h
theorem Keep.trans {H H1 H2 : Hp} (a : Keep H H1) (b : Keep H1 H2) : Keep H H2 := fun c o h n => b c o (a c o h n) n
theorem Same.keep {H H' : Hp} (s : Same H H') : Keep H H' := fun b o h _ => s b o h
theorem Keep.new {H H1 : Hp} (s : Keep H H1) {p : Addr} {o : HO} (hp : H1 p = none) : Keep H (upd H1 p o) := fun b u e n => by
  have e1 := s b u e n
  rw [upd_ne (ne_of_none e1 hp)]
  exact e1
/-- a dict is written -/
theorem Keep.put {H H1 : Hp} (s : Keep H H1) {d : Addr} {kvs : List (List Key × V)} {o : HO} (hd : H1 d = some (.dT kvs)) : Keep H (upd H1 d o) := fun b u e n => by
  have e1 := s b u e n
  have hne : b ≠ d := fun z => by
    rw [z, hd] at e1
    cases e1
    exact n True.intro
  rw [upd_ne hne]
  exact e1
/-- what was made since is written -/
theorem Keep.own {H H1 : Hp} (s : Keep H H1) {p : Addr} {o : HO} (hp : ∀ u, H p = some u → isDT u) : Keep H (upd H1 p o) := fun b u e n => by
  have hne : b ≠ p := fun z => by
    rw [z] at e
    exact n (hp u e)
  rw [upd_ne hne]
  exact s b u e n
theorem Keep.lst {H H' : Hp} (s : Keep H H') {a : Addr} {xs : List V} (h : H a = some (.lst xs)) : H' a = some (.lst xs) := s a _ h fun z => z
theorem Keep.tup {H H' : Hp} (s : Keep H H') {a : Addr} {xs : List V} (h : H a = some (.tup xs)) : H' a = some (.tup xs) := s a _ h fun z => z

theorem BeatAt.keep {H H' : Hp} (s : Keep H H') {v : V} {b : List Nat} (h : BeatAt H v b) : BeatAt H' v b := by
  obtain ⟨x, e, h⟩ := h
  exact ⟨x, e, s.lst h⟩
theorem PatAt.keep {H H' : Hp} (s : Keep H H') {v : V} {p : List (List Nat)} (h : PatAt H v p) : PatAt H' v p := by
  obtain ⟨x, vs, e, h1, h2⟩ := h
  exact ⟨x, vs, e, s.lst h1, Paired.imp' (fun _ _ q => q.keep s) h2⟩

/-! states as keys -/
def keyS (st : List Nat) : List Key := st.map fun (n : Nat) => (Sum.inl (n : Int) : Key)
theorem keyS_kV (st : List Nat) : (keyS st).map kV = natsV st := by
  unfold keyS natsV
  rw [List.map_map]
  rfl
theorem keyS_inj : ∀ {s t : List Nat}, keyS s = keyS t → s = t
  | [], [], _ => rfl
  | [], _ :: _, h => by cases h
  | _ :: _, [], h => by cases h
  | a :: s, b :: t, h => by
    have h : (Sum.inl (a : Int) : Key) :: keyS s = Sum.inl (b : Int) :: keyS t := h
    injection h with h1 h2
    injection h1 with h1
    rw [keyS_inj h2]
    congr 1
    omega
def StAt (H : Hp) (a : Addr) (st : List Nat) : Prop := H a = some (.tup (natsV st))
theorem StAt.keep {H H' : Hp} (s : Keep H H') {a : Addr} {st : List Nat} (h : StAt H a st) : StAt H' a st := s.tup h
/-- the dict at d holds the rows R -/
def RowsAt (H : Hp) (d : Addr) (R : List (List Nat × List (List Nat))) : Prop :=
  ∃ kvs : List (List Key × V), H d = some (.dT kvs) ∧ Paired (fun kv r => kv.1 = keyS r.1 ∧ PatAt H kv.2 r.2) kvs R
theorem rows_val {H : Hp} : ∀ {kvs : List (List Key × V)} {R : List (List Nat × List (List Nat))}, Paired (fun kv r => kv.1 = keyS r.1 ∧ PatAt H kv.2 r.2) kvs R → ∀ st, (∀ p, Jm.look R st = some p → ∃ v, valV kvs (keyS st) = some v ∧ PatAt H v p) ∧ (Jm.look R st = none → valV kvs (keyS st) = none)
  | _, _, .nil, st => ⟨fun p h => (by cases h), fun _ => rfl⟩
  | _, _, .cons (a := kv) (b := r) h t, st => by
    obtain ⟨ih1, ih2⟩ := rows_val t st
    unfold Jm.look
    rw [List.find?_cons]
    by_cases e : r.1 = st
    · rw [decide_eq_true e]
      dsimp only
      refine ⟨fun p hp => ?_, fun hp => by cases hp⟩
      have ep : r.2 = p := Option.some.inj hp
      exact ⟨kv.2, valV_pos (by rw [h.1, e]), by rw [← ep]; exact h.2⟩
    · rw [decide_eq_false e]
      have hne : ¬ kv.1 = keyS st := fun z => e (keyS_inj (h.1.symm.trans z))
      rw [valV_neg hne]
      exact ⟨ih1, ih2⟩

/-- a new row -/
theorem rows_put {H : Hp} {d : Addr} {kvs : List (List Key × V)} {R : List (List Nat × List (List Nat))} {st : List Nat} {v : V} {p : List (List Nat)} (hd : H d = some (.dT kvs)) (hp : Paired (fun kv r => kv.1 = keyS r.1 ∧ PatAt H kv.2 r.2) kvs R)
    (hn : valV kvs (keyS st) = none) (hv : PatAt H v p) : RowsAt (upd H d (.dT (putK kvs (keyS st) v))) d (R ++ [(st, p)]) := by
  refine ⟨_, upd_same, ?_⟩
  rw [putK_new v hn]
  have k := (Keep.refl H).put (o := .dT (kvs ++ [(keyS st, v)])) hd
  exact Paired.snoc (Paired.imp' (fun _ _ q => ⟨q.1, q.2.keep k⟩) hp) ⟨rfl, hv.keep k⟩
/-! a heap without one thing -/
def mask (H : Hp) (D : Addr) : Hp := fun b => if b = D then none else H b
theorem mask_ne {H : Hp} {D b : Addr} (h : b ≠ D) : mask H D b = H b := by
  unfold mask
  rw [if_neg h]
theorem mask_le (H : Hp) (D : Addr) : Same (mask H D) H := fun b o e => by
  unfold mask at e
  split at e
  · cases e
  · exact e
theorem mask_upd {H : Hp} {D : Addr} {o : HO} : mask (upd H D o) D = mask H D := by
  funext b
  unfold mask upd
  split <;> rfl
theorem mask_same {H H' : Hp} {D : Addr} (s : Same H H') : Same (mask H D) (mask H' D) := fun b o e => by
  unfold mask at *
  split at e
  · cases e
  · rename_i h
    rw [if_neg h]
    exact s b o e
theorem mask_put {H : Hp} {D d : Addr} {o : HO} (h : d ≠ D) : mask (upd H d o) D = upd (mask H D) d o := by
  funext b
  unfold mask upd
  dsimp only
  by_cases h1 : b = D
  · rw [if_pos h1, if_neg (fun e => h (e.symm.trans h1)), if_pos h1]
  · rw [if_neg h1]
    by_cases h2 : b = d
    · rw [if_pos h2, if_pos h2]
    · rw [if_neg h2, if_neg h2, if_neg h1]
/-- a beat made since H -/
def NewB (H H' : Hp) (D : Addr) (v : V) (b : List Nat) : Prop := ∃ y, v = .ref y ∧ H y = none ∧ y ≠ D ∧ H' y = some (.lst (natsV b))
theorem at_last {xs : List V} {v : V} (h : xs.getLast? = some v) : atI xs (-1) = some v := by
  cases xs with
  | nil => cases h
  | cons a r =>
    have e : (a :: r) = (a :: r).dropLast ++ [v] := by
      have h2 : (a :: r).getLast (by simp) = v := by
        rw [List.getLast?_eq_some_getLast (by simp)] at h
        exact Option.some.inj h
      rw [← h2]
      exact (List.dropLast_concat_getLast (by simp)).symm
    rw [e]
    exact atI_last _ v
theorem natsV_last {b : List Nat} {n : Nat} (h : b.getLast? = some n) : (natsV b).getLast? = some (V.int (n : Int)) := by
  unfold natsV
  rw [List.getLast?_map, h]
  rfl
/-- a name set, whatever way its value comes -/
theorem asg_of {te : TE} {g : TG} {D : Ends} {σ : St} {H : Hp} (x : V) (h1 : ∀ Q : VK, Q x H → te σ H Q) (h2 : g x σ H D.nx) : tAsg te g D σ H := h1 _ h2
theorem cut_dropA (xs : List V) (k : Nat) : cutV xs (some (k : Int)) none = xs.drop k := by
  by_cases h : k ≤ xs.length
  · exact cut_drop h
  · unfold cutV
    rw [HT.sIx_none, HT.sIx_nat, Nat.min_eq_right (by omega), List.drop_length, List.drop_of_length_le (by omega)]
    simp
/-! lists of ints as data -/
def intsD (l : List Int) : PyData := .list (l.map PyData.int)
theorem intsD_lay : ∀ l : List Int, PyData.canLayAll0 (l.map PyData.int) = true
  | [] => rfl
  | a :: r => by
    show (true && PyData.canLayAll0 (r.map PyData.int)) = true
    rw [intsD_lay r]
    rfl
theorem intsD_depth : ∀ l : List Int, PyData.depthAll (l.map PyData.int) ≤ 1
  | [] => Nat.zero_le _
  | a :: r => by
    have := intsD_depth r
    show max 0 (PyData.depthAll (r.map PyData.int)) ≤ 1
    exact Nat.max_le.mpr ⟨Nat.zero_le _, this⟩
theorem intsD_shaped (l : List Int) : SeqAt.shaped (intsD l) = true := by
  unfold SeqAt.shaped
  rw [Bool.and_eq_true]
  refine ⟨intsD_lay l, decide_eq_true ?_⟩
  have := intsD_depth l
  show PyData.depthAll (l.map PyData.int) + 1 ≤ 64
  omega
theorem intsD_all : ∀ a b : List Int, PyData.eqvAll (a.map PyData.int) (b.map PyData.int) = decide (a = b)
  | [], [] => rfl
  | [], _ :: _ => rfl
  | _ :: _, [] => rfl
  | x :: a, y :: b => by
    show ((x == y) && PyData.eqvAll (a.map PyData.int) (b.map PyData.int)) = _
    rw [intsD_all a b, Bool.eq_iff_iff]
    simp
theorem intsD_eqv (a b : List Int) : PyData.eqv (intsD a) (intsD b) = decide (a = b) := intsD_all a b
theorem intsD_items {K : PySem.W.Frag} {H : Hp} : ∀ l : List Int, DpAll K H (l.map V.int) (l.map PyData.int)
  | [] => .nil
  | n :: r => .cons (.int _) (intsD_items r)
theorem IntsAt.dp {K : PySem.W.Frag} {H : Hp} {v : V} {l : List Int} (h : IntsAt H v l) : Dp K H v (intsD l) := by
  obtain ⟨x, rfl, h⟩ := h
  exact .lst (SqL.of h) (intsD_items l)
end L2

/-! What a way may be asked of. -/
namespace Jm
open Jug
def fitsW (h most : Nat) (s : List Int) : Bool := isState s && (decide (s.sum ≤ 5) && (s.all (fun z => decide (z ≤ (most : Int))) && decide ((s.drop h).sum = 0)))
theorem sum_toNats : ∀ {s : List Int}, (∀ z ∈ s, 0 ≤ z) → ((toNats s).sum : Int) = s.sum
  | [], _ => rfl
  | z :: r, h => by
    have h1 := h z List.mem_cons_self
    have h2 := sum_toNats (s := r) fun y hy => h y (List.mem_cons_of_mem _ hy)
    show (((z.toNat + (toNats r).sum : Nat)) : Int) = z + r.sum
    omega
theorem sum_rep (n : Nat) : (List.replicate n 0).sum = 0 := by
  induction n with
  | zero => rfl
  | succ n ih => rw [List.replicate_succ, List.sum_cons, ih]
theorem sum_whole (l : List Nat) : total (whole l) = l.sum := by
  rw [total_sum]
  unfold whole
  rw [List.sum_append, sum_rep, Nat.add_zero]
theorem all_zero : ∀ l : List Nat, (l.all fun n => n == 0) = decide (l.sum = 0)
  | [] => rfl
  | n :: r => by
    rw [List.all_cons, all_zero r, List.sum_cons, Bool.eq_iff_iff]
    simp
theorem within_eq {h most : Nat} {s : List Int} (h0 : ∀ z ∈ s, 0 ≤ z) : within h most (whole (toNats s)) = (decide (s.sum ≤ 5) && (s.all (fun z => decide (z ≤ (most : Int))) && decide ((s.drop h).sum = 0))) := by
  have e1 : decide (airBalls (whole (toNats s)) ≤ 5) = decide (s.sum ≤ 5) := by
    unfold airBalls
    rw [sum_whole]
    have := sum_toNats h0
    rw [Bool.eq_iff_iff]
    simp
    omega
  have e2 : ((whole (toNats s)).all fun n => decide (n ≤ most)) = s.all fun z => decide (z ≤ (most : Int)) := by
    unfold whole
    rw [List.all_append]
    have r1 : ((List.replicate (15 - (toNats s).length) 0).all fun n => decide (n ≤ most)) = true := by
      rw [List.all_eq_true]
      intro x hx
      rw [(List.mem_replicate.mp hx).2]
      simp
    rw [r1, Bool.and_true]
    unfold toNats
    rw [List.all_map, Bool.eq_iff_iff, List.all_eq_true, List.all_eq_true]
    constructor
    · intro q x hx
      have := q x hx
      have h2 := h0 x hx
      simp at this
      simp
      omega
    · intro q x hx
      have := q x hx
      have h2 := h0 x hx
      simp at this
      simp
      omega
  have e3 : (((whole (toNats s)).drop h).all fun n => n == 0) = decide ((s.drop h).sum = 0) := by
    rw [all_zero]
    have a1 : ((whole (toNats s)).drop h).sum = ((toNats s).drop h).sum := by
      unfold whole
      rw [List.drop_append, List.sum_append, List.drop_replicate, sum_rep, Nat.add_zero]
    have a2 : (toNats s).drop h = toNats (s.drop h) := by
      unfold toNats
      rw [List.map_drop]
    have a3 := sum_toNats (s := s.drop h) fun z hz => h0 z (List.mem_of_mem_drop hz)
    rw [a1, a2, Bool.eq_iff_iff]
    simp
    omega
  unfold within
  rw [e1, e2, e3]
def asked (high most : Int) (s u : List Int) : Bool := (decide (1 ≤ high ∧ high ≤ 8) && decide (1 ≤ most ∧ most ≤ 2)) && (fitsW high.toNat most.toNat s && (fitsW high.toNat most.toNat u && decide (s.sum = u.sum)))
theorem spans_eq {high most : Int} (h0 : 0 ≤ high) (m0 : 0 ≤ most) : waySpans high.toNat most.toNat = (decide (1 ≤ high ∧ high ≤ 8) && decide (1 ≤ most ∧ most ≤ 2)) := by
  unfold waySpans
  rw [Bool.eq_iff_iff]
  simp
  omega
theorem balls_eq {s u : List Int} (hs : ∀ z ∈ s, 0 ≤ z) (hu : ∀ z ∈ u, 0 ≤ z) : (airBalls (whole (toNats s)) ≠ airBalls (whole (toNats u))) ↔ ¬ s.sum = u.sum := by
  unfold airBalls
  rw [sum_whole, sum_whole]
  have := sum_toNats hs
  have := sum_toNats hu
  constructor
  · intro h e
    exact h (by omega)
  · intro h e
    exact h (by omega)
theorem way_refused {high most : Int} {s u : List Int} (h0 : 0 ≤ high) (m0 : 0 ≤ most) (hs : ∀ z ∈ s, 0 ≤ z) (hu : ∀ z ∈ u, 0 ≤ z) (h : asked high most s u = false) : PyWrjugg.way high most s u = [-1] := by
  have ef : PyWrjugg.way high most s u = (match airIn (toNats s), airIn (toNats u) with
    | some s', some u' => if waySpans high.toNat most.toNat = false ∨ within high.toNat most.toNat s' = false ∨ within high.toNat most.toNat u' = false ∨ airBalls s' ≠ airBalls u' then says (-1) else wayOut (Jug.way high.toNat most.toNat s' u')
    | _, _ => says (-1)) := rfl
  rw [ef, airIn_eq hs, airIn_eq hu]
  cases es : isState s with
  | false => rfl
  | true =>
    cases eu : isState u with
    | false => rfl
    | true =>
      rw [if_pos rfl, if_pos rfl]
      dsimp only
      rw [if_pos]
      · rfl
      · rw [spans_eq h0 m0, within_eq hs, within_eq hu, balls_eq hs hu]
        unfold asked fitsW at h
        rw [es, eu, Bool.true_and, Bool.true_and] at h
        by_cases a1 : (decide (1 ≤ high ∧ high ≤ 8) && decide (1 ≤ most ∧ most ≤ 2)) = false
        · exact .inl a1
        · have a1 : (decide (1 ≤ high ∧ high ≤ 8) && decide (1 ≤ most ∧ most ≤ 2)) = true := (Bool.not_eq_false _).mp a1
          rw [a1, Bool.true_and] at h
          refine .inr ?_
          generalize (decide (s.sum ≤ 5) && (s.all (fun z => decide (z ≤ (most.toNat : Int))) && decide ((s.drop high.toNat).sum = 0))) = b1 at h ⊢
          generalize (decide (u.sum ≤ 5) && (u.all (fun z => decide (z ≤ (most.toNat : Int))) && decide ((u.drop high.toNat).sum = 0))) = b2 at h ⊢
          cases b1 with
          | false => exact .inl rfl
          | true =>
            refine .inr ?_
            cases b2 with
            | false => exact .inl rfl
            | true =>
              refine .inr ?_
              simpa using h
theorem way_asked {high most : Int} {s u : List Int} (h0 : 0 ≤ high) (m0 : 0 ≤ most) (hs : ∀ z ∈ s, 0 ≤ z) (hu : ∀ z ∈ u, 0 ≤ z) (h : asked high most s u = true) :
    PyWrjugg.way high most s u = wayOut (Jug.way high.toNat most.toNat (whole (toNats s)) (whole (toNats u))) ∧ high.toNat ≤ 8 ∧ most.toNat ≤ 2 ∧ (toNats s).length ≤ 15 ∧ (toNats u).length ≤ 15 ∧ GoodSt most.toNat (whole (toNats s)) := by
  have ef : PyWrjugg.way high most s u = (match airIn (toNats s), airIn (toNats u) with
    | some s', some u' => if waySpans high.toNat most.toNat = false ∨ within high.toNat most.toNat s' = false ∨ within high.toNat most.toNat u' = false ∨ airBalls s' ≠ airBalls u' then says (-1) else wayOut (Jug.way high.toNat most.toNat s' u')
    | _, _ => says (-1)) := rfl
  have hq := h
  unfold asked fitsW at hq
  obtain ⟨qa, qr⟩ := Bool.and_eq_true_iff.mp hq
  obtain ⟨a1, a2⟩ := Bool.and_eq_true_iff.mp qa
  obtain ⟨qb, qr⟩ := Bool.and_eq_true_iff.mp qr
  obtain ⟨b1, b2⟩ := Bool.and_eq_true_iff.mp qb
  obtain ⟨qc, d1⟩ := Bool.and_eq_true_iff.mp qr
  obtain ⟨c1, c2⟩ := Bool.and_eq_true_iff.mp qc
  have l1 : s.length ≤ 15 := by unfold isState at b1; exact of_decide_eq_true (Bool.and_eq_true_iff.mp b1).1
  have l2 : u.length ≤ 15 := by unfold isState at c1; exact of_decide_eq_true (Bool.and_eq_true_iff.mp c1).1
  have n1 : (toNats s).length ≤ 15 := by unfold toNats; rw [List.length_map]; exact l1
  have n2 : (toNats u).length ≤ 15 := by unfold toNats; rw [List.length_map]; exact l2
  have a1 := of_decide_eq_true a1
  have a2 := of_decide_eq_true a2
  refine ⟨?_, by omega, by omega, n1, n2, whole_len n1, ?_⟩
  · rw [ef, airIn_eq hs, airIn_eq hu, b1, c1, if_pos rfl, if_pos rfl]
    dsimp only
    rw [if_neg]
    rw [spans_eq h0 m0, within_eq hs, within_eq hu, balls_eq hs hu, b2, c2, decide_eq_true a1, decide_eq_true a2]
    have := of_decide_eq_true d1
    simp [this]
  · have hw := within_eq (h := high.toNat) (most := most.toNat) hs
    rw [b2] at hw
    unfold within at hw
    rw [Bool.and_eq_true, Bool.and_eq_true] at hw
    intro n hn
    exact of_decide_eq_true (List.all_eq_true.mp hw.2.1 n hn)
end Jm

/-! As many balls are in the air as the heights say. -/
namespace Jm
open Jug
def sm {α : Type} (l : List α) (f : α → Nat) : Nat := (l.map f).sum
theorem sm_nil {α : Type} (f : α → Nat) : sm [] f = 0 := rfl
theorem sm_cons {α : Type} (a : α) (l : List α) (f : α → Nat) : sm (a :: l) f = f a + sm l f := by
  unfold sm
  rw [List.map_cons, List.sum_cons]
theorem sm_append {α : Type} (l m : List α) (f : α → Nat) : sm (l ++ m) f = sm l f + sm m f := by
  unfold sm
  rw [List.map_append, List.sum_append]
theorem sm_congr {α : Type} {l : List α} {f g : α → Nat} (h : ∀ a ∈ l, f a = g a) : sm l f = sm l g := by
  unfold sm
  rw [List.map_congr_left h]
theorem sm_zero {α : Type} : ∀ l : List α, sm l (fun _ => 0) = 0
  | [] => rfl
  | a :: r => by rw [sm_cons, sm_zero r]
theorem sm_one {α : Type} : ∀ l : List α, sm l (fun _ => 1) = l.length
  | [] => rfl
  | a :: r => by rw [sm_cons, sm_one r, List.length_cons]; omega
theorem sm_add {α : Type} (f g : α → Nat) : ∀ l : List α, sm l (fun a => f a + g a) = sm l f + sm l g
  | [] => rfl
  | a :: r => by
    rw [sm_cons, sm_cons, sm_cons, sm_add f g r]
    omega
theorem sm_mul {α : Type} (c : Nat) (f : α → Nat) : ∀ l : List α, sm l (fun a => c * f a) = c * sm l f
  | [] => rfl
  | a :: r => by
    rw [sm_cons, sm_cons, sm_mul c f r, Nat.mul_add]
theorem sm_swap {α β : Type} (f : α → β → Nat) (m : List β) : ∀ l : List α, sm l (fun a => sm m (f a)) = sm m fun b => sm l fun a => f a b
  | [] => by
    show 0 = sm m fun _ => 0
    rw [sm_zero]
  | a :: r => by
    rw [sm_cons, sm_swap f m r, ← sm_add]
    exact sm_congr fun b _ => (sm_cons a r fun a => f a b).symm
theorem sm_flat {α β : Type} (F : α → List β) (f : β → Nat) : ∀ l : List α, sm (l.flatMap F) f = sm l fun a => sm (F a) f
  | [] => rfl
  | a :: r => by rw [List.flatMap_cons, sm_append, sm_cons, sm_flat F f r]
theorem sm_map {α β : Type} (g : α → β) (f : β → Nat) (l : List α) : sm (l.map g) f = sm l fun a => f (g a) := by
  unfold sm
  rw [List.map_map]
  rfl
theorem sm_filter {α : Type} (p : α → Bool) (f : α → Nat) : ∀ l : List α, sm (l.filter p) f = sm l fun a => if p a = true then f a else 0
  | [] => rfl
  | a :: r => by
    rw [List.filter_cons, sm_cons, ← sm_filter p f r]
    by_cases h : p a = true
    · rw [if_pos h, if_pos h, sm_cons]
    · rw [if_neg h, if_neg h, Nat.zero_add]
theorem sm_range_succ (n : Nat) (f : Nat → Nat) : sm (List.range (n + 1)) f = sm (List.range n) f + f n := by
  rw [List.range_succ, sm_append, sm_cons, sm_nil, Nat.add_zero]
/-- one of a range -/
theorem sm_pick (c : Nat → Nat) : ∀ (n x : Nat), x < n → sm (List.range n) (fun k => if x = k then c k else 0) = c x
  | 0, x, h => absurd h (by omega)
  | n + 1, x, h => by
    rw [sm_range_succ]
    by_cases e : x = n
    · subst e
      rw [if_pos rfl]
      have : sm (List.range x) (fun k => if x = k then c k else 0) = 0 := by
        refine (sm_congr (g := fun _ => 0) fun k hk => ?_).trans (sm_zero _)
        have := List.mem_range.mp hk
        rw [if_neg (by omega)]
      omega
    · rw [if_neg e, sm_pick c n x (by omega)]
      omega
theorem count_sm (k : Nat) : ∀ ks : List Nat, ks.count k = sm ks fun x => if x = k then 1 else 0
  | [] => rfl
  | a :: r => by
    rw [List.count_cons, sm_cons, count_sm k r]
    by_cases h : a = k
    · rw [if_pos h, if_pos (by simpa using h)]
      omega
    · rw [if_neg h, if_neg (by simpa using h)]
      omega
theorem cnt_total {N : Nat} {ks : List Nat} (h : ∀ k ∈ ks, k < N) : (cnt N ks).sum = ks.length := by
  show sm (List.range N) (fun k => ks.count k) = _
  rw [sm_congr fun k _ => count_sm k ks, sm_swap, ← sm_one ks]
  exact sm_congr fun x hx => sm_pick (fun _ => 1) N x (h x hx)
/-- how often a walk from j comes by the period's begin in h beats -/
theorem comes (n j : Nat) (hn : 0 < n) (hj : j < n) : ∀ h, sm (List.range h) (fun a => if (j + (a + 1)) % n = 0 then 1 else 0) = (j + h) / n
  | 0 => by
    rw [Nat.add_zero, Nat.div_eq_of_lt hj]
    rfl
  | h + 1 => by
    rw [sm_range_succ, comes n j hn hj h]
    have e : j + (h + 1) = (j + h) + 1 := by omega
    rw [e, Nat.succ_div]
    by_cases hd : n ∣ j + h + 1
    · rw [if_pos hd, if_pos (Nat.mod_eq_zero_of_dvd hd)]
    · rw [if_neg hd, if_neg (fun z => hd (Nat.dvd_of_mod_eq_zero z))]
theorem back_iff {p : Pattern} (hn : 0 < p.length) {d j : Nat} (hd : d < 15) (hj : j < p.length) : backIx p 0 d = j ↔ (j + (d + 1)) % p.length = 0 := by
  unfold backIx
  show (0 + 16 * p.length - (d + 1)) % p.length = j ↔ _
  have h16 : d + 1 ≤ 16 * p.length := by omega
  constructor
  · intro h
    have h1 := Nat.div_add_mod (0 + 16 * p.length - (d + 1)) p.length
    rw [h] at h1
    have h2 : j + (d + 1) = p.length * (16 - (0 + 16 * p.length - (d + 1)) / p.length) := by
      have hle : (0 + 16 * p.length - (d + 1)) / p.length ≤ 16 := by
        rw [Nat.div_le_iff_le_mul_add_pred hn]
        omega
      rw [Nat.mul_sub]
      omega
    rw [h2, Nat.mul_mod_right]
  · intro h
    obtain ⟨c, hc⟩ := Nat.dvd_of_mod_eq_zero h
    have hc16 : c ≤ 16 := by
      rcases Nat.lt_or_ge 16 c with q | q
      · have : p.length * 17 ≤ p.length * c := Nat.mul_le_mul_left _ q
        omega
      · exact q
    have e : 0 + 16 * p.length - (d + 1) = j + p.length * (16 - c) := by
      rw [Nat.mul_sub]
      have : p.length * c ≤ p.length * 16 := Nat.mul_le_mul_left _ hc16
      omega
    rw [e, Nat.add_mul_mod_self_left, Nat.mod_eq_of_lt hj]
theorem range_cut (f : Nat → Nat) : ∀ (n h : Nat), h ≤ n → sm (List.range n) (fun d => if d + 1 ≤ h then f d else 0) = sm (List.range h) f
  | 0, h, hh => by
    have : h = 0 := by omega
    subst this
    rfl
  | n + 1, h, hh => by
    rw [sm_range_succ]
    by_cases e : h = n + 1
    · subst e
      rw [if_pos (by omega), sm_range_succ]
      congr 1
      exact sm_congr fun d hd => by
        have := List.mem_range.mp hd
        rw [if_pos (by omega)]
    · rw [if_neg (by omega), range_cut f n h (by omega)]
      omega
/-- what is in the air, throw by throw -/
theorem air_sum {p : Pattern} (hn : 0 < p.length) (hp : ∀ b ∈ p, ∀ h ∈ b, 1 ≤ h ∧ h ≤ 15) :
    (airAt p 0).sum = sm (List.range p.length) fun j => sm (p.getD j []) fun h => (j + h) / p.length := by
  have hgd : ∀ j, ∀ h ∈ p.getD j [], 1 ≤ h ∧ h ≤ 15 := fun j h hh => by
    by_cases hj : j < p.length
    · have e : p.getD j [] = p[j] := by simp [List.getD, hj]
      rw [e] at hh
      exact hp _ (List.getElem_mem hj) h hh
    · have e : p.getD j [] = [] := by simp [List.getD, hj]
      rw [e] at hh
      cases hh
  have hk : ∀ k ∈ airKs p 0 15, k < 15 := fun k hk => by
    unfold airKs at hk
    obtain ⟨d, hd, hk⟩ := List.mem_flatMap.mp hk
    obtain ⟨h, hh, rfl⟩ := List.mem_map.mp hk
    have := hgd _ h (List.mem_filter.mp hh).1
    omega
  rw [airAt_cnt, cnt_total hk, ← sm_one]
  unfold airKs
  rw [sm_flat]
  have step : ∀ d ∈ List.range 15, sm (((p.getD (backIx p 0 d) []).filter fun h => decide (d + 1 ≤ h)).map fun h => h - (d + 1)) (fun _ => 1) =
      sm (List.range p.length) fun j => sm (p.getD j []) fun h => if d + 1 ≤ h then (if (j + (d + 1)) % p.length = 0 then 1 else 0) else 0 := fun d hd => by
    have hd := List.mem_range.mp hd
    rw [sm_map, sm_filter]
    have h1 := sm_pick (fun j => sm (p.getD j []) fun h => if decide (d + 1 ≤ h) = true then 1 else 0) p.length (backIx p 0 d) (backIx_lt hn 0 d)
    rw [← h1]
    refine sm_congr fun j hj => ?_
    have hj := List.mem_range.mp hj
    have hb := back_iff (p := p) hn hd hj
    by_cases e : backIx p 0 d = j
    · rw [if_pos e]
      refine sm_congr fun h _ => ?_
      rw [if_pos (hb.mp e)]
      by_cases q : d + 1 ≤ h
      · rw [if_pos (decide_eq_true q), if_pos q]
      · rw [if_neg (by simpa using q), if_neg q]
    · rw [if_neg e]
      refine (sm_zero (p.getD j [])).symm.trans (sm_congr fun h _ => ?_)
      rw [if_neg (fun z => e (hb.mpr z))]
      split <;> rfl
  rw [sm_congr step, sm_swap]
  refine sm_congr fun j hj => ?_
  have hj := List.mem_range.mp hj
  rw [sm_swap]
  refine sm_congr fun h hh => ?_
  rw [range_cut (fun d => if (j + (d + 1)) % p.length = 0 then 1 else 0) 15 h (hgd j h hh).2, comes p.length j hn hj h]
/-- what lands, throw by throw -/
theorem land_sum {p : Pattern} (hn : 0 < p.length) (hc : clash p = none) : (sm (List.range p.length) fun j => sm (p.getD j []) fun h => (j + h) % p.length) = sm (List.range p.length) fun j => sm (p.getD j []) fun _ => j := by
  have h1 : (sm (List.range p.length) fun j => sm (p.getD j []) fun h => (j + h) % p.length) = sm (landKs p p.length) fun x => x := by
    unfold landKs
    rw [sm_flat]
    exact sm_congr fun j _ => (sm_map (fun h => (j + h) % p.length) (fun x => x) (p.getD j [])).symm
  have hlt : ∀ x ∈ landKs p p.length, x < p.length := fun x hx => by
    unfold landKs at hx
    obtain ⟨j, _, hx⟩ := List.mem_flatMap.mp hx
    obtain ⟨h, _, rfl⟩ := List.mem_map.mp hx
    exact Nat.mod_lt _ hn
  have h2 : sm (landKs p p.length) (fun x => x) = sm (List.range p.length) fun k => k * (landKs p p.length).count k := by
    have e : ∀ x ∈ landKs p p.length, x = sm (List.range p.length) fun k => if x = k then k else 0 := fun x hx => (sm_pick (fun k => k) p.length x (hlt x hx)).symm
    rw [sm_congr e, sm_swap]
    refine sm_congr fun k _ => ?_
    rw [count_sm, ← sm_mul]
    refine sm_congr fun x _ => ?_
    split <;> simp
  rw [h1, h2]
  refine sm_congr fun k hk => ?_
  have hk := List.mem_range.mp hk
  unfold clash at hc
  rw [List.find?_range_eq_none] at hc
  have := hc k hk
  have this : landing p k = (p.getD k []).length := by simpa using this
  rw [← landing_count, this, ← sm_one, ← sm_mul, Nat.mul_one]
theorem heights_sm (p : Pattern) : heights p = sm (List.range p.length) fun j => sm (p.getD j []) fun h => h := by
  rw [heights_flat]
  have e : (List.range p.length).map (fun j => p.getD j []) = p := by
    apply List.ext_getElem?
    intro i
    by_cases h : i < p.length
    · rw [List.getElem?_map, List.getElem?_range h]
      simp [List.getD, h]
    · rw [List.getElem?_eq_none (by simp; omega), List.getElem?_eq_none (by omega)]
  have f : ∀ q : Pattern, q.flatten.sum = sm q fun b => b.sum := fun q => by
    induction q with
    | nil => rfl
    | cons b r ih => rw [List.flatten_cons, List.sum_append, sm_cons, ih]
  rw [f]
  conv => lhs; rw [← e]
  rw [sm_map]
  refine sm_congr fun j _ => ?_
  unfold sm
  rw [List.map_id']
theorem balls_air {p : Pattern} (hn : 0 < p.length) (hp : ∀ b ∈ p, ∀ h ∈ b, 1 ≤ h ∧ h ≤ 15) (hc : clash p = none) : (airAt p 0).sum = balls p := by
  have h1 : (sm (List.range p.length) fun j => sm (p.getD j []) fun h => j + h) = p.length * (airAt p 0).sum + sm (List.range p.length) fun j => sm (p.getD j []) fun _ => j := by
    rw [air_sum hn hp, ← land_sum hn hc, ← sm_mul, ← sm_add]
    refine sm_congr fun j _ => ?_
    rw [← sm_mul, ← sm_add]
    refine sm_congr fun h _ => ?_
    exact (Nat.div_add_mod (j + h) p.length).symm
  have h2 : (sm (List.range p.length) fun j => sm (p.getD j []) fun h => j + h) = (sm (List.range p.length) fun j => sm (p.getD j []) fun _ => j) + heights p := by
    rw [heights_sm, ← sm_add]
    exact sm_congr fun j _ => sm_add (fun _ => j) (fun h => h) (p.getD j [])
  unfold balls
  have h3 : heights p = p.length * (airAt p 0).sum := by omega
  rw [h3, Nat.mul_div_cancel_left _ hn]
/-! joins -/
theorem air_len (p : Pattern) (t : Nat) : (airAt p t).length = 15 := by
  rw [airAt_cnt, cnt_length]
theorem toNats_nats (l : List Nat) : toNats (nats l) = l := by
  unfold toNats nats
  rw [List.map_map]
  have : (Int.toNat ∘ fun (n : Nat) => (n : Int)) = id := by
    funext n
    simp
  rw [this, List.map_id]
theorem nats_nonneg (l : List Nat) : ∀ z ∈ nats l, 0 ≤ z := fun z hz => by
  obtain ⟨n, _, rfl⟩ := List.mem_map.mp hz
  omega
theorem whole_full {l : List Nat} (h : l.length = 15) : whole l = l := by
  unfold whole
  rw [h]
  simp
theorem state_of_fits {h most : Nat} {s : List Int} (hl : s.length ≤ 15) (hm : most ≤ 2) (hw : (decide (s.sum ≤ 5) && (s.all (fun z => decide (z ≤ (most : Int))) && decide ((s.drop h).sum = 0))) = true) : isState s = true := by
  rw [Bool.and_eq_true, Bool.and_eq_true] at hw
  unfold isState
  rw [Bool.and_eq_true]
  refine ⟨decide_eq_true hl, List.all_eq_true.mpr fun z hz => decide_eq_true ?_⟩
  have := of_decide_eq_true (List.all_eq_true.mp hw.2.1 z hz)
  omega
theorem asked_iff {high most : Int} {s u : List Int} (h0 : 0 ≤ high) (m0 : 0 ≤ most) (hs : ∀ z ∈ s, 0 ≤ z) (hu : ∀ z ∈ u, 0 ≤ z) (ls : s.length ≤ 15) (lu : u.length ≤ 15) :
    asked high most s u = true ↔ ¬ (waySpans high.toNat most.toNat = false ∨ within high.toNat most.toNat (whole (toNats s)) = false ∨ within high.toNat most.toNat (whole (toNats u)) = false ∨ ¬ s.sum = u.sum) := by
  rw [spans_eq h0 m0, within_eq hs, within_eq hu]
  unfold asked fitsW
  by_cases a1 : (decide (1 ≤ high ∧ high ≤ 8) && decide (1 ≤ most ∧ most ≤ 2)) = true
  · have am : most.toNat ≤ 2 := by
      have := of_decide_eq_true (Bool.and_eq_true_iff.mp a1).2
      omega
    have f1 := state_of_fits (h := high.toNat) ls am
    have f2 := state_of_fits (h := high.toNat) lu am
    rw [a1]
    generalize (decide (s.sum ≤ 5) && (s.all (fun z => decide (z ≤ (most.toNat : Int))) && decide ((s.drop high.toNat).sum = 0))) = b1 at f1 ⊢
    generalize (decide (u.sum ≤ 5) && (u.all (fun z => decide (z ≤ (most.toNat : Int))) && decide ((u.drop high.toNat).sum = 0))) = b2 at f2 ⊢
    cases b1 with
    | false => simp
    | true =>
      rw [f1 rfl]
      cases b2 with
      | false => simp
      | true =>
        rw [f2 rfl]
        simp
  · have a1 : (decide (1 ≤ high ∧ high ≤ 8) && decide (1 ≤ most ∧ most ≤ 2)) = false := (Bool.not_eq_true _).mp a1
    rw [a1]
    simp
theorem asked_comm (high most : Int) (s u : List Int) : asked high most s u = asked high most u s := by
  unfold asked
  congr 1
  rw [Bool.eq_iff_iff]
  simp only [Bool.and_eq_true, decide_eq_true_eq]
  constructor
  · rintro ⟨a, b, c⟩
    exact ⟨b, a, c.symm⟩
  · rintro ⟨a, b, c⟩
    exact ⟨b, a, c.symm⟩
theorem join_body {high most : Int} {p q : Pattern} (h0 : 0 ≤ high) (m0 : 0 ≤ most) (hp : 0 < p.length ∧ (∀ b ∈ p, ∀ h ∈ b, 1 ≤ h ∧ h ≤ 15) ∧ clash p = none) (hq : 0 < q.length ∧ (∀ b ∈ q, ∀ h ∈ b, 1 ≤ h ∧ h ≤ 15) ∧ clash q = none) :
    (if waySpans high.toNat most.toNat = false ∨ within high.toNat most.toNat (airAt p 0) = false ∨ within high.toNat most.toNat (airAt q 0) = false ∨ balls p ≠ balls q then says (-1)
      else wayOut (Jug.way high.toNat most.toNat (airAt p 0) (airAt q 0)) ++ wayOut (Jug.way high.toNat most.toNat (airAt q 0) (airAt p 0))) =
    if asked high most (nats (airAt p 0)) (nats (airAt q 0)) = true then PyWrjugg.way high most (nats (airAt p 0)) (nats (airAt q 0)) ++ PyWrjugg.way high most (nats (airAt q 0)) (nats (airAt p 0)) else [-1] := by
  have n1 := nats_nonneg (airAt p 0)
  have n2 := nats_nonneg (airAt q 0)
  have w1 : whole (toNats (nats (airAt p 0))) = airAt p 0 := by rw [toNats_nats, whole_full (air_len p 0)]
  have w2 : whole (toNats (nats (airAt q 0))) = airAt q 0 := by rw [toNats_nats, whole_full (air_len q 0)]
  have l1 : (nats (airAt p 0)).length ≤ 15 := by unfold nats; rw [List.length_map, air_len]; exact Nat.le_refl _
  have l2 : (nats (airAt q 0)).length ≤ 15 := by unfold nats; rw [List.length_map, air_len]; exact Nat.le_refl _
  have s1 := sum_toNats n1
  have s2 := sum_toNats n2
  rw [toNats_nats] at s1 s2
  have hb : (balls p ≠ balls q) ↔ ¬ (nats (airAt p 0)).sum = (nats (airAt q 0)).sum := by
    rw [← balls_air hp.1 hp.2.1 hp.2.2, ← balls_air hq.1 hq.2.1 hq.2.2, ← s1, ← s2]
    omega
  have hi := asked_iff h0 m0 n1 n2 l1 l2
  rw [w1, w2] at hi
  by_cases ha : asked high most (nats (airAt p 0)) (nats (airAt q 0)) = true
  · have hno := hi.mp ha
    rw [← hb] at hno
    rw [if_neg hno, if_pos ha, (way_asked h0 m0 n1 n2 ha).1, (way_asked h0 m0 n2 n1 (by rw [asked_comm]; exact ha)).1, w1, w2]
  · rw [if_neg ha, if_pos]
    · rfl
    · rw [hb]
      exact Classical.byContradiction fun z => ha (hi.mpr z)
/-- a way's answer is never that of a refusal -/
theorem wayOut_ne (w : Option Pattern) : wayOut w ≠ [-1] := by
  cases w with
  | none => intro h; exact absurd h (by decide)
  | some p =>
    intro h
    have h : ((((textOf p).length : Nat) : Int) :: ((textOf p).map UInt8.toNat).map fun (n : Nat) => (n : Int)) = [-1] := h
    injection h with h1 _
    omega
theorem wayOut_len {high : Nat} {p : Pattern} (h : GoodRow high 39 p) : (wayOut (some p)).length ≤ 1000 := by
  have hb : (textOf p).length ≤ p.length * 4 := by
    unfold textOf
    refine flat_len _ 4 p fun b hb => ?_
    have := (h.2 b hb).1
    match b, this with
    | [], _ => simp [Beat.text]
    | [_], _ => simp [Beat.text]
    | [_, _], _ => simp [Beat.text]
    | _ :: _ :: _ :: _, q => simp at q
  show (gives (textOf p)).length ≤ 1000
  unfold gives nats
  simp
  have := h.1
  omega
end Jm



set_option Elab.async false
set_option linter.all false
set_option maxRecDepth 100000
set_option maxHeartbeats 4000000
namespace Jp
open PySem PySem.Spec PyProof.Rows L2
open PySem.W (Codec)
def top (i : Nat) : Stmt := PySem.Challenge.pw_jugglebench_s06_join.main.body.getD i (.Pass ⟨0, 0, 0, 0⟩)
abbrev s_height_of : Stmt := top 11
abbrev s_digit_of : Stmt := top 12
abbrev s_bracket_fault : Stmt := top 13
abbrev s_beat_fault : Stmt := top 14
abbrev s_beat_end : Stmt := top 15
abbrev s_text_fault : Stmt := top 16
abbrev s_read_beats : Stmt := top 17
abbrev s_beat_text : Stmt := top 18
abbrev s_told_text : Stmt := top 19
abbrev s_landing_counts : Stmt := top 20
abbrev s_wrong_beat : Stmt := top 21
abbrev s_pattern_refusal : Stmt := top 22
abbrev s_state_before : Stmt := top 23
abbrev s_is_state : Stmt := top 24
abbrev s_whole_state : Stmt := top 25
abbrev s_state_after : Stmt := top 26
abbrev s_beats_up_to : Stmt := top 27
abbrev s_next_layer : Stmt := top 28
abbrev s_shortest_row : Stmt := top 29
abbrev s_fits_way : Stmt := top 34
abbrev s_is_way_asked : Stmt := top 35
abbrev s_way : Stmt := top 36
abbrev s_pair_refusal : Stmt := top 37
abbrev s_join : Stmt := top 38
structure Txt (mg : Str → Option Value) : Prop where
  c_CLOSING : IntG mg "CLOSING" 93
  c_LETTER_A : IntG mg "LETTER_A" 97
  c_LETTER_F : IntG mg "LETTER_F" 102
  c_MOST_BEATS : IntG mg "MOST_BEATS" 16
  c_MOST_ROW : IntG mg "MOST_ROW" 39
  c_MOST_THROWS : IntG mg "MOST_THROWS" 3
  c_MOST_WAY_BALLS : IntG mg "MOST_WAY_BALLS" 5
  c_MOST_WAY_HEIGHT : IntG mg "MOST_WAY_HEIGHT" 8
  c_MOST_WAY_LANDING : IntG mg "MOST_WAY_LANDING" 2
  c_NINE : IntG mg "NINE" 57
  c_OPENING : IntG mg "OPENING" 91
  c_SPAN : IntG mg "SPAN" 15
  c_ZERO : IntG mg "ZERO" 48
  b_all : mg "all" = none
  b_len : mg "len" = none
  b_list : mg "list" = none
  b_max : mg "max" = none
  b_range : mg "range" = none
  b_sorted : mg "sorted" = none
  b_sum : mg "sum" = none
  b_tuple : mg "tuple" = none
end Jp

set_option Elab.async false
set_option linter.all false
set_option maxRecDepth 100000
set_option maxHeartbeats 4000000
namespace Jp
open PySem PySem.Spec PyProof.Rows L2
section
variable {P : Program} {w : World} {K : PySem.W.Frag} {mg : Str → Option Value} {base : Heap}
def sp_height_of (_ : PySem.W.Frag) : Sp := fun vs H Q _ => ∃ z : Int, vs = [.int z] ∧ Q (.int (Jm.hI z)) H
theorem sc_height_of : FnScope ["byte"] ["byte"] (defScope s_height_of) := ⟨rfl, rfl, rfl, by decide +kernel, rfl, by decide +kernel, by decide +kernel⟩
theorem ok_height_of {f : Addr} {fd : FuncData} (F : Fun K "height_of" "height_of" s_height_of f fd) (T : Txt mg) : FnOk P w K mg base CX0 1 f fd ["byte"] (sp_height_of K) := by
  have sc := sc_height_of
  refine F.ok sc (fun vs H Q E h => ?_) (fun cdv A outer s H vs Q E hr h => ?_)
  · obtain ⟨z, rfl, _⟩ := h
    rfl
  · obtain ⟨z, rfl, k⟩ := h
    refine ⟨_, (pss_cons (ps_if (pt_chain op_le op_le (pgl T.c_ZERO) (pv 0) (pgl T.c_NINE)) (pss_one (ps_ret (pe_op op_sub (pv 0) (pgl T.c_ZERO)))) pss_nil)
      (pss_cons (ps_if (pt_chain op_le op_le (pgl T.c_LETTER_A) (pv 0) (pgl T.c_LETTER_F)) (pss_one (ps_ret (pe_op op_add (pe_op op_sub (pv 0) (pgl T.c_LETTER_A)) pe_int))) pss_nil)
      (pss_one (ps_ret (pe_un un_neg pe_int))))), ?_⟩
    have fin : ∀ i : Int, Jm.hI z = i → Q (.int i) H := fun i e => by rw [← e]; exact k
    refine ⟨_, rfl, _, _, rfl, rfl, _, rfl, ite2 (fun h1 => ⟨_, _, rfl, rfl, _, rfl, ite2 (fun h2 => ⟨_, rfl, _, _, rfl, rfl, fin _ ?_⟩) (fun h2 => ?_)⟩) (fun h1 => ⟨_, rfl, iteF ?_⟩)⟩
    · simp only [decide_eq_true_eq] at h1 h2
      unfold Jm.hI
      rw [if_pos ⟨h1, h2⟩]
    all_goals
      refine ⟨_, rfl, _, _, rfl, rfl, _, rfl, ite2 (fun h3 => ⟨_, _, rfl, rfl, _, rfl, ite2 (fun h4 => ⟨_, rfl, _, _, rfl, rfl, _, _, rfl, rfl, fin _ ?_⟩) (fun h4 => ⟨_, rfl, fin _ ?_⟩)⟩) (fun h3 => ⟨_, rfl, iteF ⟨_, rfl, fin _ ?_⟩⟩)⟩
      all_goals
        simp only [decide_eq_true_eq] at *
        unfold Jm.hI
        split <;> (try split) <;> omega
end
end Jp

set_option Elab.async false
set_option linter.all false
set_option maxRecDepth 100000
set_option maxHeartbeats 4000000
namespace Jp
open PySem PySem.Spec PyProof.Rows L2
section
variable {P : Program} {w : World} {K : PySem.W.Frag} {mg : Str → Option Value} {base : Heap}
def sp_digit_of (_ : PySem.W.Frag) : Sp := fun vs H Q _ => ∃ n : Nat, vs = [.int (n : Nat)] ∧ Q (.int (Jm.dgt n : Nat)) H
theorem sc_digit_of : FnScope ["height"] ["height"] (defScope s_digit_of) := ⟨rfl, rfl, rfl, by decide +kernel, rfl, by decide +kernel, by decide +kernel⟩
theorem ok_digit_of {f : Addr} {fd : FuncData} (F : Fun K "digit_of" "digit_of" s_digit_of f fd) (T : Txt mg) : FnOk P w K mg base CX0 1 f fd ["height"] (sp_digit_of K) := by
  have sc := sc_digit_of
  refine F.ok sc (fun vs H Q E h => ?_) (fun cdv A outer s H vs Q E hr h => ?_)
  · obtain ⟨n, rfl, _⟩ := h
    rfl
  · obtain ⟨n, rfl, k⟩ := h
    refine ⟨_, (pss_cons (ps_if (pt_cmp (pc_lt (pv 0) pe_int)) (pss_one (ps_ret (pe_op op_add (pgl T.c_ZERO) (pv 0)))) pss_nil)
      (pss_one (ps_ret (pe_op op_sub (pe_op op_add (pgl T.c_LETTER_A) (pv 0)) pe_int)))), ?_⟩
    have fin : ∀ i : Int, i = (Jm.dgt n : Nat) → Q (.int i) H := fun i e => by rw [e]; exact k
    refine ⟨_, rfl, _, _, rfl, rfl, _, rfl, ite2 (fun hc => ?_) (fun hc => ?_)⟩
    · have hc : (n : Int) < 10 := of_decide_eq_true hc
      refine ⟨_, rfl, _, _, rfl, rfl, fin _ ?_⟩
      unfold Jm.dgt
      rw [if_pos (by omega)]
      omega
    · have hc : ¬ (n : Int) < 10 := fun q => hc (decide_eq_true q)
      refine ⟨_, rfl, _, _, rfl, rfl, _, _, rfl, rfl, fin _ ?_⟩
      unfold Jm.dgt
      rw [if_neg (by omega)]
      omega
end
end Jp

set_option Elab.async false
set_option linter.all false
set_option maxRecDepth 100000
set_option maxHeartbeats 4000000
namespace Jp
open PySem PySem.Spec PyProof.Rows L2
section
variable {P : Program} {w : World} {K : PySem.W.Frag} {mg : Str → Option Value} {base : Heap}
def sp_bracket_fault (K : PySem.W.Frag) : Sp := fun vs H Q _ => ∃ (a : Addr) (t : List Int) (p : Nat), vs = [.ref a, .int (p : Nat)] ∧ SqL K H a (t.map V.int) ∧ Jm.Ok8 t ∧ t.length ≤ 64 ∧ p < t.length ∧
  (∀ e, Jug.handIn (p + 1) (Jm.by8 (t.drop (p + 1))) [] = .error e → Q (.int (e : Nat)) H) ∧ (∀ x, Jug.handIn (p + 1) (Jm.by8 (t.drop (p + 1))) [] = .ok x → Q (.int (-1)) H)
theorem sc_bracket_fault : FnScope ["t", "start", "place", "held"] ["t", "start"] (defScope s_bracket_fault) := ⟨rfl, rfl, rfl, by decide +kernel, rfl, by decide +kernel, by decide +kernel⟩
theorem ok_bracket_fault {f : Addr} {fd : FuncData} (F : Fun K "bracket_fault" "bracket_fault" s_bracket_fault f fd) (T : Txt mg) (d_height_of : Def P w K mg base "height_of" ["byte"] 1 (sp_height_of K)) : FnOk P w K mg base CX0 2 f fd ["t", "start"] (sp_bracket_fault K) := by
  have sc := sc_bracket_fault
  refine F.ok sc (fun vs H Q E h => ?_) (fun cdv A outer s H vs Q E hr h => ?_)
  · obtain ⟨a, t, p, rfl, _⟩ := h
    rfl
  · obtain ⟨a, t, p, rfl, hS, h8, h64, hp, kE, kO⟩ := h
    refine ⟨_, (pss_cons (ps_for PassesOwn.never rfl (pi_range2 rfl T.b_range (pa_cons (pe_op op_add (pv 1) pe_int) (pa_cons (pe_callB call_len_seq (by rfl) T.b_len PySem.boot_len (pa_cons (pv 0) pa_nil)) pa_nil))) (pg_name (i := 2) sc.nd rfl (by first | exact Or.inl rfl | exact Or.inr rfl))
      (pss_cons (ps_set (i := 3) sc.nd rfl (by first | exact Or.inl rfl | exact Or.inr rfl) (pe_op op_sub (pe_op op_sub (pv 2) (pv 1)) pe_int))
      (pss_cons (ps_if (pt_cmp (pc_eqI (pe_ix ix_list (pv 0) (pv 2) (fun _ _ => rfl)) (pgl T.c_CLOSING))) (pss_one (ps_ret (pe_ifExp (pt_cmp (pc_ge (pv 3) pe_int)) (pe_un un_neg pe_int) (pv 2)))) pss_nil)
      (pss_one (ps_if (pw_or (pt_cmp (pc_eqI (pv 3) (pgl T.c_MOST_THROWS))) (pw_or1 (pt_cmp (pc_lt (pcall d_height_of (hr.mono (by decide)) (pa_cons (pe_ix ix_list (pv 0) (pv 2) (fun _ _ => rfl)) pa_nil)) pe_int)))).pt (pss_one (ps_ret (pv 2))) pss_nil)))))
      (pss_one (ps_ret (pe_callB call_len_seq (by rfl) T.b_len PySem.boot_len (pa_cons (pv 0) pa_nil))))), ?_⟩
    have hl : (t.map V.int).length = t.length := by simp
    refine ⟨_, rfl, _, _, rfl, rfl, _, rfl, _, _, rfl, .inl hS, _, _, rfl, ⟨by omega, by omega, by omega, by omega⟩, ?_⟩
    refine for_range (lo := (p : Int) + 1) (n := (((t.map V.int).length : Int) - ((p : Int) + 1)).toNat) (fun i σ H' => H' = H ∧ ∃ v2 v3, σ = [some (.ref a), some (.int p), v2, v3] ∧ ∃ l : List Nat, l.length = i ∧ i ≤ 3 ∧
      Jug.handIn (p + 1) (Jm.by8 (t.drop (p + 1))) [] = Jug.handIn (p + 1 + i) (Jm.by8 (t.drop (p + 1 + i))) l) ⟨rfl, none, none, rfl, [], rfl, Nat.zero_le _, rfl⟩ ?_ ?_
    · rintro i σ H' hi ⟨rfl, v2, v3, rfl, l, hli, hi3, eh⟩
      have hpl : p + 1 + i < t.length := by omega
      obtain ⟨z, r, ed, ez⟩ := Jm.drop_cons hpl
      obtain ⟨z0, z1⟩ := h8 z (List.mem_of_getElem? ez)
      have er : r = t.drop (p + 1 + (i + 1)) := by
        have := congrArg List.tail ed
        rw [List.tail_drop] at this
        exact this.symm
      rw [ed] at eh
      have hat : atI (t.map V.int) ((p : Int) + 1 + (i : Int)) = some (V.int z) := at_of (j := p + 1 + i) (by omega) (by rw [List.getElem?_map, ez]; rfl)
      refine ⟨_, rfl, _, rfl, _, _, rfl, rfl, _, _, rfl, rfl, ?_⟩
      refine ⟨_, rfl, _, rfl, a, _, _, _, rfl, rfl, hS, hat, _, _, rfl, rfl, _, rfl, ite2 (fun hc => ?_) (fun hc => ?_)⟩
      · have hz : z = 93 := of_decide_eq_true hc
        rw [Jm.hand_close _ _ _ hz] at eh
        refine ⟨_, rfl, _, _, rfl, rfl, _, rfl, ite2 (fun h2 => ⟨_, rfl, ?_⟩) (fun h2 => ⟨_, rfl, ?_⟩)⟩
        · have h2 := of_decide_eq_true h2
          rw [if_neg (by omega)] at eh
          exact kO _ eh
        · have h2 : ¬ _ := fun q => h2 (decide_eq_true q)
          rw [if_pos (by omega)] at eh
          have := kE _ eh
          have e2 : ((p + 1 + i : Nat) : Int) = (p : Int) + 1 + (i : Int) := by omega
          rw [e2] at this
          exact this
      · have hz : ¬ z = 93 := fun q => hc (decide_eq_true q)
        have bad : (3 ≤ l.length ∨ Jm.hI z < 1) → Q (.int ((p : Int) + 1 + (i : Int))) H' := fun hb => by
          rw [Jm.hand_bad _ _ _ z0 z1 hz hb] at eh
          have := kE _ eh
          have e2 : ((p + 1 + i : Nat) : Int) = (p : Int) + 1 + (i : Int) := by omega
          rw [e2] at this
          exact this
        refine ⟨_, rfl, _, _, rfl, rfl, _, rfl, ite2 (fun h3 => ?_) (fun h3 => ?_)⟩
        · have h3 := of_decide_eq_true h3
          exact ⟨_, rfl, bad (by omega)⟩
        · have h3 : ¬ _ := fun q => h3 (decide_eq_true q)
          refine ⟨_, rfl, _, rfl, a, _, _, _, rfl, rfl, hS, hat, z, rfl, _, _, rfl, rfl, _, rfl, ite2 (fun h4 => ?_) (fun h4 => ?_)⟩
          · have h4 := of_decide_eq_true h4
            exact ⟨_, rfl, bad (.inr h4)⟩
          · have h4 : ¬ _ := fun q => h4 (decide_eq_true q)
            rw [Jm.hand_go _ _ _ z0 z1 hz (by omega) (by omega), er] at eh
            exact ⟨rfl, _, _, rfl, _, by simp [hli], by omega, eh⟩
    · rintro σ H' ⟨rfl, v2, v3, rfl, l, hli, hi3, eh⟩
      have e1 : p + 1 + (((t.map V.int).length : Int) - ((p : Int) + 1)).toNat = t.length := by omega
      rw [e1, List.drop_length, Jm.hand_nil] at eh
      have := kE _ eh
      refine ⟨_, rfl, _, _, rfl, .inl hS, ?_⟩
      rw [hl]
      exact this
end
end Jp

set_option Elab.async false
set_option linter.all false
set_option maxRecDepth 100000
set_option maxHeartbeats 4000000
namespace Jp
open PySem PySem.Spec PyProof.Rows L2
section
variable {P : Program} {w : World} {K : PySem.W.Frag} {mg : Str → Option Value} {base : Heap}
def sp_beat_fault (K : PySem.W.Frag) : Sp := fun vs H Q _ => ∃ (a : Addr) (t : List Int) (p : Nat), vs = [.ref a, .int (p : Nat)] ∧ SqL K H a (t.map V.int) ∧ Jm.Ok8 t ∧ t.length ≤ 64 ∧ p < t.length ∧
  (∀ e, Jm.stepIn p (Jm.by8 (t.drop p)) = .error e → Q (.int (e : Nat)) H) ∧ (∀ x, Jm.stepIn p (Jm.by8 (t.drop p)) = .ok x → Q (.int (-1)) H)
theorem sc_beat_fault : FnScope ["t", "start"] ["t", "start"] (defScope s_beat_fault) := ⟨rfl, rfl, rfl, by decide +kernel, rfl, by decide +kernel, by decide +kernel⟩
theorem ok_beat_fault {f : Addr} {fd : FuncData} (F : Fun K "beat_fault" "beat_fault" s_beat_fault f fd) (T : Txt mg) (d_bracket_fault : Def P w K mg base "bracket_fault" ["t", "start"] 2 (sp_bracket_fault K)) (d_height_of : Def P w K mg base "height_of" ["byte"] 1 (sp_height_of K)) : FnOk P w K mg base CX0 3 f fd ["t", "start"] (sp_beat_fault K) := by
  have sc := sc_beat_fault
  refine F.ok sc (fun vs H Q E h => ?_) (fun cdv A outer s H vs Q E hr h => ?_)
  · obtain ⟨a, t, p, rfl, _⟩ := h
    rfl
  · obtain ⟨a, t, p, rfl, hS, h8, h64, hp, kE, kO⟩ := h
    refine ⟨_, (pss_cons (ps_if (pt_cmp (pc_eqI (pe_ix ix_list (pv 0) (pv 1) (fun _ _ => rfl)) (pgl T.c_OPENING))) (pss_one (ps_ret (pcall d_bracket_fault (hr.mono (by decide)) (pa_cons (pv 0) (pa_cons (pv 1) pa_nil))))) pss_nil)
      (pss_one (ps_ret (pe_ifExp (pt_cmp (pc_ge (pcall d_height_of (hr.mono (by decide)) (pa_cons (pe_ix ix_list (pv 0) (pv 1) (fun _ _ => rfl)) pa_nil)) pe_int)) (pe_un un_neg pe_int) (pv 1))))), ?_⟩
    obtain ⟨z, r, ed, ez⟩ := Jm.drop_cons hp
    obtain ⟨z0, z1⟩ := h8 z (List.mem_of_getElem? ez)
    have hat : atI (t.map V.int) (p : Int) = some (V.int z) := at_of (j := p) rfl (by rw [List.getElem?_map, ez]; rfl)
    refine ⟨_, rfl, _, rfl, a, _, _, _, rfl, rfl, hS, hat, _, _, rfl, rfl, _, rfl, ite2 (fun hc => ?_) (fun hc => ?_)⟩
    · have hz : z = 91 := of_decide_eq_true hc
      rw [Jm.step_open ez hz] at kE kO
      exact ⟨_, rfl, _, rfl, a, t, p, rfl, hS, h8, h64, hp, kE, kO⟩
    · have hz : ¬ z = 91 := fun q => hc (decide_eq_true q)
      refine ⟨_, rfl, _, rfl, a, _, _, _, rfl, rfl, hS, hat, z, rfl, _, _, rfl, rfl, _, rfl, ite2 (fun h4 => ?_) (fun h4 => ?_)⟩
      · have h4 : 0 ≤ Jm.hI z := of_decide_eq_true h4
        obtain ⟨x, e⟩ := Jm.step_dig ez z0 z1 hz h4
        exact ⟨_, rfl, kO _ e⟩
      · have h4 : ¬ 0 ≤ Jm.hI z := fun q => h4 (decide_eq_true q)
        exact ⟨_, rfl, kE _ (Jm.step_none ez z0 z1 hz (by omega))⟩
end
end Jp

set_option Elab.async false
set_option linter.all false
set_option maxRecDepth 100000
set_option maxHeartbeats 4000000
namespace Jp
open PySem PySem.Spec PyProof.Rows L2
section
variable {P : Program} {w : World} {K : PySem.W.Frag} {mg : Str → Option Value} {base : Heap}
def sp_beat_end (K : PySem.W.Frag) : Sp := fun vs H Q _ => ∃ (a : Addr) (t : List Int) (p q : Nat) (x : Jug.Beat) (s : Jug.Bytes), vs = [.ref a, .int (p : Nat)] ∧ SqL K H a (t.map V.int) ∧ Jm.Ok8 t ∧ t.length ≤ 64 ∧ p < t.length ∧
  Jm.stepIn p (Jm.by8 (t.drop p)) = .ok (x, q, s) ∧ Q (.int (q : Nat)) H
theorem sc_beat_end : FnScope ["t", "start"] ["t", "start"] (defScope s_beat_end) := ⟨rfl, rfl, rfl, by decide +kernel, rfl, by decide +kernel, by decide +kernel⟩
theorem ok_beat_end {f : Addr} {fd : FuncData} (F : Fun K "beat_end" "beat_end" s_beat_end f fd) (T : Txt mg) : FnOk P w K mg base CX0 1 f fd ["t", "start"] (sp_beat_end K) := by
  have sc := sc_beat_end
  refine F.ok sc (fun vs H Q E h => ?_) (fun cdv A outer s H vs Q E hr h => ?_)
  · obtain ⟨a, t, p, q, x, b, rfl, _⟩ := h
    rfl
  · obtain ⟨a, t, p, q, x, b, rfl, hS, h8, h64, hp, hs, k⟩ := h
    refine ⟨_, (pss_cons (ps_if (pt_cmp (pc_eqI (pe_ix ix_list (pv 0) (pv 1) (fun _ _ => rfl)) (pgl T.c_OPENING))) (pss_one (ps_ret (pe_op op_add (pe_bm PySem.F.plainAttrs_list PySem.F.slot_list_index PySem.F.type_list_index mt_index3 (pv 0) (pa_cons (pgl T.c_CLOSING) (pa_cons (pv 1) pa_nil))) pe_int))) pss_nil)
      (pss_one (ps_ret (pe_op op_add (pv 1) pe_int)))), ?_⟩
    obtain ⟨z, r, ed, ez⟩ := Jm.drop_cons hp
    have hat : atI (t.map V.int) (p : Int) = some (V.int z) := at_of (j := p) rfl (by rw [List.getElem?_map, ez]; rfl)
    refine ⟨_, rfl, _, rfl, a, _, _, _, rfl, rfl, hS, hat, _, _, rfl, rfl, _, rfl, ite2 (fun hc => ?_) (fun hc => ?_)⟩
    · have hz : z = 91 := of_decide_eq_true hc
      subst hz
      obtain ⟨q1, q2, q3, q4⟩ := Jm.step_index h8 ez hs
      refine ⟨_, rfl, .inl ⟨rfl, _, hS⟩, _, rfl, a, t, 93, p, q - 1, rfl, rfl, hS, q2, q3, q4, _, _, rfl, rfl, ?_⟩
      have e : (((q - 1 : Nat) : Int) + 1) = (q : Int) := by omega
      have k2 : Q (.int (((q - 1 : Nat) : Int) + 1)) H := by rw [e]; exact k
      exact k2
    · have hz : ¬ z = 91 := fun q => hc (decide_eq_true q)
      have e := Jm.step_single h8 ez hz hs
      subst e
      exact ⟨_, rfl, _, _, rfl, rfl, k⟩
end
end Jp

set_option Elab.async false
set_option linter.all false
set_option maxRecDepth 100000
set_option maxHeartbeats 4000000
namespace Jp
open PySem PySem.Spec PyProof.Rows L2
section
variable {P : Program} {w : World} {K : PySem.W.Frag} {mg : Str → Option Value} {base : Heap}
def sp_text_fault (K : PySem.W.Frag) : Sp := fun vs H Q _ => ∃ (a : Addr) (t : List Int), vs = [.ref a] ∧ SqL K H a (t.map V.int) ∧ Jm.Ok8 t ∧ t.length ≤ 64 ∧
  (∀ e, Jug.read (Jm.by8 t) = .error e → Q (.int (e : Nat)) H) ∧ (∀ x, Jug.read (Jm.by8 t) = .ok x → Q (.int (-1)) H)
theorem sc_text_fault : FnScope ["t", "begun", "place", "fault"] ["t"] (defScope s_text_fault) := ⟨rfl, rfl, rfl, by decide +kernel, rfl, by decide +kernel, by decide +kernel⟩
theorem ok_text_fault {f : Addr} {fd : FuncData} (F : Fun K "text_fault" "text_fault" s_text_fault f fd) (T : Txt mg) (d_beat_fault : Def P w K mg base "beat_fault" ["t", "start"] 3 (sp_beat_fault K)) (d_beat_end : Def P w K mg base "beat_end" ["t", "start"] 1 (sp_beat_end K)) : FnOk P w K mg base CX0 4 f fd ["t"] (sp_text_fault K) := by
  have sc := sc_text_fault
  refine F.ok sc (fun vs H Q E h => ?_) (fun cdv A outer s H vs Q E hr h => ?_)
  · obtain ⟨a, t, rfl, _⟩ := h
    rfl
  · obtain ⟨a, t, rfl, hS, h8, h64, kE, kO⟩ := h
    refine ⟨_, (pss_cons (ps_if (pt_cmp (pc_eqI (pe_callB call_len_seq (by rfl) T.b_len PySem.boot_len (pa_cons (pv 0) pa_nil)) pe_int)) (pss_one (ps_ret pe_int)) pss_nil)
      (pss_cons (ps_set (i := 1) sc.nd rfl (by first | exact Or.inl rfl | exact Or.inr rfl) pe_int)
      (pss_cons (ps_set (i := 2) sc.nd rfl (by first | exact Or.inl rfl | exact Or.inr rfl) pe_int)
      (pss_cons (ps_while PassesOwn.never (pt_cmp (pc_lt (pv 2) (pe_callB call_len_seq (by rfl) T.b_len PySem.boot_len (pa_cons (pv 0) pa_nil))))
      (pss_cons (ps_if (pt_cmp (pc_eqI (pv 1) (pgl T.c_MOST_BEATS))) (pss_one (ps_ret (pv 2))) pss_nil)
      (pss_cons (ps_set (i := 3) sc.nd rfl (by first | exact Or.inl rfl | exact Or.inr rfl) (pcall d_beat_fault (hr.mono (by decide)) (pa_cons (pv 0) (pa_cons (pv 2) pa_nil))))
      (pss_cons (ps_if (pt_cmp (pc_ge (pv 3) pe_int)) (pss_one (ps_ret (pv 3))) pss_nil)
      (pss_cons (ps_aug (i := 1) sc.nd rfl (by first | exact Or.inl rfl | exact Or.inr rfl) pe_int ip_add)
      (pss_one (ps_set (i := 2) sc.nd rfl (by first | exact Or.inl rfl | exact Or.inr rfl) (pcall d_beat_end (hr.mono (by decide)) (pa_cons (pv 0) (pa_cons (pv 2) pa_nil))))))))))
      (pss_one (ps_ret (pe_un un_neg pe_int))))))), ?_⟩
    have hl : (t.map V.int).length = t.length := by simp
    refine ⟨_, rfl, _, _, rfl, .inl hS, _, _, rfl, rfl, _, rfl, ite2 (fun hc => ?_) (fun hc => ?_)⟩
    · have hc : ((t.map V.int).length : Int) = 0 := of_decide_eq_true hc
      have e0 : t = [] := List.eq_nil_of_length_eq_zero (by omega)
      subst e0
      exact kE 0 (Jm.At.start []).last
    · have hc : ¬ ((t.map V.int).length : Int) = 0 := fun q => hc (decide_eq_true q)
      refine ⟨fun m σ H' => H' = H ∧ ∃ (pl : Nat) (v3 : Option V) (l : Jug.Pattern), σ = [some (.ref a), some (.int (l.length : Nat)), some (.int (pl : Nat)), v3] ∧ Jm.At t pl l ∧ m = t.length - pl, ⟨_, rfl, 0, none, [], rfl, Jm.At.start t, rfl⟩, ?_⟩
      rintro m σ H' ⟨rfl, pl, v3, l, rfl, hAt, rfl⟩
      refine ⟨_, rfl, _, rfl, _, _, rfl, .inl hS, _, _, rfl, rfl, _, rfl, ite2 (fun hc => ?_) (fun hc => ?_)⟩
      · have hpl : pl < t.length := by have := of_decide_eq_true hc; omega
        refine ⟨fun σ' H'' => ∃ m', m' < t.length - pl ∧ (H'' = H' ∧ ∃ (pl : Nat) (v3 : Option V) (l : Jug.Pattern), σ' = [some (.ref a), some (.int (l.length : Nat)), some (.int (pl : Nat)), v3] ∧ Jm.At t pl l ∧ m' = t.length - pl), fun _ _ h => h, ?_⟩
        refine ⟨_, rfl, _, _, rfl, rfl, _, rfl, ite2 (fun h1 => ?_) (fun h1 => ?_)⟩
        · have h1 := of_decide_eq_true h1
          exact ⟨_, rfl, kE _ (hAt.long hpl (by omega))⟩
        · have h1 : ¬ _ := fun q => h1 (decide_eq_true q)
          have h16 : l.length ≠ 16 := by omega
          refine ⟨_, rfl, _, rfl, a, t, pl, rfl, hS, h8, h64, hpl, fun e he => ?_, fun x hx => ?_⟩
          · refine ⟨_, rfl, _, _, rfl, rfl, _, rfl, ite2 (fun h2 => ⟨_, rfl, kE _ (hAt.err hpl h16 he)⟩) (fun h2 => ?_)⟩
            exact absurd (decide_eq_true (show (0 : Int) ≤ (e : Nat) by omega)) h2
          · obtain ⟨x, q, sb⟩ := x
            obtain ⟨hA2, hlt⟩ := hAt.next h8 hpl h16 hx
            refine ⟨_, rfl, _, _, rfl, rfl, _, rfl, ite2 (fun h2 => ?_) (fun h2 => ?_)⟩
            · have h2 := of_decide_eq_true h2
              omega
            · refine ⟨_, rfl, _, _, rfl, rfl, ?_⟩
              refine ⟨_, rfl, _, rfl, a, t, pl, q, x, sb, rfl, hS, h8, h64, hpl, hx, ?_⟩
              have el : ((l ++ [x]).length : Int) = (l.length : Int) + 1 := by simp
              exact ⟨t.length - q, by have := hA2.1; omega, rfl, q, some (.int (-1)), l ++ [x], by rw [el]; rfl, hA2, rfl⟩
      · have hpl : pl = t.length := by
          have : ¬ ((pl : Int) < ((t.map V.int).length : Int)) := fun q => hc (decide_eq_true q)
          have := hAt.1
          omega
        subst hpl
        have hr := hAt.last
        rw [if_neg (fun e => by have := hAt.2.2.1.mpr e; omega)] at hr
        exact ⟨_, rfl, kO _ hr⟩
end
end Jp

set_option Elab.async false
set_option linter.all false
set_option maxRecDepth 100000
set_option maxHeartbeats 4000000
namespace Jp
open PySem PySem.Spec PyProof.Rows L2
section
variable {P : Program} {w : World} {K : PySem.W.Frag} {mg : Str → Option Value} {base : Heap}
def sp_read_beats (K : PySem.W.Frag) : Sp := fun vs H Q _ => ∃ (a : Addr) (t : List Int) (p : Jug.Pattern), vs = [.ref a] ∧ SqL K H a (t.map V.int) ∧ Jm.Ok8 t ∧ t.length ≤ 64 ∧ Jug.read (Jm.by8 t) = .ok p ∧
  ∀ v H', Same H H' → PatAt H' v p → Q v H'
theorem sc_read_beats : FnScope ["t", "beats", "place", "end", "heights", "byte", "height"] ["t"] (defScope s_read_beats) := ⟨rfl, rfl, rfl, by decide +kernel, rfl, by decide +kernel, by decide +kernel⟩
theorem ok_read_beats {f : Addr} {fd : FuncData} (F : Fun K "read_beats" "read_beats" s_read_beats f fd) (T : Txt mg) (d_beat_end : Def P w K mg base "beat_end" ["t", "start"] 1 (sp_beat_end K)) (d_height_of : Def P w K mg base "height_of" ["byte"] 1 (sp_height_of K)) : FnOk P w K mg base CX0 2 f fd ["t"] (sp_read_beats K) := by
  have sc := sc_read_beats
  refine F.ok sc (fun vs H Q E h => ?_) (fun cdv A outer s H vs Q E hr h => ?_)
  · obtain ⟨a, t, p, rfl, _⟩ := h
    rfl
  · obtain ⟨a, t, p, rfl, hS, h8, h64, hrd, k⟩ := h
    refine ⟨_, (pss_cons (ps_set (i := 1) sc.nd rfl (by first | exact Or.inl rfl | exact Or.inr rfl) (pe_lst pa_nil))
      (pss_cons (ps_set (i := 2) sc.nd rfl (by first | exact Or.inl rfl | exact Or.inr rfl) pe_int)
      (pss_cons (ps_while PassesOwn.never (pt_cmp (pc_lt (pv 2) (pe_callB call_len_seq (by rfl) T.b_len PySem.boot_len (pa_cons (pv 0) pa_nil))))
      (pss_cons (ps_set (i := 3) sc.nd rfl (by first | exact Or.inl rfl | exact Or.inr rfl) (pcall d_beat_end (hr.mono (by decide)) (pa_cons (pv 0) (pa_cons (pv 2) pa_nil))))
      (pss_cons (ps_setLc (i := 4) (hc := rfl) (hN := sc.nd) (hy := rfl) (hyl := rfl) (hsw := sw_true rfl rfl rfl (by decide +kernel)) (pi_list (pe_slice sl_list (pv 0) (po_some (pv 2)) (po_some (pv 3)))) (own := [("byte", 5)]) (blkOk_by (N := ["t", "beats", "place", "end", "heights", "byte", "height"]) (sc := defScope s_read_beats) (by decide +kernel)) (fun _ _ _ _ _ => pg_name (i := 5) sc.nd rfl (by first | exact Or.inl rfl | exact Or.inr rfl)) (fun _ _ _ _ _ => pts_nil) (fun _ _ _ _ _ => (pcall d_height_of (hr.mono (by decide)) (pa_cons (pv 5) pa_nil))))
      (pss_cons (ps_expr (pe_bm PySem.F.plainAttrs_list PySem.F.slot_list_append PySem.F.type_list_append mt_append (pv 1) (pa_cons (pe_sortedR rfl T.b_sorted (pa_cons (pe_lc rfl sc.nd (pi_list (pv 4)) (own := [("height", 6)]) (blkOk_by (N := ["t", "beats", "place", "end", "heights", "byte", "height"]) (sc := defScope s_read_beats) (by decide +kernel)) (fun _ _ _ _ _ => pg_name (i := 6) sc.nd rfl (by first | exact Or.inl rfl | exact Or.inr rfl)) (fun _ _ _ _ _ => (pts_one (pt_cmp (pc_gt (pv 6) pe_int)))) (fun _ _ _ _ _ => (pv 6))) pa_nil)) pa_nil)))
      (pss_one (ps_set (i := 2) sc.nd rfl (by first | exact Or.inl rfl | exact Or.inr rfl) (pv 3)))))))
      (pss_one (ps_ret (pv 1)))))), ?_⟩
    have hl : (t.map V.int).length = t.length := by simp
    refine ⟨Nat.zero_le _, fun D hD => ?_⟩
    refine ⟨fun m σ H' => Same H H' ∧ ∃ (pl : Nat) (v3 v4 v5 v6 : Option V) (l : Jug.Pattern) (bs : List V), σ = [some (.ref a), some (.ref D), some (.int (pl : Nat)), v3, v4, v5, v6] ∧ Jm.At t pl l ∧ m = t.length - pl ∧
      H' D = some (.lst bs) ∧ Paired (fun v b => BeatAt H' v b ∧ v ≠ .ref D) bs l, ⟨_, (Same.refl H).new hD, 0, none, none, none, none, [], [], rfl, Jm.At.start t, rfl, upd_same, .nil⟩, ?_⟩
    rintro m σ H' ⟨s1, pl, v3, v4, v5, v6, l, bs, rfl, hAt, rfl, hDv, hP⟩
    refine ⟨_, rfl, _, rfl, _, _, rfl, .inl (s1.seq hS), _, _, rfl, rfl, _, rfl, ite2 (fun hc => ?_) (fun hc => ?_)⟩
    · have hpl : pl < t.length := by have := of_decide_eq_true hc; omega
      refine ⟨fun σ' H'' => ∃ m', m' < t.length - pl ∧ (Same H H'' ∧ ∃ (pl : Nat) (v3 v4 v5 v6 : Option V) (l : Jug.Pattern) (bs : List V), σ' = [some (.ref a), some (.ref D), some (.int (pl : Nat)), v3, v4, v5, v6] ∧ Jm.At t pl l ∧ m' = t.length - pl ∧
        H'' D = some (.lst bs) ∧ Paired (fun v b => BeatAt H'' v b ∧ v ≠ .ref D) bs l), fun _ _ h => h, ?_⟩
      obtain ⟨x, q, sb, hx, h16⟩ : ∃ x q sb, Jm.stepIn pl (Jm.by8 (t.drop pl)) = .ok (x, q, sb) ∧ l.length ≠ 16 := by
        have h16 : l.length ≠ 16 := fun e => by
          rw [hAt.long hpl e] at hrd
          cases hrd
        cases hx : Jm.stepIn pl (Jm.by8 (t.drop pl)) with
        | error e =>
          rw [hAt.err hpl h16 hx] at hrd
          cases hrd
        | ok y => exact ⟨y.1, y.2.1, y.2.2, rfl, h16⟩
      obtain ⟨hA2, hlt⟩ := hAt.next h8 hpl h16 hx
      obtain ⟨seg, rest, e1, e2, e3, e4, e5, e6, e7, e8⟩ := Jm.step_ok (h8.drop pl) hx
      -- end = beat_end(t, place)
      refine ⟨_, rfl, _, rfl, a, t, pl, q, x, sb, rfl, s1.seq hS, h8, h64, hpl, hx, ?_⟩
      -- heights = [height_of(byte) for byte in t[place:end]]
      refine ⟨_, rfl, _, rfl, _, rfl, _, rfl, _, rfl, a, _, rfl, s1.seq hS, fun c hc0 => ?_⟩
      rw [cutV_seg (by omega) e1 e2]
      have n1 : ∀ b o, H' b = some o → (upd H' c (.lst (seg.map V.int))) b = some o := (Same.refl H').new hc0
      refine ⟨c, rfl, ⟨_, SqL.of upd_same⟩, fun D1 hD1 => lc_mapL hV (SqL.of upd_same) hD1 ?_ (fun _ => rfl) ?_ ?_⟩
      · rw [List.length_map]
        exact Nat.le_of_lt (small1000 (by omega))
      · intro i v H3 Qk hv s3 kk
        obtain ⟨z, ez, rfl⟩ := map_get hv
        exact ⟨_, rfl, z, rfl, kk _ (Same.refl _)⟩
      intro H2 s2 hD1v
      have s02 : Same H' H2 := fun b o e => s2 b o (n1 b o e)
      have ehv : (seg.map V.int).map hV = (seg.map Jm.hI).map V.int := by
        rw [List.map_map, List.map_map]
        rfl
      rw [ehv] at hD1v
      -- beats.append(sorted([height for height in heights if height > 0], reverse=True))
      refine ⟨_, rfl, .inl ⟨rfl, _, SqL.of (s02 _ _ hDv)⟩, ?_⟩
      refine ⟨_, rfl, D1, rfl, ⟨_, SqL.of hD1v⟩, fun D2 hD2 => lc_filterL posV (SqL.of hD1v) hD2 ?_ (by show 6 < 7; decide) (fun _ => rfl) ?_ ?_⟩
      · rw [List.length_map, List.length_map]
        exact Nat.le_of_lt (small1000 (by omega))
      · intro i v H3 Qk hv s3 kk
        obtain ⟨z, ez, rfl⟩ := map_get hv
        exact ⟨_, rfl, _, _, rfl, rfl, _, rfl, kk⟩
      intro H3 s3 hD2v
      rw [filter_pos] at hD2v
      refine ⟨D2, _, rfl, SqL.of hD2v, ?_, fun ns' r hp1 hp2 hr => ?_⟩
      · have := List.length_filter_le (fun z => decide (0 < z)) (seg.map Jm.hI)
        rw [List.length_map] at this
        omega
      have ens : ns'.map V.int = natsV x := by
        rw [natsV_int, e6, ← Jm.falling_ints (fun n hn => by have := e7.2 n hn; omega) hp1 hp2]
      rw [ens]
      have s03 : Same H' H3 := s02.trans s3
      have hD3 := s03 _ _ hDv
      have nrD : r ≠ D := (ne_of_none hD3 hr).symm
      refine ⟨D, bs, _, rfl, rfl, by rw [upd_ne nrD.symm]; exact hD3, ?_, ?_⟩
      · have := hP.length
        have := hAt.2.1
        exact small1000 (by omega)
      -- place = end
      refine ⟨_, rfl, t.length - q, by have := hA2.1; omega, ?_, q, _, _, _, _, l ++ [x], _, rfl, hA2, rfl, upd_same, ?_⟩
      · exact ((s1.trans s03).new hr).own hD
      · refine Paired.snoc (Paired.imp' (fun v b ⟨q1, q2⟩ => ⟨(q1.same (s03.new hr)).upd q2, q2⟩) hP) ⟨⟨r, rfl, ?_⟩, fun e => nrD (V.ref.inj e)⟩
        rw [upd_ne nrD, upd_same]
    · have hpl : pl = t.length := by
        have : ¬ ((pl : Int) < ((t.map V.int).length : Int)) := fun q => hc (decide_eq_true q)
        have := hAt.1
        omega
      subst hpl
      have hr := hAt.last
      rw [hrd] at hr
      have el : l = p := by
        by_cases e : l = []
        · rw [if_pos e] at hr
          cases hr
        · rw [if_neg e] at hr
          exact (Except.ok.inj hr).symm
      subst el
      exact ⟨_, rfl, k _ _ s1 ⟨D, bs, rfl, hDv, Paired.imp' (fun _ _ q => q.1) hP⟩⟩
end
end Jp

set_option Elab.async false
set_option linter.all false
set_option maxRecDepth 100000
set_option maxHeartbeats 4000000
namespace Jp
open PySem PySem.Spec PyProof.Rows L2
section
variable {P : Program} {w : World} {K : PySem.W.Frag} {mg : Str → Option Value} {base : Heap}
def sp_beat_text (K : PySem.W.Frag) : Sp := fun vs H Q _ => ∃ (v : V) (b : Jug.Beat), vs = [v] ∧ BeatAt H v b ∧ b.length ≤ 64 ∧
  ∀ (x : Addr) H', Same H H' → H x = none → H' x = some (.lst (natsV (Jm.beatTx b))) → Q (.ref x) H'
def dgV : V → V
  | .int z => .int (Jm.dgt z.toNat : Nat)
  | v => v
theorem sc_beat_text : FnScope ["beat", "digits", "height"] ["beat"] (defScope s_beat_text) := ⟨rfl, rfl, rfl, by decide +kernel, rfl, by decide +kernel, by decide +kernel⟩
theorem ok_beat_text {f : Addr} {fd : FuncData} (F : Fun K "beat_text" "beat_text" s_beat_text f fd) (T : Txt mg) (d_digit_of : Def P w K mg base "digit_of" ["height"] 1 (sp_digit_of K)) : FnOk P w K mg base CX0 2 f fd ["beat"] (sp_beat_text K) := by
  have sc := sc_beat_text
  refine F.ok sc (fun vs H Q E h => ?_) (fun cdv A outer s H vs Q E hr h => ?_)
  · obtain ⟨v, b, rfl, _⟩ := h
    rfl
  · obtain ⟨v, b, rfl, ⟨y, rfl, hy⟩, h64, k⟩ := h
    refine ⟨_, (pss_cons (ps_if (pt_cmp (pc_eqI (pe_callB call_len_seq (by rfl) T.b_len PySem.boot_len (pa_cons (pv 0) pa_nil)) pe_int)) (pss_one (ps_ret (pe_lst (pa_cons (pgl T.c_ZERO) pa_nil)))) pss_nil)
      (pss_cons (ps_setLc (i := 1) (hc := rfl) (hN := sc.nd) (hy := rfl) (hyl := rfl) (hsw := sw_true rfl rfl rfl (by decide +kernel)) (pi_list (pv 0)) (own := [("height", 2)]) (blkOk_by (N := ["beat", "digits", "height"]) (sc := defScope s_beat_text) (by decide +kernel)) (fun _ _ _ _ _ => pg_name (i := 2) sc.nd rfl (by first | exact Or.inl rfl | exact Or.inr rfl)) (fun _ _ _ _ _ => pts_nil) (fun _ _ _ _ _ => (pcall d_digit_of (hr.mono (by decide)) (pa_cons (pv 2) pa_nil))))
      (pss_cons (ps_if (pt_cmp (pc_eqI (pe_callB call_len_seq (by rfl) T.b_len PySem.boot_len (pa_cons (pv 0) pa_nil)) pe_int)) (pss_one (ps_ret (pv 1))) pss_nil)
      (pss_one (ps_ret (pe_op op_cat (pe_op op_cat (pe_lst (pa_cons (pgl T.c_OPENING) pa_nil)) (pv 1)) (pe_lst (pa_cons (pgl T.c_CLOSING) pa_nil)))))))), ?_⟩
    have hl := natsV_length b
    refine ⟨_, rfl, _, _, rfl, .inl (SqL.of hy), _, _, rfl, rfl, _, rfl, ite2 (fun hc => ?_) (fun hc => ?_)⟩
    · have hc : ((natsV b).length : Int) = 0 := of_decide_eq_true hc
      have e0 : b = [] := List.eq_nil_of_length_eq_zero (by omega)
      subst e0
      refine ⟨by show 1 ≤ sizeLine; decide, fun x hx => k x _ ((Same.refl H).new hx) hx ?_⟩
      rw [upd_same]
      rfl
    · have hc : ¬ ((natsV b).length : Int) = 0 := fun q => hc (decide_eq_true q)
      refine ⟨_, rfl, y, rfl, ⟨_, SqL.of hy⟩, fun D hD => lc_mapL dgV (SqL.of hy) hD (Nat.le_of_lt (small1000 (by omega))) (fun _ => rfl) ?_ ?_⟩
      · intro i v H3 Qk hv s3 kk
        obtain ⟨n, en, rfl⟩ := natsV_get hv
        have := kk H3 (Same.refl _)
        exact ⟨_, rfl, n, rfl, this⟩
      intro H2 s2 hDv
      have em : (natsV b).map dgV = natsV (b.map Jm.dgt) := by
        unfold natsV
        rw [List.map_map, List.map_map]
        rfl
      rw [em] at hDv
      refine ⟨_, rfl, _, _, rfl, .inl (SqL.of (s2 _ _ hy)), _, _, rfl, rfl, _, rfl, ite2 (fun hd => ?_) (fun hd => ?_)⟩
      · have hd : ((natsV b).length : Int) = 1 := of_decide_eq_true hd
        refine ⟨_, rfl, k D H2 s2 hD ?_⟩
        rw [hDv]
        match b, hl, hd with
        | [n], _, _ => rfl
        | [], hl, hd => exact absurd hd (by rw [hl]; decide)
        | _ :: _ :: _, hl, hd => exact absurd hd (by rw [hl]; simp; omega)
      · have hd : ¬ ((natsV b).length : Int) = 1 := fun q => hd (decide_eq_true q)
        refine ⟨by show 1 ≤ sizeLine; decide, fun x1 hx1 => ⟨_, rfl, x1, D, [V.int 91], natsV (b.map Jm.dgt), rfl, rfl, upd_same, ?_, ?_, fun x2 hx2 => ?_⟩⟩
        · rw [upd_ne (ne_of_none hDv hx1)]
          exact hDv
        · rw [natsV_length, List.length_map]
          exact Nat.le_of_lt (small1000 (by simp; omega))
        have s3 := (s2.new (o := .lst [V.int 91]) hx1).new (o := .lst ([V.int 91] ++ natsV (b.map Jm.dgt))) hx2
        refine ⟨by show 1 ≤ sizeLine; decide, fun x3 hx3 => ⟨x2, x3, [V.int 91] ++ natsV (b.map Jm.dgt), [V.int 93], rfl, rfl, ?_, upd_same, ?_, fun x4 hx4 => ?_⟩⟩
        · rw [upd_ne (ne_of_none (upd_same (a := x2)) hx3)]
          exact upd_same
        · rw [List.length_append, natsV_length, List.length_map]
          exact Nat.le_of_lt (small1000 (by simp; omega))
        refine k x4 _ ((s3.new hx3).new hx4) ((s3.new hx3).free hx4) ?_
        rw [upd_same]
        have et : Jm.beatTx b = 91 :: (b.map Jm.dgt ++ [93]) := by
          match b, hc, hd, hl with
          | [], hc, _, _ => exact absurd rfl hc
          | [n], _, hd, _ => exact absurd rfl hd
          | n :: m :: r, _, _, _ => rfl
        rw [et]
        show some (HO.lst ([V.int 91] ++ natsV (b.map Jm.dgt) ++ [V.int 93])) = some (HO.lst (natsV (91 :: (b.map Jm.dgt ++ [93]))))
        have e2 : natsV (91 :: (b.map Jm.dgt ++ [93])) = [V.int 91] ++ natsV (b.map Jm.dgt) ++ [V.int 93] := by
          show V.int 91 :: natsV (b.map Jm.dgt ++ [93]) = _
          rw [natsV_append]
          rfl
        rw [e2]
end
end Jp

set_option Elab.async false
set_option linter.all false
set_option maxRecDepth 100000
set_option maxHeartbeats 4000000
namespace Jp
open PySem PySem.Spec PyProof.Rows L2
section
variable {P : Program} {w : World} {K : PySem.W.Frag} {mg : Str → Option Value} {base : Heap}
def sp_told_text (K : PySem.W.Frag) : Sp := fun vs H Q _ => ∃ (v : V) (p : Jug.Pattern), vs = [v] ∧ PatAt H v p ∧ (∀ b ∈ p, b.length ≤ 3) ∧ p.length ≤ 64 ∧
  ∀ (x : Addr) H', Same H H' → H x = none → H' x = some (.lst (natsV ((Jm.textTx p).length :: Jm.textTx p))) → Q (.ref x) H'
theorem sc_told_text : FnScope ["beats", "text", "beat"] ["beats"] (defScope s_told_text) := ⟨rfl, rfl, rfl, by decide +kernel, rfl, by decide +kernel, by decide +kernel⟩
theorem ok_told_text {f : Addr} {fd : FuncData} (F : Fun K "told_text" "told_text" s_told_text f fd) (T : Txt mg) (d_beat_text : Def P w K mg base "beat_text" ["beat"] 2 (sp_beat_text K)) : FnOk P w K mg base CX0 3 f fd ["beats"] (sp_told_text K) := by
  have sc := sc_told_text
  refine F.ok sc (fun vs H Q E h => ?_) (fun cdv A outer s H vs Q E hr h => ?_)
  · obtain ⟨v, p, rfl, _⟩ := h
    rfl
  · obtain ⟨v, p, rfl, ⟨x, ws, rfl, hx, hP⟩, hG, h64, k⟩ := h
    refine ⟨_, (pss_cons (ps_set (i := 1) sc.nd rfl (by first | exact Or.inl rfl | exact Or.inr rfl) (pe_lst pa_nil))
      (pss_cons (ps_for PassesOwn.never rfl (pi_list (pv 0)) (pg_name (i := 2) sc.nd rfl (by first | exact Or.inl rfl | exact Or.inr rfl))
      (pss_one (ps_expr (pe_bm PySem.F.plainAttrs_list PySem.F.slot_list_extend PySem.F.type_list_extend mt_extend (pv 1) (pa_cons (pcall d_beat_text (hr.mono (by decide)) (pa_cons (pv 2) pa_nil)) pa_nil)))))
      (pss_one (ps_ret (pe_op op_cat (pe_lst (pa_cons (pe_callB call_len_seq (by rfl) T.b_len PySem.boot_len (pa_cons (pv 1) pa_nil)) pa_nil)) (pv 1)))))), ?_⟩
    refine ⟨Nat.zero_le _, fun D hD => ?_⟩
    have hl := hP.length
    have s0 : Same H (upd H D (.lst [])) := (Same.refl H).new hD
    refine ⟨_, rfl, x, rfl, ⟨_, SqL.of (s0 _ _ hx)⟩, ?_⟩
    refine for_list (xs := ws) (fun i σ H' => Same H H' ∧ (∃ v2, σ = [some (.ref x), some (.ref D), v2]) ∧ H' D = some (.lst (natsV (Jm.textTx (p.take i)))) ∧ (Jm.textTx (p.take i)).length ≤ 5 * i)
      ⟨s0, ⟨none, rfl⟩, upd_same, by simp [Jm.textTx]⟩ (fun i σ H' _ ⟨s1, _⟩ => SqL.of (s1 _ _ hx)) ?_ ?_
    · rintro i y σ H' hi ⟨s1, ⟨v2, rfl⟩, hDv, hlen⟩
      obtain ⟨b, e2, hbeat⟩ := Paired.getL hP hi
      have hil := (List.getElem?_eq_some_iff.mp hi).1
      have g1 := hG b (List.mem_of_getElem? e2)
      refine ⟨_, rfl, .inl ⟨rfl, _, SqL.of hDv⟩, _, rfl, y, b, rfl, hbeat.same s1, by omega, fun z H2 s2 hz0 hz => ?_⟩
      have hDz : D ≠ z := fun e => by rw [e, hz0] at hDv; cases hDv
      have htx := Jm.beatTx_len g1
      have et : Jm.textTx (p.take (i + 1)) = Jm.textTx (p.take i) ++ Jm.beatTx b := by
        rw [take_snoc e2]
        unfold Jm.textTx
        rw [List.flatMap_append]
        simp
      refine ⟨D, z, _, _, rfl, rfl, s2 _ _ hDv, hz, ?_, (s1.trans s2).own hD, ⟨_, rfl⟩, ?_, ?_⟩
      · rw [natsV_length, natsV_length]
        exact Nat.le_of_lt (small1000 (by omega))
      · rw [upd_same, et, natsV_append]
      · rw [et, List.length_append]
        omega
    · rintro σ H' ⟨s1, ⟨v2, rfl⟩, hDv, hlen⟩
      rw [hl, List.take_length] at hDv hlen
      refine ⟨_, rfl, _, _, rfl, .inl (SqL.of hDv), by show 1 ≤ sizeLine; decide, fun z hz => ⟨_, rfl, z, D, _, natsV (Jm.textTx p), rfl, rfl, upd_same, ?_, ?_, fun y hy => ?_⟩⟩
      · rw [upd_ne (ne_of_none hDv hz)]
        exact hDv
      · rw [natsV_length]
        exact Nat.le_of_lt (small1000 (by simp; omega))
      · refine k y _ ((s1.new hz).new hy) ((s1.new hz).free hy) ?_
        rw [upd_same, natsV_length]
        rfl
end
end Jp

set_option Elab.async false
set_option linter.all false
set_option maxRecDepth 100000
set_option maxHeartbeats 4000000
namespace Jp
open PySem PySem.Spec PyProof.Rows L2
section
variable {P : Program} {w : World} {K : PySem.W.Frag} {mg : Str → Option Value} {base : Heap}
def sp_landing_counts (K : PySem.W.Frag) : Sp := fun vs H Q _ => ∃ (v : V) (p : Jug.Pattern), vs = [v] ∧ PatAt H v p ∧ (∀ b ∈ p, Jm.GoodBeat b) ∧ 1 ≤ p.length ∧ p.length ≤ 16 ∧
  ∀ (x : Addr) H', Same H H' → H x = none → H' x = some (.lst (natsV (Jm.cnt p.length (Jm.landKs p p.length)))) → Q (.ref x) H'
theorem sc_landing_counts : FnScope ["beats", "period", "landing", "start", "height"] ["beats"] (defScope s_landing_counts) := ⟨rfl, rfl, rfl, by decide +kernel, rfl, by decide +kernel, by decide +kernel⟩
theorem ok_landing_counts {f : Addr} {fd : FuncData} (F : Fun K "landing_counts" "landing_counts" s_landing_counts f fd) (T : Txt mg) : FnOk P w K mg base CX0 1 f fd ["beats"] (sp_landing_counts K) := by
  have sc := sc_landing_counts
  refine F.ok sc (fun vs H Q E h => ?_) (fun cdv A outer s H vs Q E hr h => ?_)
  · obtain ⟨v, p, rfl, _⟩ := h
    rfl
  · obtain ⟨v, p, rfl, ⟨x, ws, rfl, hx, hP⟩, hG, hp1, hp16, k⟩ := h
    refine ⟨_, (pss_cons (ps_set (i := 1) sc.nd rfl (by first | exact Or.inl rfl | exact Or.inr rfl) (pe_callB call_len_seq (by rfl) T.b_len PySem.boot_len (pa_cons (pv 0) pa_nil)))
      (pss_cons (ps_set (i := 2) sc.nd rfl (by first | exact Or.inl rfl | exact Or.inr rfl) (pe_op op_rep (pe_lst (pa_cons pe_int pa_nil)) (pv 1)))
      (pss_cons (ps_for PassesOwn.never rfl (pi_range1 rfl T.b_range (pa_cons (pv 1) pa_nil)) (pg_name (i := 3) sc.nd rfl (by first | exact Or.inl rfl | exact Or.inr rfl))
      (pss_one (ps_for PassesOwn.never rfl (pi_list (pe_ix ix_list (pv 0) (pv 3) (fun _ _ => rfl))) (pg_name (i := 4) sc.nd rfl (by first | exact Or.inl rfl | exact Or.inr rfl))
      (pss_one (ps_augS (pv 2) (pe_op op_mod (pe_op op_add (pv 3) (pv 4)) (pv 1)) get_list pe_int ip_add set_list)))))
      (pss_one (ps_ret (pv 2)))))), ?_⟩
    have hl := hP.length
    refine ⟨_, rfl, _, _, rfl, .inl (SqL.of hx), ?_⟩
    rw [hl]
    refine ⟨by show 1 ≤ sizeLine; decide, fun z hz => ⟨_, rfl, z, _, _, rfl, rfl, upd_same, by omega, by omega, by simp; exact Nat.le_of_lt (small1000 (by omega)), fun D hD => ?_⟩⟩
    have en : ((p.length : Int)).toNat = p.length := by omega
    rw [en, rep_zero]
    have s0 : Same H (upd H z (.lst [.int 0])) := (Same.refl H).new hz
    have hDH : H D = none := s0.free hD
    have s1 := s0.new (o := .lst (natsV (Jm.cnt p.length []))) hD
    refine ⟨_, rfl, _, rfl, by omega, by omega, ?_⟩
    rw [en]
    refine for_range (fun i σ H' => Same H H' ∧ ∃ v3 v4, σ = [some (.ref x), some (.int (p.length : Nat)), some (.ref D), v3, v4] ∧ H' D = some (.lst (natsV (Jm.cnt p.length (Jm.landKs p i))))) ⟨s1, none, none, rfl, upd_same⟩ ?_ ?_
    · rintro i σ H' hi ⟨s2, v3, v4, rfl, hDv⟩
      obtain ⟨y, b, e1, e2, e3, e4⟩ := PatAt.at (x := x) hP hi
      have hat : atI ws (0 + (i : Int)) = some (V.ref y) := at_of (j := i) (by omega) e1
      obtain ⟨g1, g2, g3⟩ := hG b (List.mem_of_getElem? e2)
      refine ⟨_, rfl, _, rfl, x, _, _, _, rfl, rfl, SqL.of (s2 _ _ hx), hat, y, rfl, ⟨_, SqL.of (s2 _ _ e4)⟩, ?_⟩
      refine for_list (xs := natsV b) (fun j σ H'' => Same H H'' ∧ ∃ v4, σ = [some (.ref x), some (.int (p.length : Nat)), some (.ref D), some (.int (0 + (i : Int))), v4] ∧ H'' D = some (.lst (natsV (Jm.cnt p.length (Jm.landKs p i ++ (b.take j).map fun h => (i + h) % p.length)))))
        ⟨s2, v4, rfl, by rw [List.take_zero, List.map_nil, List.append_nil]; exact hDv⟩ (fun j σ H'' _ ⟨s3, _⟩ => SqL.of (s3 _ _ e4)) ?_ ?_
      · rintro j w σ H'' hj ⟨s3, v5, rfl, hDw⟩
        obtain ⟨n, en', rfl⟩ := natsV_get hj
        have hlt : (i + n) % p.length < p.length := Nat.mod_lt _ hp1
        refine ⟨_, rfl, _, rfl, _, rfl, _, _, rfl, rfl, _, rfl, _, _, rfl, rfl, by show (0 : Int) < (p.length : Nat); omega, ?_⟩
        have em : (0 + (i : Int) + (n : Int)) % ((p.length : Nat) : Int) = (((i + n) % p.length : Nat) : Int) := by
          rw [Int.natCast_emod]
          congr 1
          omega
        refine ⟨D, _, (i + n) % p.length, _, rfl, congrArg V.int em, SqL.of hDw, natsV_at (Jm.cnt_at _ hlt), _, _, rfl, rfl, D, _, _, (i + n) % p.length, rfl, congrArg V.int em, hDw, ?_, ?_⟩
        · rw [natsV_length, Jm.cnt_length]
          exact ixN_nat hlt
        · refine ⟨s3.own hDH, _, rfl, ?_⟩
          rw [upd_same, bump_ok hlt, take_snoc en', List.map_append, ← List.append_assoc]
          rfl
      · rintro σ H'' ⟨s3, v5, rfl, hDw⟩
        refine ⟨s3, _, _, rfl, ?_⟩
        rw [natsV_length, List.take_length, ← e3] at hDw
        rw [Jm.landKs_succ]
        exact hDw
    · rintro σ H' ⟨s2, v3, v4, rfl, hDv⟩
      exact ⟨_, rfl, k D H' s2 hDH hDv⟩
end
end Jp

set_option Elab.async false
set_option linter.all false
set_option maxRecDepth 100000
set_option maxHeartbeats 4000000
namespace Jp
open PySem PySem.Spec PyProof.Rows L2
section
variable {P : Program} {w : World} {K : PySem.W.Frag} {mg : Str → Option Value} {base : Heap}
def sp_wrong_beat (K : PySem.W.Frag) : Sp := fun vs H Q _ => ∃ (v : V) (p : Jug.Pattern), vs = [v] ∧ PatAt H v p ∧ (∀ b ∈ p, Jm.GoodBeat b) ∧ 1 ≤ p.length ∧ p.length ≤ 16 ∧
  ∀ H', Same H H' → (∀ k, Jug.clash p = some k → Q (.int (k : Nat)) H') ∧ (Jug.clash p = none → Q (.int (-1)) H')
theorem sc_wrong_beat : FnScope ["beats", "landing", "beat"] ["beats"] (defScope s_wrong_beat) := ⟨rfl, rfl, rfl, by decide +kernel, rfl, by decide +kernel, by decide +kernel⟩
theorem ok_wrong_beat {f : Addr} {fd : FuncData} (F : Fun K "wrong_beat" "wrong_beat" s_wrong_beat f fd) (T : Txt mg) (d_landing_counts : Def P w K mg base "landing_counts" ["beats"] 1 (sp_landing_counts K)) : FnOk P w K mg base CX0 2 f fd ["beats"] (sp_wrong_beat K) := by
  have sc := sc_wrong_beat
  refine F.ok sc (fun vs H Q E h => ?_) (fun cdv A outer s H vs Q E hr h => ?_)
  · obtain ⟨v, p, rfl, _⟩ := h
    rfl
  · obtain ⟨v, p, rfl, hPat, hG, hp1, hp16, k⟩ := h
    refine ⟨_, (pss_cons (ps_set (i := 1) sc.nd rfl (by first | exact Or.inl rfl | exact Or.inr rfl) (pcall d_landing_counts (hr.mono (by decide)) (pa_cons (pv 0) pa_nil)))
      (pss_cons (ps_for PassesOwn.never rfl (pi_range1 rfl T.b_range (pa_cons (pe_callB call_len_seq (by rfl) T.b_len PySem.boot_len (pa_cons (pv 0) pa_nil)) pa_nil)) (pg_name (i := 2) sc.nd rfl (by first | exact Or.inl rfl | exact Or.inr rfl))
      (pss_one (ps_if (pt_cmp (pc_neI (pe_ix ix_list (pv 1) (pv 2) (fun _ _ => rfl)) (pe_callB call_len_seq (by rfl) T.b_len PySem.boot_len (pa_cons (pe_ix ix_list (pv 0) (pv 2) (fun _ _ => rfl)) pa_nil)))) (pss_one (ps_ret (pv 2))) pss_nil)))
      (pss_one (ps_ret (pe_un un_neg pe_int))))), ?_⟩
    refine ⟨_, rfl, v, p, rfl, hPat, hG, hp1, hp16, fun D H1 s1 hDn hD => ?_⟩
    obtain ⟨x, ws, rfl, hx, hP⟩ := hPat
    have hl := hP.length
    refine ⟨_, rfl, _, _, rfl, .inl (SqL.of (s1 _ _ hx)), ?_⟩
    rw [hl]
    refine ⟨_, rfl, by omega, by omega, ?_⟩
    have en : ((p.length : Int)).toNat = p.length := by omega
    rw [en]
    refine for_range (fun i σ H' => H' = H1 ∧ (∃ v3, σ = [some (.ref x), some (.ref D), v3]) ∧ ∀ j, j < i → Jug.landing p j = (p.getD j []).length) ⟨rfl, ⟨none, rfl⟩, fun j hj => absurd hj (by omega)⟩ ?_ ?_
    · rintro i σ H' hi ⟨rfl, ⟨v3, rfl⟩, hj⟩
      obtain ⟨y, b, e1, e2, e3, e4⟩ := PatAt.at (x := x) hP hi
      have hat : atI ws (0 + (i : Int)) = some (V.ref y) := at_of (j := i) (by omega) e1
      have hat2 : atI (natsV (Jm.cnt p.length (Jm.landKs p p.length))) (0 + (i : Int)) = some (V.int ((Jm.landKs p p.length).count i : Nat)) := at_of (j := i) (by omega) (natsV_at (Jm.cnt_at _ hi))
      rw [← Jm.landing_count] at hat2
      refine ⟨_, rfl, _, rfl, D, _, _, _, rfl, rfl, SqL.of hD, hat2, _, rfl, _, rfl, x, _, _, _, rfl, rfl, SqL.of (s1 _ _ hx), hat, _, _, rfl, .inl (SqL.of (s1 _ _ e4)), _, _, rfl, rfl, _, rfl, ite2 (fun hc => ?_) (fun hc => ?_)⟩
      · refine ⟨_, rfl, ?_⟩
        have hne : Jug.landing p i ≠ (p.getD i []).length := fun e => by
          rw [e3] at e
          have e : ((Jug.landing p i : Nat) : Int) = ((natsV b).length : Nat) := by rw [natsV_length, e]
          simp [e] at hc
        have hcl : Jug.clash p = some i := by
          unfold Jug.clash
          rw [List.find?_range_eq_some]
          refine ⟨by simpa using hne, by simpa using hi, fun j hj' => by simpa using hj j hj'⟩
        have := (k H' s1).1 i hcl
        rw [Int.zero_add]
        exact this
      · refine ⟨rfl, ⟨_, rfl⟩, fun j hj' => ?_⟩
        by_cases e : j = i
        · subst e
          have hc : ¬ ((!decide (((Jug.landing p j : Nat) : Int) = ((natsV b).length : Nat))) = true) := hc
          rw [e3]
          rw [natsV_length] at hc
          simp at hc
          omega
        · exact hj j (by omega)
    · rintro σ H' ⟨rfl, ⟨v3, rfl⟩, hj⟩
      have hcl : Jug.clash p = none := by
        unfold Jug.clash
        rw [List.find?_range_eq_none]
        intro j hj'
        simpa using hj j hj'
      exact ⟨_, rfl, (k H' s1).2 hcl⟩
end
end Jp

set_option Elab.async false
set_option linter.all false
set_option maxRecDepth 100000
set_option maxHeartbeats 4000000
namespace Jp
open PySem PySem.Spec PyProof.Rows L2
section
variable {P : Program} {w : World} {K : PySem.W.Frag} {mg : Str → Option Value} {base : Heap}
def sp_pattern_refusal (K : PySem.W.Frag) : Sp := fun vs H Q _ => ∃ (a : Addr) (t : List Int), vs = [.ref a] ∧ SqL K H a (t.map V.int) ∧ Jm.Ok8 t ∧ t.length ≤ 64 ∧
  ∀ v H', Same H H' → IntsAt H' v (Jm.refusal t) → Q v H'
theorem sc_pattern_refusal : FnScope ["t", "fault", "wrong"] ["t"] (defScope s_pattern_refusal) := ⟨rfl, rfl, rfl, by decide +kernel, rfl, by decide +kernel, by decide +kernel⟩
theorem ok_pattern_refusal {f : Addr} {fd : FuncData} (F : Fun K "pattern_refusal" "pattern_refusal" s_pattern_refusal f fd) (T : Txt mg) (d_text_fault : Def P w K mg base "text_fault" ["t"] 4 (sp_text_fault K)) (d_wrong_beat : Def P w K mg base "wrong_beat" ["beats"] 2 (sp_wrong_beat K)) (d_read_beats : Def P w K mg base "read_beats" ["t"] 2 (sp_read_beats K)) : FnOk P w K mg base CX0 5 f fd ["t"] (sp_pattern_refusal K) := by
  have sc := sc_pattern_refusal
  refine F.ok sc (fun vs H Q E h => ?_) (fun cdv A outer s H vs Q E hr h => ?_)
  · obtain ⟨a, t, rfl, _⟩ := h
    rfl
  · obtain ⟨a, t, rfl, hS, h8, h64, k⟩ := h
    refine ⟨_, (pss_cons (ps_set (i := 1) sc.nd rfl (by first | exact Or.inl rfl | exact Or.inr rfl) (pcall d_text_fault (hr.mono (by decide)) (pa_cons (pv 0) pa_nil)))
      (pss_cons (ps_if (pt_cmp (pc_ge (pv 1) pe_int)) (pss_one (ps_ret (pe_lst (pa_cons (pe_un un_neg pe_int) (pa_cons (pv 1) pa_nil))))) pss_nil)
      (pss_cons (ps_set (i := 2) sc.nd rfl (by first | exact Or.inl rfl | exact Or.inr rfl) (pcall d_wrong_beat (hr.mono (by decide)) (pa_cons (pcall d_read_beats (hr.mono (by decide)) (pa_cons (pv 0) pa_nil)) pa_nil)))
      (pss_cons (ps_if (pt_cmp (pc_ge (pv 2) pe_int)) (pss_one (ps_ret (pe_lst (pa_cons (pe_un un_neg pe_int) (pa_cons (pv 2) pa_nil))))) pss_nil)
      (pss_one (ps_ret (pe_lst pa_nil))))))), ?_⟩
    refine ⟨_, rfl, a, t, rfl, hS, h8, h64, fun e he => ?_, fun p hp => ?_⟩
    · refine ⟨_, rfl, _, _, rfl, rfl, _, rfl, ite2 (fun hc => ?_) (fun hc => ?_)⟩
      · refine ⟨_, rfl, _, rfl, by show 2 ≤ sizeLine; decide, fun z hz => k _ _ ((Same.refl H).new hz) ⟨z, rfl, ?_⟩⟩
        rw [upd_same]
        unfold Jm.refusal
        rw [he]
        rfl
      · exact absurd (decide_eq_true (show (0 : Int) ≤ (e : Nat) by omega)) hc
    · refine ⟨_, rfl, _, _, rfl, rfl, _, rfl, ite2 (fun hc => ?_) (fun hc => ?_)⟩
      · have hc := of_decide_eq_true hc
        omega
      · obtain ⟨hG, g1, g2⟩ := Jm.read_good h8 hp
        refine ⟨_, rfl, a, t, p, rfl, hS, h8, h64, hp, fun v H1 s1 hPat => ⟨v, p, rfl, hPat, hG, g1, g2, fun H2 s2 => ⟨fun c hcl => ?_, fun hcl => ?_⟩⟩⟩
        · refine ⟨_, rfl, _, _, rfl, rfl, _, rfl, ite2 (fun hd => ?_) (fun hd => ?_)⟩
          · refine ⟨_, rfl, _, rfl, by show 2 ≤ sizeLine; decide, fun z hz => k _ _ ((s1.trans s2).new hz) ⟨z, rfl, ?_⟩⟩
            rw [upd_same]
            unfold Jm.refusal
            rw [hp]
            dsimp only
            rw [hcl]
            rfl
          · exact absurd (decide_eq_true (show (0 : Int) ≤ (c : Nat) by omega)) hd
        · refine ⟨_, rfl, _, _, rfl, rfl, _, rfl, ite2 (fun hd => ?_) (fun hd => ?_)⟩
          · have hd := of_decide_eq_true hd
            omega
          · refine ⟨Nat.zero_le _, fun z hz => k _ _ ((s1.trans s2).new hz) ⟨z, rfl, ?_⟩⟩
            rw [upd_same]
            unfold Jm.refusal
            rw [hp]
            dsimp only
            rw [hcl]
            rfl
end
end Jp

set_option Elab.async false
set_option linter.all false
set_option maxRecDepth 100000
set_option maxHeartbeats 4000000
namespace Jp
open PySem PySem.Spec PyProof.Rows L2
section
variable {P : Program} {w : World} {K : PySem.W.Frag} {mg : Str → Option Value} {base : Heap}
def sp_state_before (K : PySem.W.Frag) : Sp := fun vs H Q _ => ∃ (v : V) (p : Jug.Pattern) (m : Nat), vs = [v, .int (m : Nat)] ∧ PatAt H v p ∧ (∀ b ∈ p, Jm.GoodBeat b) ∧ 1 ≤ p.length ∧ p.length ≤ 16 ∧
  ∀ (x : Addr) H', Same H H' → H x = none → H' x = some (.tup (natsV (Jug.airAt p (m % p.length)))) → Q (.ref x) H'
theorem sc_state_before : FnScope ["beats", "moment", "state", "ago", "height"] ["beats", "moment"] (defScope s_state_before) := ⟨rfl, rfl, rfl, by decide +kernel, rfl, by decide +kernel, by decide +kernel⟩
theorem ok_state_before {f : Addr} {fd : FuncData} (F : Fun K "state_before" "state_before" s_state_before f fd) (T : Txt mg) : FnOk P w K mg base CX0 1 f fd ["beats", "moment"] (sp_state_before K) := by
  have sc := sc_state_before
  refine F.ok sc (fun vs H Q E h => ?_) (fun cdv A outer s H vs Q E hr h => ?_)
  · obtain ⟨v, p, m, rfl, _⟩ := h
    rfl
  · obtain ⟨v, p, m, rfl, ⟨x, ws, rfl, hx, hP⟩, hG, hp1, hp16, k⟩ := h
    refine ⟨_, (pss_cons (ps_set (i := 2) sc.nd rfl (by first | exact Or.inl rfl | exact Or.inr rfl) (pe_op op_rep (pe_lst (pa_cons pe_int pa_nil)) (pgl T.c_SPAN)))
      (pss_cons (ps_for PassesOwn.never rfl (pi_range2 rfl T.b_range (pa_cons pe_int (pa_cons (pe_op op_add (pgl T.c_SPAN) pe_int) pa_nil))) (pg_name (i := 3) sc.nd rfl (by first | exact Or.inl rfl | exact Or.inr rfl))
      (pss_one (ps_for PassesOwn.never rfl (pi_list (pe_ix ix_list (pv 0) (pe_op op_mod (pe_op op_sub (pv 1) (pv 3)) (pe_callB call_len_seq (by rfl) T.b_len PySem.boot_len (pa_cons (pv 0) pa_nil))) (fun _ _ => rfl))) (pg_name (i := 4) sc.nd rfl (by first | exact Or.inl rfl | exact Or.inr rfl))
      (pss_one (ps_if (pt_cmp (pc_ge (pv 4) (pv 3))) (pss_one (ps_augS (pv 2) (pe_op op_sub (pv 4) (pv 3)) get_list pe_int ip_add set_list)) pss_nil)))))
      (pss_one (ps_ret (pe_callTy call_tuple_of (by rfl) T.b_tuple PyProof.Rows.boot_tuple (pa_cons (pv 2) pa_nil)))))), ?_⟩
    have hl := hP.length
    refine ⟨by show 1 ≤ sizeLine; decide, fun z hz => ⟨z, _, _, rfl, rfl, upd_same, by omega, by omega, by decide, fun D hD => ?_⟩⟩
    have e15 : (15 : Int).toNat = 15 := rfl
    rw [e15, rep_zero]
    have s0 : Same H (upd H z (.lst [.int 0])) := (Same.refl H).new hz
    have hDH : H D = none := s0.free hD
    have s1 := s0.new (o := .lst (natsV (Jm.cnt 15 []))) hD
    refine ⟨_, _, rfl, rfl, 1, 15 + 1, rfl, ⟨by omega, by omega, by omega, by omega⟩, ?_⟩
    refine for_range (lo := 1) (n := 15) (fun i σ H' => Same H H' ∧ ∃ v3 v4, σ = [some (.ref x), some (.int (m : Nat)), some (.ref D), v3, v4] ∧ H' D = some (.lst (natsV (Jm.cnt 15 (Jm.airKs p (m % p.length) i))))) ⟨s1, none, none, rfl, upd_same⟩ ?_ ?_
    · rintro i σ H' hi ⟨s2, v3, v4, rfl, hDv⟩
      have hbi := Jm.backIx_lt hp1 (m % p.length) i
      obtain ⟨y, b, e1, e2, e3, e4⟩ := PatAt.at (x := x) hP hbi
      have hat : atI ws ((((m : Nat) : Int) - (1 + (i : Int))) % ((ws.length : Nat) : Int)) = some (V.ref y) := at_of (j := Jm.backIx p (m % p.length) i) (by rw [hl]; exact Jm.backIx_int hp1 (by omega)) e1
      obtain ⟨g1, g2, g3⟩ := hG b (List.mem_of_getElem? e2)
      refine ⟨_, rfl, _, rfl, _, rfl, _, _, rfl, rfl, _, rfl, _, _, rfl, .inl (SqL.of (s2 _ _ hx)), _, _, rfl, rfl, by show (0 : Int) < (ws.length : Nat); omega, x, _, _, _, rfl, rfl, SqL.of (s2 _ _ hx), hat, y, rfl, ⟨_, SqL.of (s2 _ _ e4)⟩, ?_⟩
      refine for_list (xs := natsV b) (fun j σ H'' => Same H H'' ∧ ∃ v4, σ = [some (.ref x), some (.int (m : Nat)), some (.ref D), some (.int (1 + (i : Int))), v4] ∧ H'' D = some (.lst (natsV (Jm.cnt 15 (Jm.airKs p (m % p.length) i ++ ((b.take j).filter fun h => decide (i + 1 ≤ h)).map fun h => h - (i + 1))))))
        ⟨s2, v4, rfl, by rw [List.take_zero, List.filter_nil, List.map_nil, List.append_nil]; exact hDv⟩ (fun j σ H'' _ ⟨s3, _⟩ => SqL.of (s3 _ _ e4)) ?_ ?_
      · rintro j w σ H'' hj ⟨s3, v5, rfl, hDw⟩
        obtain ⟨n, en', rfl⟩ := natsV_get hj
        have hn := g2 n (List.mem_of_getElem? en')
        refine ⟨_, rfl, _, rfl, _, _, rfl, rfl, _, rfl, ite2 (fun hc => ?_) (fun hc => ?_)⟩
        · have hc : (1 + (i : Int)) ≤ (n : Int) := of_decide_eq_true hc
          have hlt : n - (i + 1) < 15 := by omega
          have em : ((n : Nat) : Int) - (1 + (i : Int)) = ((n - (i + 1) : Nat) : Int) := by omega
          refine ⟨_, rfl, _, rfl, _, rfl, _, _, rfl, rfl, ?_⟩
          refine ⟨D, _, n - (i + 1), _, rfl, congrArg V.int em, SqL.of hDw, natsV_at (Jm.cnt_at _ hlt), _, _, rfl, rfl, D, _, _, n - (i + 1), rfl, congrArg V.int em, hDw, ?_, ?_⟩
          · rw [natsV_length, Jm.cnt_length]
            exact ixN_nat hlt
          · refine ⟨s3.own hDH, _, rfl, ?_⟩
            rw [upd_same, bump_ok hlt, take_snoc en', List.filter_append, List.filter_cons, if_pos (decide_eq_true (by omega)), List.map_append, ← List.append_assoc]
            rfl
        · have hc : ¬ (1 + (i : Int)) ≤ (n : Int) := fun q => hc (decide_eq_true q)
          refine ⟨s3, _, rfl, ?_⟩
          rw [take_snoc en', List.filter_append, List.filter_cons, if_neg (by simp; omega), List.filter_nil, List.append_nil]
          exact hDw
      · rintro σ H'' ⟨s3, v5, rfl, hDw⟩
        refine ⟨s3, _, _, rfl, ?_⟩
        rw [natsV_length, List.take_length, ← e3] at hDw
        rw [Jm.airKs_succ]
        exact hDw
    · rintro σ H' ⟨s2, v3, v4, rfl, hDv⟩
      refine ⟨_, rfl, D, _, rfl, .inl ⟨SqL.of hDv, fun l hl' => ?_⟩⟩
      refine k l _ (s2.new hl') (s2.free hl') ?_
      rw [upd_same, Jm.airAt_cnt]
end
end Jp

set_option Elab.async false
set_option linter.all false
set_option maxRecDepth 100000
set_option maxHeartbeats 4000000
namespace Jp
open PySem PySem.Spec PyProof.Rows L2
section
variable {P : Program} {w : World} {K : PySem.W.Frag} {mg : Str → Option Value} {base : Heap}
def sp_is_state (K : PySem.W.Frag) : Sp := fun vs H Q _ => ∃ (a : Addr) (s : List Int), vs = [.ref a] ∧ SqL K H a (s.map V.int) ∧ s.length ≤ 64 ∧
  ∀ H', Same H H' → Q (.bl (Jm.isState s)) H'
theorem sc_is_state : FnScope ["s", "number"] ["s"] (defScope s_is_state) := ⟨rfl, rfl, rfl, by decide +kernel, rfl, by decide +kernel, by decide +kernel⟩
theorem ok_is_state {f : Addr} {fd : FuncData} (F : Fun K "is_state" "is_state" s_is_state f fd) (T : Txt mg) : FnOk P w K mg base CX0 1 f fd ["s"] (sp_is_state K) := by
  have sc := sc_is_state
  refine F.ok sc (fun vs H Q E h => ?_) (fun cdv A outer s H vs Q E hr h => ?_)
  · obtain ⟨a, t, rfl, _⟩ := h
    rfl
  · obtain ⟨a, t, rfl, hS, h64, k⟩ := h
    refine ⟨_, (pss_one (ps_ret (pe_and (pe_cmp (pc_le (pe_callB call_len_seq (by rfl) T.b_len PySem.boot_len (pa_cons (pv 0) pa_nil)) (pgl T.c_SPAN))) (pe_one (pe_callB (cr_all rfl) (by rfl) T.b_all PyProof.Rows.boot_all (pa_cons (pe_lc rfl sc.nd (pi_list (pv 0)) (own := [("number", 1)]) (blkOk_by (N := ["s", "number"]) (sc := defScope s_is_state) (by decide +kernel)) (fun _ _ _ _ _ => pg_name (i := 1) sc.nd rfl (by first | exact Or.inl rfl | exact Or.inr rfl)) (fun _ _ _ _ _ => pts_nil) (fun _ _ _ _ _ => (pe_cmp (pc_le (pv 1) (pgl T.c_MOST_THROWS))))) pa_nil)))))), ?_⟩
    have hl : (t.map V.int).length = t.length := by simp
    unfold Jm.isState at k
    refine ⟨_, rfl, _, _, rfl, .inl hS, _, _, rfl, rfl, _, rfl, ite2 (fun hc => ?_) (fun hc => ?_)⟩
    · have hc := of_decide_eq_true hc
      refine ⟨_, rfl, a, rfl, ⟨_, hS⟩, fun D hD => lc_mapL (le3 3) hS hD (by rw [hl]; exact Nat.le_of_lt (small1000 (by omega))) (fun _ => rfl) ?_ ?_⟩
      · intro i v H3 Qk hv s3 kk
        obtain ⟨z, ez, rfl⟩ := map_get hv
        exact ⟨_, rfl, _, _, rfl, rfl, kk _ (Same.refl _)⟩
      intro H2 s2 hDv
      rw [le3_map] at hDv
      refine ⟨D, _, rfl, SqL.of hDv, ?_⟩
      have := k H2 s2
      rw [decide_eq_true (show t.length ≤ 15 by omega), Bool.true_and] at this
      rw [List.all_map]
      exact this
    · have hc : ¬ _ := fun q => hc (decide_eq_true q)
      have := k H (Same.refl H)
      rw [decide_eq_false (show ¬ t.length ≤ 15 by omega), Bool.false_and] at this
      exact this
end
end Jp

set_option Elab.async false
set_option linter.all false
set_option maxRecDepth 100000
set_option maxHeartbeats 4000000
namespace Jp
open PySem PySem.Spec PyProof.Rows L2
section
variable {P : Program} {w : World} {K : PySem.W.Frag} {mg : Str → Option Value} {base : Heap}
def sp_whole_state (K : PySem.W.Frag) : Sp := fun vs H Q _ => ∃ (a : Addr) (l : List Nat), vs = [.ref a] ∧ SqL K H a (natsV l) ∧ l.length ≤ 15 ∧
  ∀ (x : Addr) H', Same H H' → H' x = some (.tup (natsV (Jm.whole l))) → Q (.ref x) H'
theorem sc_whole_state : FnScope ["s"] ["s"] (defScope s_whole_state) := ⟨rfl, rfl, rfl, by decide +kernel, rfl, by decide +kernel, by decide +kernel⟩
theorem ok_whole_state {f : Addr} {fd : FuncData} (F : Fun K "whole_state" "whole_state" s_whole_state f fd) (T : Txt mg) : FnOk P w K mg base CX0 1 f fd ["s"] (sp_whole_state K) := by
  have sc := sc_whole_state
  refine F.ok sc (fun vs H Q E h => ?_) (fun cdv A outer s H vs Q E hr h => ?_)
  · obtain ⟨a, l, rfl, _⟩ := h
    rfl
  · obtain ⟨a, l, rfl, hS, h15, k⟩ := h
    refine ⟨_, (pss_one (ps_ret (pe_op op_catA (pe_callTy call_tuple_of (by rfl) T.b_tuple PyProof.Rows.boot_tuple (pa_cons (pv 0) pa_nil)) (pe_op op_repT (pe_tup (pa_cons pe_int pa_nil)) (pe_op op_sub (pgl T.c_SPAN) (pe_callB call_len_seq (by rfl) T.b_len PySem.boot_len (pa_cons (pv 0) pa_nil))))))), ?_⟩
    have hl := natsV_length l
    refine ⟨_, rfl, a, _, rfl, .inl ⟨hS, fun x hx => ?_⟩⟩
    have s1 : Same H (upd H x (.tup (natsV l))) := (Same.refl H).new hx
    refine ⟨by show 1 ≤ sizeLine; decide, fun z hz => ?_⟩
    have s2 := s1.new (o := .tup [.int 0]) hz
    refine ⟨_, rfl, _, _, rfl, .inl (s2.seq hS), _, _, rfl, rfl, ?_⟩
    refine ⟨z, _, _, rfl, rfl, upd_same, by simp, by omega, by omega, ?_, fun y H3 s3 hy => ?_⟩
    · show 1 * (15 - ((natsV l).length : Int)).toNat ≤ sizeLine
      rw [Nat.one_mul]
      exact Nat.le_of_lt (small1000 (by omega))
    have ek : (15 - ((natsV l).length : Int)).toNat = 15 - l.length := by omega
    rw [ek, rep_zeros] at hy
    have nz : x ≠ z := ne_of_none (upd_same (H := H) (a := x) (o := .tup (natsV l))) hz
    refine ⟨x, y, _, _, rfl, rfl, s3 _ _ (by rw [upd_ne nz]; exact upd_same), hy, ?_, fun w H4 s4 hw => ?_⟩
    · rw [natsV_length, natsV_length, List.length_replicate]
      exact Nat.le_of_lt (small1000 (by omega))
    · refine k w H4 ((s2.trans s3).trans s4) ?_
      rw [hw, ← natsV_append]
      rfl
end
end Jp

set_option Elab.async false
set_option linter.all false
set_option maxRecDepth 100000
set_option maxHeartbeats 4000000
namespace Jp
open PySem PySem.Spec PyProof.Rows L2
section
variable {P : Program} {w : World} {K : PySem.W.Frag} {mg : Str → Option Value} {base : Heap}
def sp_state_after (K : PySem.W.Frag) : Sp := fun vs H Q _ => ∃ (x : Addr) (v : V) (st : List Nat) (b : Jug.Beat), vs = [.ref x, v] ∧ H x = some (.tup (natsV st)) ∧ st.length = 15 ∧ BeatAt H v b ∧ (∀ h ∈ b, 1 ≤ h ∧ h ≤ 15) ∧
  ∀ (y : Addr) H', Same H H' → H y = none → H' y = some (.tup (natsV (Jm.nextState st b))) → Q (.ref y) H'
theorem sc_state_after : FnScope ["state", "beat", "moved", "height"] ["state", "beat"] (defScope s_state_after) := ⟨rfl, rfl, rfl, by decide +kernel, rfl, by decide +kernel, by decide +kernel⟩
theorem ok_state_after {f : Addr} {fd : FuncData} (F : Fun K "state_after" "state_after" s_state_after f fd) (T : Txt mg) : FnOk P w K mg base CX0 1 f fd ["state", "beat"] (sp_state_after K) := by
  have sc := sc_state_after
  refine F.ok sc (fun vs H Q E h => ?_) (fun cdv A outer s H vs Q E hr h => ?_)
  · obtain ⟨x, v, st, b, rfl, _⟩ := h
    rfl
  · obtain ⟨x, v, st, b, rfl, hx, h15, ⟨y, rfl, hy⟩, hb, k⟩ := h
    refine ⟨_, (pss_cons (ps_set (i := 2) sc.nd rfl (by first | exact Or.inl rfl | exact Or.inr rfl) (pe_op op_cat (pe_callTy call_list_of (by rfl) T.b_list PyProof.Rows.boot_list (pa_cons (pe_slice sl_tup (pv 0) (po_some pe_int) po_none) pa_nil)) (pe_lst (pa_cons pe_int pa_nil))))
      (pss_cons (ps_for PassesOwn.never rfl (pi_list (pv 1)) (pg_name (i := 3) sc.nd rfl (by first | exact Or.inl rfl | exact Or.inr rfl))
      (pss_one (ps_augS (pv 2) (pe_op op_sub (pv 3) pe_int) get_list pe_int ip_add set_list)))
      (pss_one (ps_ret (pe_callTy call_tuple_of (by rfl) T.b_tuple PyProof.Rows.boot_tuple (pa_cons (pv 2) pa_nil)))))), ?_⟩
    have hl := natsV_length st
    refine ⟨_, rfl, _, rfl, x, _, rfl, SqT.of hx, ?_, fun c hc => ?_⟩
    · rintro ⟨q1, _⟩
      have e1 : (1 : Int) = ((1 : Nat) : Int) := rfl
      rw [e1, HT.sIx_nat] at q1
      omega
    have e1 : cutV (natsV st) (some (1 : Int)) none = natsV (st.drop 1) := by
      have := cut_drop (xs := natsV st) (k := 1) (by omega)
      rw [show ((1 : Nat) : Int) = 1 from rfl] at this
      rw [this]
      unfold natsV
      rw [List.map_drop]
    rw [e1]
    have s1 : Same H (upd H c (.tup (natsV (st.drop 1)))) := (Same.refl H).new hc
    refine ⟨c, _, rfl, .inr (SqT.of upd_same), fun d hd => ?_⟩
    have s2 := s1.new (o := .lst (natsV (st.drop 1))) hd
    refine ⟨by show 1 ≤ sizeLine; decide, fun z hz => ?_⟩
    have s3 := s2.new (o := .lst [.int 0]) hz
    have ndz : d ≠ z := ne_of_none (upd_same (a := d)) hz
    refine ⟨d, z, _, _, rfl, rfl, by rw [upd_ne ndz]; exact upd_same, upd_same, ?_, fun D hD => ?_⟩
    · rw [natsV_length, List.length_drop]
      exact Nat.le_of_lt (small1000 (by simp; omega))
    have em : natsV (st.drop 1) ++ [V.int 0] = natsV (Jm.cntB 15 (fun k => st.getD (k + 1) 0) []) := by
      rw [← Jm.moved_cntB h15, natsV_append]
      rfl
    rw [em]
    have hDH : H D = none := s3.free hD
    have s4 := s3.new (o := .lst (natsV (Jm.cntB 15 (fun k => st.getD (k + 1) 0) []))) hD
    refine ⟨_, rfl, y, rfl, ⟨_, SqL.of (s4 _ _ hy)⟩, ?_⟩
    refine for_list (xs := natsV b) (fun j σ H' => Same H H' ∧ (∃ v3, σ = [some (.ref x), some (.ref y), some (.ref D), v3]) ∧ H' D = some (.lst (natsV (Jm.cntB 15 (fun k => st.getD (k + 1) 0) ((b.take j).map fun h => h - 1)))))
      ⟨s4, ⟨none, rfl⟩, upd_same⟩ (fun j σ H' _ ⟨s5, _⟩ => SqL.of (s5 _ _ hy)) ?_ ?_
    · rintro j w σ H' hj ⟨s5, ⟨v3, rfl⟩, hDw⟩
      obtain ⟨n, en, rfl⟩ := natsV_get hj
      have hn := hb n (List.mem_of_getElem? en)
      have hlt : n - 1 < 15 := by omega
      have ei : ((n : Nat) : Int) - 1 = ((n - 1 : Nat) : Int) := by omega
      refine ⟨_, rfl, _, rfl, _, _, rfl, rfl, ?_⟩
      refine ⟨D, _, n - 1, _, rfl, congrArg V.int ei, SqL.of hDw, natsV_at (Jm.cntB_at _ _ hlt), _, _, rfl, rfl, D, _, _, n - 1, rfl, congrArg V.int ei, hDw, ?_, ?_⟩
      · rw [natsV_length, Jm.cntB_length]
        exact ixN_nat hlt
      · refine ⟨s5.own hDH, ⟨_, rfl⟩, ?_⟩
        rw [upd_same]
        have eb : (natsV (Jm.cntB 15 (fun k => st.getD (k + 1) 0) ((b.take j).map fun h => h - 1))).set (n - 1) (V.int (((st.getD (n - 1 + 1) 0 + ((b.take j).map fun h => h - 1).count (n - 1) : Nat) : Int) + 1)) = natsV (Jm.cntB 15 (fun k => st.getD (k + 1) 0) ((b.take (j + 1)).map fun h => h - 1)) := by
          have ec : (((st.getD (n - 1 + 1) 0 + ((b.take j).map fun h => h - 1).count (n - 1) : Nat) : Int) + 1) = ((st.getD (n - 1 + 1) 0 + ((b.take j).map fun h => h - 1).count (n - 1) + 1 : Nat) : Int) := by omega
          rw [ec, natsV_set, Jm.cntB_bump _ _ hlt, take_snoc en, List.map_append]
          rfl
        exact congrArg (fun l => some (HO.lst l)) eb
    · rintro σ H' ⟨s5, ⟨v3, rfl⟩, hDw⟩
      rw [natsV_length, List.take_length] at hDw
      refine ⟨_, rfl, D, _, rfl, .inl ⟨SqL.of hDw, fun l hl' => k l _ (s5.new hl') (s5.free hl') ?_⟩⟩
      rw [upd_same]
      rfl
end
end Jp

set_option Elab.async false
set_option linter.all false
set_option maxRecDepth 100000
set_option maxHeartbeats 4000000
namespace Jp
open PySem PySem.Spec PyProof.Rows L2
section
variable {P : Program} {w : World} {K : PySem.W.Frag} {mg : Str → Option Value} {base : Heap}
def sp_beats_up_to (K : PySem.W.Frag) : Sp := fun vs H Q _ => ∃ (h n : Nat), vs = [.int (h : Nat), .int (n : Nat)] ∧ h ≤ 8 ∧ n ≤ 2 ∧
  ∀ (x : Addr) (vs : List V) H', Same H H' → H x = none → H' x = some (.lst vs) → Paired (fun v b => ∃ y, v = .ref y ∧ H y = none ∧ H' y = some (.lst (natsV b))) vs (Jug.rowsOf n h) → Q (.ref x) H'
theorem sc_beats_up_to : FnScope ["high", "throws", "beats", "done", "longer", "beat", "highest", "height"] ["high", "throws"] (defScope s_beats_up_to) := ⟨rfl, rfl, rfl, by decide +kernel, rfl, by decide +kernel, by decide +kernel⟩
theorem ok_beats_up_to {f : Addr} {fd : FuncData} (F : Fun K "beats_up_to" "beats_up_to" s_beats_up_to f fd) (T : Txt mg) : FnOk P w K mg base CX0 1 f fd ["high", "throws"] (sp_beats_up_to K) := by
  have sc := sc_beats_up_to
  refine F.ok sc (fun vs H Q E h => ?_) (fun cdv A outer s H vs Q E hr h => ?_)
  · obtain ⟨m, n, rfl, _⟩ := h
    rfl
  · obtain ⟨m, n, rfl, hm, hn, k⟩ := h
    refine ⟨_, (pss_cons (ps_set (i := 2) sc.nd rfl (by first | exact Or.inl rfl | exact Or.inr rfl) (pe_lst (pa_cons (pe_lst pa_nil) pa_nil)))
      (pss_cons (ps_for PassesOwn.never rfl (pi_range1 rfl T.b_range (pa_cons (pv 1) pa_nil)) (pg_name (i := 3) sc.nd rfl (by first | exact Or.inl rfl | exact Or.inr rfl))
      (pss_cons (ps_set (i := 4) sc.nd rfl (by first | exact Or.inl rfl | exact Or.inr rfl) (pe_lst pa_nil))
      (pss_cons (ps_for PassesOwn.never rfl (pi_list (pv 2)) (pg_name (i := 5) sc.nd rfl (by first | exact Or.inl rfl | exact Or.inr rfl))
      (pss_cons (ps_set (i := 6) sc.nd rfl (by first | exact Or.inl rfl | exact Or.inr rfl) (pe_ifExp (pt_cmp (pc_gt (pe_callB call_len_seq (by rfl) T.b_len PySem.boot_len (pa_cons (pv 5) pa_nil)) pe_int)) (pe_ix ix_list (pv 5) (pe_un un_neg pe_int) (fun _ _ => rfl)) (pv 0)))
      (pss_one (ps_expr (pe_bm PySem.F.plainAttrs_list PySem.F.slot_list_extend PySem.F.type_list_extend mt_extend (pv 4) (pa_cons (pe_lc rfl sc.nd (pi_range2 rfl T.b_range (pa_cons pe_int (pa_cons (pe_op op_add (pv 6) pe_int) pa_nil))) (own := [("height", 7)]) (blkOk_by (N := ["high", "throws", "beats", "done", "longer", "beat", "highest", "height"]) (sc := defScope s_beats_up_to) (by decide +kernel)) (fun _ _ _ _ _ => pg_name (i := 7) sc.nd rfl (by first | exact Or.inl rfl | exact Or.inr rfl)) (fun _ _ _ _ _ => pts_nil) (fun _ _ _ _ _ => (pe_op op_cat (pv 5) (pe_lst (pa_cons (pv 7) pa_nil))))) pa_nil))))))
      (pss_one (ps_set (i := 2) sc.nd rfl (by first | exact Or.inl rfl | exact Or.inr rfl) (pv 4))))))
      (pss_one (ps_ret (pv 2))))), ?_⟩
    -- beats = [[]]
    refine ⟨Nat.zero_le _, fun e0 he0 => ⟨by show 1 ≤ sizeLine; decide, fun x0 hx0 => ?_⟩⟩
    have s0 : Same H (upd H e0 (.lst [])) := (Same.refl H).new he0
    have ne0 : e0 ≠ x0 := ne_of_none (upd_same (a := e0)) hx0
    -- for done in range(throws)
    refine ⟨_, rfl, _, rfl, by omega, by omega, ?_⟩
    have en : ((n : Nat) : Int).toNat = n := by omega
    rw [en]
    have small : ∀ i, i ≤ 2 → (Jm.ups m i [[]]).length ≤ 64 := fun i hi => by
      rw [Jm.ups_start]
      have h1 := Jm.rows_len i m
      have h2 : m ^ i ≤ 8 ^ i := Nat.pow_le_pow_left hm i
      have h3 : 8 ^ i ≤ 8 ^ 2 := Nat.pow_le_pow_right (by decide) hi
      omega
    have rowsLen : ∀ i, ∀ b ∈ Jm.ups m i [[]], b.length = i ∧ ∀ x ∈ b, 1 ≤ x ∧ x ≤ m := fun i b hb => by
      rw [Jm.ups_start] at hb
      exact Jm.rows_good i m b hb
    refine for_range (fun i σ H' => Same H H' ∧ ∃ (x : Addr) (vs : List V) (v3 v4 v5 v6 v7 : Option V), σ = [some (.int (m : Nat)), some (.int (n : Nat)), some (.ref x), v3, v4, v5, v6, v7] ∧ H x = none ∧ H' x = some (.lst vs) ∧
      Paired (fun v b => ∃ y, v = .ref y ∧ H y = none ∧ H' y = some (.lst (natsV b))) vs (Jm.ups m i [[]]))
      ⟨s0.new hx0, x0, _, none, none, none, none, none, rfl, s0.free hx0, upd_same, .cons ⟨e0, rfl, he0, by rw [upd_ne ne0, upd_same]; rfl⟩ .nil⟩ ?_ ?_
    · rintro i σ H1 hi ⟨s1, x, vs, v3, v4, v5, v6, v7, rfl, hx0', hx, hP⟩
      -- longer = []
      refine ⟨Nat.zero_le _, fun D hD => ?_⟩
      have hl := hP.length
      have hsm := small i (by omega)
      have sD : Same H1 (upd H1 D (.lst [])) := (Same.refl H1).new hD
      -- for beat in beats
      refine ⟨_, rfl, x, rfl, ⟨_, SqL.of (sD _ _ hx)⟩, ?_⟩
      refine for_list (xs := vs) (fun j σ H2 => Same H1 H2 ∧ ∃ (ls : List V) (v5 v6 v7 : Option V), σ = [some (.int (m : Nat)), some (.int (n : Nat)), some (.ref x), some (.int (0 + (i : Int))), some (.ref D), v5, v6, v7] ∧ H2 D = some (.lst ls) ∧
        Paired (NewB H1 H2 D) ls (Jm.grow m ((Jm.ups m i [[]]).take j)) ∧ ls.length ≤ 8 * j)
        ⟨sD, [], v5, v6, v7, rfl, upd_same, .nil, by simp⟩ (fun j σ H2 _ ⟨s2, _⟩ => SqL.of (s2 _ _ hx)) ?_ ?_
      · rintro j w σ H2 hj ⟨s2, ls, v5, v6, v7, rfl, hDv, hL, hll⟩
        obtain ⟨b, e2, y, rfl, hy0, hy⟩ := Paired.getL hP hj
        have hjl := (List.getElem?_eq_some_iff.mp hj).1
        obtain ⟨b1, b2⟩ := rowsLen i b (List.mem_of_getElem? e2)
        have hy2 := s2 _ _ hy
        have hbl := natsV_length b
        have topv : Jm.top m b ≤ 8 := by
          unfold Jm.top
          cases hlast : b.getLast? with
          | none => exact hm
          | some z =>
            have := b2 z (List.mem_of_getLast? hlast)
            show z ≤ 8
            omega
        -- highest
        refine asg_of (V.int (Jm.top m b : Nat)) (fun Q hq => ?_) ?_
        · refine ⟨_, rfl, _, _, rfl, .inl (SqL.of hy2), _, _, rfl, rfl, _, rfl, ite2 (fun hc => ?_) (fun hc => ?_)⟩
          · have hc : (0 : Int) < ((natsV b).length : Nat) := of_decide_eq_true hc
            obtain ⟨z, hz⟩ : ∃ z, b.getLast? = some z := ⟨_, List.getLast?_eq_some_getLast (by intro e; have z0 : (natsV b).length = 0 := (by rw [e]; rfl); omega)⟩
            have htop : Jm.top m b = z := by unfold Jm.top; rw [hz]; rfl
            refine ⟨_, rfl, _, rfl, y, _, _, _, rfl, rfl, SqL.of hy2, at_last (natsV_last hz), ?_⟩
            rw [← htop]
            exact hq
          · have hc : ¬ (0 : Int) < ((natsV b).length : Nat) := fun q => hc (decide_eq_true q)
            have eb : b = [] := List.eq_nil_of_length_eq_zero (by omega)
            have htop : Jm.top m b = m := by rw [eb]; rfl
            rw [htop] at hq
            exact ⟨_, rfl, hq⟩
        -- longer.extend([beat + [height] for height in range(1, highest + 1)])
        refine ⟨_, rfl, .inl ⟨rfl, _, SqL.of hDv⟩, ?_⟩
        refine ⟨_, rfl, _, _, rfl, rfl, 1, _, rfl, ⟨by omega, by omega, by omega, by omega⟩, fun D2 hD2 => ?_⟩
        have hDD : D ≠ D2 := ne_of_none hDv hD2
        have e3 : (((Jm.top m b : Nat) : Int) + 1 - 1).toNat = Jm.top m b := by omega
        rw [e3]
        refine lc_range (fun i H3 => Same H2 H3 ∧ ∃ es : List V, H3 D2 = some (.lst es) ∧ Paired (NewB H2 H3 D2) es ((List.range i).map fun k => b ++ [k + 1]))
          ⟨(Same.refl H2).new hD2, [], upd_same, .nil⟩ ?_ ?_
        · rintro c H3 hc ⟨s3, es, hE, hEP⟩
          refine ⟨rfl, ?_⟩
          unfold tYes
          dsimp only
          rw [if_pos rfl]
          refine ⟨_, rfl, _, rfl, by show 1 ≤ sizeLine; decide, fun q hq => ?_⟩
          have nyq : y ≠ q := ne_of_none (s3 _ _ hy2) hq
          refine ⟨y, q, natsV b, _, rfl, rfl, by rw [upd_ne nyq]; exact s3 _ _ hy2, upd_same, ?_, fun r hr => ?_⟩
          · rw [natsV_length]
            exact Nat.le_of_lt (small1000 (by simp; omega))
          have s4 := s3.new (o := .lst [V.int (1 + (c : Int))]) hq
          have s5 := s4.new (o := .lst (natsV b ++ [V.int (1 + (c : Int))])) hr
          have hE5 := ((Same.refl H3).new (o := .lst [V.int (1 + (c : Int))]) hq).new (o := .lst (natsV b ++ [V.int (1 + (c : Int))])) hr
          have nrD : r ≠ D2 := (ne_of_none (((Same.refl H3).new (o := .lst [V.int (1 + (c : Int))]) hq) _ _ hE) hr).symm
          refine ⟨es, hE5 _ _ hE, ?_, s5.own hD2, _, upd_same, ?_⟩
          · have := hEP.length
            rw [List.length_map, List.length_range] at this
            exact small1000 (by omega)
          · rw [List.range_succ, List.map_append]
            refine Paired.snoc (Paired.imp' (fun v cc q => ?_) hEP) ⟨r, rfl, s4.free hr, nrD, ?_⟩
            · obtain ⟨z, rfl, z0, zD, hz⟩ := q
              exact ⟨z, rfl, z0, zD, by rw [upd_ne zD]; exact hE5 _ _ hz⟩
            · rw [upd_ne nrD, upd_same, natsV_append]
              have : (1 + (c : Int)) = ((c + 1 : Nat) : Int) := by omega
              rw [this]
              rfl
        · rintro H3 ⟨s3, es, hE, hEP⟩
          have hDv3 := s3 _ _ hDv
          have hel := hEP.length
          rw [List.length_map, List.length_range] at hel
          refine ⟨D, D2, ls, es, rfl, rfl, hDv3, hE, ?_, (s2.trans s3).own hD, ls ++ es, _, _, _, rfl, upd_same, ?_, ?_⟩
          · exact Nat.le_of_lt (small1000 (by omega))
          · rw [take_snoc e2]
            have eg : Jm.grow m ((Jm.ups m i [[]]).take j ++ [b]) = Jm.grow m ((Jm.ups m i [[]]).take j) ++ (List.range (Jm.top m b)).map fun k => b ++ [k + 1] := by
              unfold Jm.grow
              rw [List.flatMap_append]
              simp
            rw [eg]
            refine Paired.append (Paired.imp' (fun v cc q => ?_) hL) (Paired.imp' (fun v cc q => ?_) hEP)
            · obtain ⟨z, rfl, z0, zD, hz⟩ := q
              exact ⟨z, rfl, z0, zD, by rw [upd_ne zD]; exact s3 _ _ hz⟩
            · obtain ⟨z, rfl, z0, zD, hz⟩ := q
              have zD' : z ≠ D := fun e => by rw [e, hDv] at z0; cases z0
              exact ⟨z, rfl, s2.free z0, zD', by rw [upd_ne zD']; exact hz⟩
          · rw [List.length_append]
            omega
      · rintro σ H2 ⟨s2, ls, v5, v6, v7, rfl, hDv, hL, hll⟩
        -- beats = longer
        rw [hl, List.take_length, ← Jm.ups_succ] at hL
        refine ⟨_, rfl, s1.trans s2, D, ls, _, _, _, _, _, rfl, s1.free hD, hDv, Paired.imp' (fun v b q => ?_) hL⟩
        obtain ⟨z, rfl, z0, zD, hz⟩ := q
        exact ⟨z, rfl, s1.free z0, hz⟩
    · rintro σ H1 ⟨s1, x, vs, v3, v4, v5, v6, v7, rfl, hx0', hx, hP⟩
      rw [Jm.ups_start] at hP
      exact ⟨_, rfl, k x vs H1 s1 hx0' hx hP⟩
end
end Jp

set_option Elab.async false
set_option linter.all false
set_option maxRecDepth 100000
set_option maxHeartbeats 4000000
namespace Jp
open PySem PySem.Spec PyProof.Rows L2
section
variable {P : Program} {w : World} {K : PySem.W.Frag} {mg : Str → Option Value} {base : Heap}
def sp_next_layer (K : PySem.W.Frag) : Sp := fun vs H Q _ => ∃ (h most n : Nat) (la d : Addr) (las : List Addr) (now R0 : List (Jug.Air × Jug.Pattern)), vs = [.int (h : Nat), .int (most : Nat), .ref la, .ref d] ∧ h ≤ 8 ∧ most ≤ 2 ∧ 1 ≤ n ∧ n ≤ 40 ∧
  H la = some (.lst (las.map V.ref)) ∧ Paired (StAt H) las (Jm.keys now) ∧ RowsAt H d R0 ∧ Jm.RowsOk h most n R0 ∧ (∀ x ∈ now, (x.1, x.2.reverse) ∈ R0 ∧ Jm.GoodRow h (n - 1) x.2.reverse) ∧
  ∀ (x : Addr) (xs : List Addr) (H' : Hp) (new : List (Jug.Air × Jug.Pattern)), new = now.foldl (Jm.stateN h most R0) [] → Keep H H' → H' x = some (.lst (xs.map V.ref)) → Paired (StAt H') xs (Jm.keys (Jm.unrev new)) → RowsAt H' d (R0 ++ Jm.unrev new) → Jm.RowsOk h most n (R0 ++ Jm.unrev new) → Q (.ref x) H'
theorem foldl_take {α β : Type} (f : β → α → β) (a : β) {l : List α} {i : Nat} {x : α} (h : l[i]? = some x) : (l.take (i + 1)).foldl f a = f ((l.take i).foldl f a) x := by
  rw [take_snoc h, List.foldl_append]
  rfl
theorem sc_next_layer : FnScope ["high", "most", "layer", "rows", "following", "state", "beat", "landed"] ["high", "most", "layer", "rows"] (defScope s_next_layer) := ⟨rfl, rfl, rfl, by decide +kernel, rfl, by decide +kernel, by decide +kernel⟩
theorem ok_next_layer {f : Addr} {fd : FuncData} (F : Fun K "next_layer" "next_layer" s_next_layer f fd) (T : Txt mg) (d_beats_up_to : Def P w K mg base "beats_up_to" ["high", "throws"] 1 (sp_beats_up_to K)) (d_state_after : Def P w K mg base "state_after" ["state", "beat"] 1 (sp_state_after K)) : FnOk P w K mg base CX0 2 f fd ["high", "most", "layer", "rows"] (sp_next_layer K) := by
  have sc := sc_next_layer
  refine F.ok sc (fun vs H Q E h => ?_) (fun cdv A outer s H vs Q E hr h => ?_)
  · obtain ⟨m, most, n, la, d, las, now, R0, rfl, _⟩ := h
    rfl
  · obtain ⟨m, most, n, la, d, las, now, R0, rfl, hm, hmost, hn1, hn40, hla, hlas, hrows, hok, hnow, k⟩ := h
    have hu := hu_of hr
    refine ⟨_, (pss_cons (ps_set (i := 4) sc.nd rfl (by first | exact Or.inl rfl | exact Or.inr rfl) (pe_lst pa_nil))
      (pss_cons (ps_for PassesOwn.never rfl (pi_list (pv 2)) (pg_name (i := 5) sc.nd rfl (by first | exact Or.inl rfl | exact Or.inr rfl))
      (pss_one (ps_for PassesOwn.never rfl (pi_list (pcall d_beats_up_to (hr.mono (by decide)) (pa_cons (pv 0) (pa_cons (pe_ix ix_tup (pv 5) pe_int (fun _ _ => rfl)) pa_nil)))) (pg_name (i := 6) sc.nd rfl (by first | exact Or.inl rfl | exact Or.inr rfl))
      (pss_cons (ps_set (i := 7) sc.nd rfl (by first | exact Or.inl rfl | exact Or.inr rfl) (pcall d_state_after (hr.mono (by decide)) (pa_cons (pv 5) (pa_cons (pv 6) pa_nil))))
      (pss_one (ps_if (pw_and (pt_cmp (pc_le (pe_callB (cr_maxT rfl) (by rfl) T.b_max PyProof.Rows.boot_max (pa_cons (pv 7) pa_nil)) (pv 1))) (pw_and1 (pt_cmp (pc_dnotin hu (pv 7) (pv 3))))).pt (pss_cons (ps_dput hu (pv 3) (pv 7) (pe_op op_cat (pe_dget hu (pv 3) (pv 5) (fun _ _ => rfl)) (pe_lst (pa_cons (pv 6) pa_nil))) rfl)
      (pss_one (ps_expr (pe_bm PySem.F.plainAttrs_list PySem.F.slot_list_append PySem.F.type_list_append mt_append (pv 4) (pa_cons (pv 7) pa_nil))))) pss_nil))))))
      (pss_one (ps_ret (pv 4))))), ?_⟩
    -- following = []
    refine ⟨Nat.zero_le _, fun D hD => ?_⟩
    obtain ⟨kvs0, hd0, hkv0⟩ := hrows
    have hdD : d ≠ D := ne_of_none hd0 hD
    have k0 : Keep H (upd H D (.lst [])) := (Keep.refl H).new hD
    have hll := hlas.length
    have hkl : (Jm.keys now).length = now.length := by unfold Jm.keys; rw [List.length_map]
    -- for state in layer
    refine ⟨_, rfl, la, rfl, ⟨_, SqL.of (k0.lst hla)⟩, ?_⟩
    have inv0 : RowsAt (mask (upd H D (.lst [])) D) d (R0 ++ Jm.unrev []) := by
      rw [mask_upd]
      refine ⟨kvs0, by rw [mask_ne hdD]; exact hd0, ?_⟩
      have e : R0 ++ Jm.unrev [] = R0 := by simp [Jm.unrev]
      rw [e]
      have ks : Keep H (mask H D) := fun b o e _ => by rw [mask_ne (ne_of_none e hD)]; exact e
      exact Paired.imp' (fun _ _ q => ⟨q.1, q.2.keep ks⟩) hkv0
    refine for_list (xs := las.map V.ref) (fun i σ H' => Keep H H' ∧ ∃ (new : List (Jug.Air × Jug.Pattern)) (xs : List Addr) (v5 v6 v7 : Option V), σ = [some (.int (m : Nat)), some (.int (most : Nat)), some (.ref la), some (.ref d), some (.ref D), v5, v6, v7] ∧
      new = (now.take i).foldl (Jm.stateN m most R0) [] ∧ RowsAt (mask H' D) d (R0 ++ Jm.unrev new) ∧ H' D = some (.lst (xs.map V.ref)) ∧ Paired (StAt H') xs (Jm.keys (Jm.unrev new)) ∧ Jm.RowsOk m most n (R0 ++ Jm.unrev new))
      ⟨k0, [], [], none, none, none, rfl, rfl, inv0, upd_same, .nil, by simpa [Jm.unrev] using hok⟩ (fun i σ H' _ ⟨k1, _⟩ => SqL.of (k1.lst hla)) ?_ ?_
    · rintro i w σ H1 hi ⟨k1, new, xs, v5, v6, v7, rfl, hnew, hR, hDv, hxs, hRok⟩
      obtain ⟨a, ea, rfl⟩ := map_get hi
      obtain ⟨st, est, hst⟩ := Paired.getL hlas ea
      obtain ⟨⟨s0, w0⟩, ex, e1⟩ := map_get est
      have e1 : s0 = st := e1.symm
      subst e1
      obtain ⟨hin, hrow⟩ := hnow _ (List.mem_of_getElem? ex)
      dsimp only at hin hrow
      obtain ⟨⟨hs15, hs2⟩, _⟩ := hok.st _ hin
      dsimp only at hs15 hs2
      have hst1 : StAt H1 a s0 := hst.keep k1
      have hlook : Jm.look R0 s0 = some w0.reverse := Jm.look_mem hok.nd hin
      have hhead : s0.headD 0 ≤ 2 := by
        cases s0 with
        | nil => simp
        | cons q r => exact Nat.le_trans (hs2 q List.mem_cons_self) hmost
      have h0 : (natsV s0)[0]? = some (V.int ((s0.headD 0 : Nat) : Int)) := by
        cases s0 with
        | nil => cases hs15
        | cons q r => rfl
      have hat : atI (natsV s0) 0 = some (V.int ((s0.headD 0 : Nat) : Int)) := at_of (j := 0) rfl h0
      -- for beat in beats_up_to(high, state[0])
      refine ⟨_, rfl, _, rfl, a, _, _, _, rfl, rfl, SqT.of hst1, hat, m, s0.headD 0, rfl, hm, hhead, fun x bs H2 s2 hx0 hx hB => ⟨x, rfl, ⟨_, SqL.of hx⟩, ?_⟩⟩
      have hxD : x ≠ D := fun e => by rw [e, hDv] at hx0; cases hx0
      have hbl := hB.length
      generalize hrw : Jug.rowsOf (s0.headD 0) m = rw0 at hB hbl
      have hgood : ∀ b ∈ rw0, b.length = s0.headD 0 ∧ ∀ h ∈ b, 1 ≤ h ∧ h ≤ m := fun b hb => by
        rw [← hrw] at hb
        exact Jm.rows_good _ _ b hb
      have hR2 : RowsAt (mask H2 D) d (R0 ++ Jm.unrev new) := by
        obtain ⟨kv, hkv, hp⟩ := hR
        exact ⟨kv, mask_same s2 _ _ hkv, Paired.imp' (fun _ _ q => ⟨q.1, q.2.same (mask_same s2)⟩) hp⟩
      have hD2 := s2 _ _ hDv
      -- all that the inner loop must leave
      refine for_list (xs := bs) (fun j σ H' => Keep H H' ∧ (∀ b o, H2 b = some o → ¬ isDT o → b ≠ D → H' b = some o) ∧ ∃ (new2 : List (Jug.Air × Jug.Pattern)) (xs : List Addr) (v6 v7 : Option V), σ = [some (.int (m : Nat)), some (.int (most : Nat)), some (.ref la), some (.ref d), some (.ref D), some (.ref a), v6, v7] ∧
        new2 = (rw0.take j).foldl (Jm.stepN most R0 s0 w0) new ∧ RowsAt (mask H' D) d (R0 ++ Jm.unrev new2) ∧ H' D = some (.lst (xs.map V.ref)) ∧ Paired (StAt H') xs (Jm.keys (Jm.unrev new2)) ∧ Jm.RowsOk m most n (R0 ++ Jm.unrev new2))
        ⟨k1.trans s2.keep, fun _ _ e _ _ => e, new, xs, v6, v7, rfl, rfl, hR2, hD2, Paired.imp' (fun _ _ q => q.keep s2.keep) hxs, hRok⟩ (fun j σ H' _ ⟨_, kk, _⟩ => SqL.of (kk _ _ hx (fun z => z) hxD)) ?_ ?_
      · rintro j w σ H3 hj ⟨k3, kk, new2, xs2, v6', v7', rfl, hnew2, hR3, hDv3, hxs3, hRok3⟩
        obtain ⟨b, eb, y, rfl, hy0, hy⟩ := Paired.getL hB hj
        have hyD : y ≠ D := fun e => by rw [e, hDv] at hy0; cases hy0
        obtain ⟨g1, g2⟩ := hgood b (List.mem_of_getElem? eb)
        have hy3 := kk _ _ hy (fun z => z) hyD
        have hst3 : StAt H3 a s0 := hst.keep k3
        -- landed = state_after(state, beat)
        refine ⟨_, rfl, _, rfl, a, _, s0, b, rfl, hst3, hs15, ⟨y, rfl, hy3⟩, fun h hh => ⟨(g2 h hh).1, by have := (g2 h hh).2; omega⟩, fun z H4 s4 hz0 hz => ?_⟩
        have k4 : Keep H H4 := k3.trans s4.keep
        have kk4 : ∀ b o, H2 b = some o → ¬ isDT o → b ≠ D → H4 b = some o := fun b o e n1 n2 => s4 _ _ (kk b o e n1 n2)
        have hR4 : RowsAt (mask H4 D) d (R0 ++ Jm.unrev new2) := by
          obtain ⟨kv, hkv, hp⟩ := hR3
          exact ⟨kv, mask_same s4 _ _ hkv, Paired.imp' (fun _ _ q => ⟨q.1, q.2.same (mask_same s4)⟩) hp⟩
        have hDv4 := s4 _ _ hDv3
        have hxs4 : Paired (StAt H4) xs2 (Jm.keys (Jm.unrev new2)) := Paired.imp' (fun _ _ q => q.keep s4.keep) hxs3
        obtain ⟨kv, hkvm, hkp⟩ := hR4
        have hkv : H4 d = some (.dT kv) := mask_le H4 D _ _ hkvm
        have hzi : H4 z = some (.tup (((Jm.nextState s0 b).map Int.ofNat).map V.int)) := by rw [← natsV_int]; exact hz
        have hn15 := Jm.nextState_len s0 b
        have skip : ¬ (((Jm.nextState s0 b).all fun n => decide (n ≤ most)) = true ∧ ¬ Jm.nextState s0 b ∈ Jm.keys (R0 ++ Jm.unrev new2)) → new2 = (rw0.take (j + 1)).foldl (Jm.stepN most R0 s0 w0) new := fun hno => by
          rw [foldl_take _ _ eb, ← hnew2]
          unfold Jm.stepN
          rw [if_neg hno]
        -- if max(landed) <= most and landed not in rows
        refine ⟨_, rfl, z, _, rfl, SqT.of hzi, by rw [List.length_map]; omega, fun mx hmx hge => ⟨_, rfl, _, _, rfl, rfl, _, rfl, ite2 (fun hc => ?_) (fun hc => ?_)⟩⟩
        · have hc : mx ≤ ((most : Nat) : Int) := of_decide_eq_true hc
          have hall : ((Jm.nextState s0 b).all fun n => decide (n ≤ most)) = true := List.all_eq_true.mpr fun q hq => decide_eq_true (by
            have := hge (Int.ofNat q) (List.mem_map.mpr ⟨q, hq, rfl⟩)
            have : (q : Int) ≤ mx := this
            omega)
          obtain ⟨v1, v2⟩ := rows_val hkp (Jm.nextState s0 b)
          refine ⟨_, rfl, _, rfl, d, _, rfl, DGet.t (k := keyS (Jm.nextState s0 b)) hkv (by rw [keyS_kV]; exact hz), _, rfl, ?_⟩
          by_cases hin2 : Jm.nextState s0 b ∈ Jm.keys (R0 ++ Jm.unrev new2)
          · obtain ⟨r, hr1, hr2⟩ := List.mem_map.mp hin2
            obtain ⟨v, hv, _⟩ := v1 r.2 (by rw [← hr2]; exact Jm.look_mem hRok3.nd hr1)
            rw [hv]
            refine iteF ⟨k4, kk4, new2, xs2, _, _, rfl, skip (fun q => q.2 hin2), ⟨kv, hkvm, hkp⟩, hDv4, hxs4, hRok3⟩
          · have hnone := v2 (Jm.look_none hin2)
            rw [hnone]
            refine iteT ?_
            -- rows[landed] = rows[state] + [beat]
            have hlk2 : Jm.look (R0 ++ Jm.unrev new2) s0 = some w0.reverse := Jm.look_mem (x := (s0, w0.reverse)) hRok3.nd (List.mem_append_left _ hin)
            obtain ⟨vw, hvw, hpw⟩ := (rows_val hkp s0).1 _ hlk2
            obtain ⟨c, ws, rfl, hcm, hws⟩ := hpw
            have hc4 := mask_le H4 D _ _ hcm
            have hcD : c ≠ D := fun e => by
              rw [e] at hcm
              unfold mask at hcm
              rw [if_pos rfl] at hcm
              cases hcm
            have hst4 : StAt H4 a s0 := hst.keep k4
            refine ⟨_, rfl, _, rfl, d, _, rfl, (by have g := DGet.t (k := keyS s0) hkv (by rw [keyS_kV]; exact hst4); rw [hvw] at g; exact g), ?_⟩
            refine ⟨_, rfl, by show 1 ≤ sizeLine; decide, fun q hq => ?_⟩
            have hqD : q ≠ D := (ne_of_none hDv4 hq).symm
            have s5 : Same H4 (upd H4 q (.lst [V.ref y])) := (Same.refl H4).new hq
            have hwl := hws.length
            have hwn := hrow.1
            refine ⟨c, q, ws, [V.ref y], rfl, rfl, s5 _ _ hc4, upd_same, ?_, fun r hr => ?_⟩
            · exact Nat.le_of_lt (small1000 (by simp; omega))
            have hrD : r ≠ D := (ne_of_none (s5 _ _ hDv4) hr).symm
            have s6 := s5.new (o := .lst (ws ++ [V.ref y])) hr
            have hkv6 := s6 _ _ hkv
            have hz6 := s6 _ _ hz
            have hbound := Jm.rows_bound hRok3 hmost
            have hkl2 := hkp.length
            refine ⟨_, rfl, _, rfl, d, _, rfl, DPut.t (k := keyS (Jm.nextState s0 b)) hkv6 (by rw [keyS_kV]; exact hz6) (by rw [hkl2, sizeLine_eq]; omega), ?_⟩
            -- following.append(landed)
            have hpm : PatAt (mask (upd (upd H4 q (.lst [V.ref y])) r (.lst (ws ++ [V.ref y]))) D) (.ref r) (b :: w0).reverse := by
              refine ⟨r, _, rfl, by rw [mask_ne hrD]; exact upd_same, ?_⟩
              rw [List.reverse_cons]
              refine Paired.snoc (Paired.imp' (fun _ _ q => q.same (mask_same s6)) hws) ⟨y, rfl, ?_⟩
              rw [mask_ne hyD]
              exact s6 _ _ (s4 _ _ hy3)
            have hkp6 : Paired (fun kv' r' => kv'.1 = keyS r'.1 ∧ PatAt (mask (upd (upd H4 q (.lst [V.ref y])) r (.lst (ws ++ [V.ref y]))) D) kv'.2 r'.2) kv (R0 ++ Jm.unrev new2) := Paired.imp' (fun _ _ q => ⟨q.1, q.2.same (mask_same s6)⟩) hkp
            have hput := rows_put (st := Jm.nextState s0 b) (mask_same s6 _ _ hkvm) hkp6 hnone hpm
            rw [← mask_put hdD] at hput
            generalize hH7 : upd (upd (upd H4 q (.lst [V.ref y])) r (.lst (ws ++ [V.ref y]))) d (.dT (putK kv (keyS (Jm.nextState s0 b)) (V.ref r))) = H7 at hput ⊢
            have k47 : Keep H4 H7 := by
              rw [← hH7]
              exact s6.keep.put hkv6
            have hDv7 : H7 D = some (.lst (xs2.map V.ref)) := k47.lst hDv4
            have hxl := hxs4.length
            have hul : (Jm.keys (Jm.unrev new2)).length ≤ (R0 ++ Jm.unrev new2).length := by
              unfold Jm.keys
              rw [List.length_map, List.length_append]
              omega
            refine ⟨_, rfl, .inl ⟨rfl, _, SqL.of hDv7⟩, _, rfl, D, _, _, rfl, rfl, hDv7, by rw [List.length_map, sizeLine_eq]; omega, ?_⟩
            have enew : (rw0.take (j + 1)).foldl (Jm.stepN most R0 s0 w0) new = (Jm.nextState s0 b, b :: w0) :: new2 := by
              rw [foldl_take _ _ eb, ← hnew2]
              unfold Jm.stepN
              rw [if_pos ⟨hall, hin2⟩]
            have hRok7 : Jm.RowsOk m most n (R0 ++ Jm.unrev ((Jm.nextState s0 b, b :: w0) :: new2)) := by
              have := Jm.step_ok' (s := s0) (w := w0) (b := b) hRok3 hrow hn1 ⟨by rw [g1]; exact hhead, g2⟩
              unfold Jm.stepN at this
              rw [if_pos ⟨hall, hin2⟩] at this
              exact this
            refine ⟨(k4.trans k47).own (fun u e => by rw [hD] at e; cases e), fun b' o e n1 n2 => ?_, (Jm.nextState s0 b, b :: w0) :: new2, xs2 ++ [z], _, _, rfl, enew.symm, ?_, ?_, ?_, hRok7⟩
            · rw [upd_ne n2]
              exact k47 _ _ (kk4 _ _ e n1 n2) n1
            · rw [mask_upd, Jm.unrev_cons, ← List.append_assoc]
              exact hput
            · rw [upd_same, List.map_append]
              rfl
            · rw [Jm.unrev_cons]
              have ek : Jm.keys (Jm.unrev new2 ++ [(Jm.nextState s0 b, (b :: w0).reverse)]) = Jm.keys (Jm.unrev new2) ++ [Jm.nextState s0 b] := by
                unfold Jm.keys
                rw [List.map_append]
                rfl
              rw [ek]
              have up : ∀ (c : Addr) (st : List Nat), StAt H4 c st → StAt (upd H7 D (.lst (xs2.map V.ref ++ [V.ref z]))) c st := fun c st hcs => by
                have h7 : H7 c = some (.tup (natsV st)) := k47.tup hcs
                show upd H7 D _ c = _
                rw [upd_ne (ne_of h7 hDv7 (by intro q; cases q))]
                exact h7
              exact Paired.snoc (Paired.imp' (fun c st q => up c st q) hxs4) (up z _ hz)
        · have hc : ¬ mx ≤ ((most : Nat) : Int) := fun q => hc (decide_eq_true q)
          refine ⟨k4, kk4, new2, xs2, _, _, rfl, skip (fun q => hc ?_), ⟨kv, hkvm, hkp⟩, hDv4, hxs4, hRok3⟩
          obtain ⟨q', hq', rfl⟩ := List.mem_map.mp hmx
          have := of_decide_eq_true (List.all_eq_true.mp q.1 q' hq')
          show (q' : Int) ≤ (most : Nat)
          omega
      · rintro σ H3 ⟨k3, kk, new2, xs2, v6', v7', rfl, hnew2, hR3, hDv3, hxs3, hRok3⟩
        refine ⟨k3, new2, xs2, _, _, _, rfl, ?_, hR3, hDv3, hxs3, hRok3⟩
        rw [foldl_take _ _ ex, ← hnew, hnew2, hbl, List.take_length]
        unfold Jm.stateN
        dsimp only
        rw [hrw]
    · rintro σ H1 ⟨k1, new, xs, v5, v6, v7, rfl, hnew, hR, hDv, hxs, hRok⟩
      rw [List.length_map, hll, hkl, List.take_length] at hnew
      obtain ⟨kv, hkv, hp⟩ := hR
      refine ⟨_, rfl, k D xs H1 new hnew k1 hDv hxs ⟨kv, mask_le _ _ _ _ hkv, Paired.imp' (fun _ _ q => ⟨q.1, q.2.same (mask_le H1 D)⟩) hp⟩ hRok⟩
end
end Jp

set_option Elab.async false
set_option linter.all false
set_option maxRecDepth 100000
set_option maxHeartbeats 4000000
namespace Jp
open PySem PySem.Spec PyProof.Rows L2
section
variable {P : Program} {w : World} {K : PySem.W.Frag} {mg : Str → Option Value} {base : Heap}
def sp_shortest_row (K : PySem.W.Frag) : Sp := fun vs H Q _ => ∃ (h most : Nat) (sa ga : Addr) (st gt : List Nat), vs = [.int (h : Nat), .int (most : Nat), .ref sa, .ref ga] ∧ h ≤ 8 ∧ most ≤ 2 ∧ StAt H sa st ∧ StAt H ga gt ∧ Jm.GoodSt most st ∧
  (∀ H', Keep H H' → Jug.way h most st gt = none → Q .non H') ∧ (∀ v H' p, Keep H H' → Jug.way h most st gt = some p → PatAt H' v p → Jm.GoodRow h 39 p → Q v H')
theorem rowsOk_mono {h most n m : Nat} {R : List (Jug.Air × Jug.Pattern)} (q : Jm.RowsOk h most n R) (hm : n ≤ m) : Jm.RowsOk h most m R := ⟨q.nd, fun x hx => ⟨(q.st x hx).1, (q.st x hx).2.mono hm⟩⟩
theorem sc_shortest_row : FnScope ["high", "most", "start", "goal", "rows", "layer", "done"] ["high", "most", "start", "goal"] (defScope s_shortest_row) := ⟨rfl, rfl, rfl, by decide +kernel, rfl, by decide +kernel, by decide +kernel⟩
theorem ok_shortest_row {f : Addr} {fd : FuncData} (F : Fun K "shortest_row" "shortest_row" s_shortest_row f fd) (T : Txt mg) (d_next_layer : Def P w K mg base "next_layer" ["high", "most", "layer", "rows"] 2 (sp_next_layer K)) : FnOk P w K mg base CX0 3 f fd ["high", "most", "start", "goal"] (sp_shortest_row K) := by
  have sc := sc_shortest_row
  refine F.ok sc (fun vs H Q E h => ?_) (fun cdv A outer s H vs Q E hr h => ?_)
  · obtain ⟨m, most, sa, ga, st, gt, rfl, _⟩ := h
    rfl
  · obtain ⟨m, most, sa, ga, st, gt, rfl, hm, hmost, hsa, hga, hgood, kN, kS⟩ := h
    have hu := hu_of hr
    refine ⟨_, (pss_cons (ps_set (i := 4) sc.nd rfl (by first | exact Or.inl rfl | exact Or.inr rfl) (pe_dispT hu (pv 2) (pe_lst pa_nil)))
      (pss_cons (ps_set (i := 5) sc.nd rfl (by first | exact Or.inl rfl | exact Or.inr rfl) (pe_lst (pa_cons (pv 2) pa_nil)))
      (pss_cons (ps_for PassesOwn.never rfl (pi_range1 rfl T.b_range (pa_cons (pgl T.c_MOST_ROW) pa_nil)) (pg_name (i := 6) sc.nd rfl (by first | exact Or.inl rfl | exact Or.inr rfl))
      (pss_cons (ps_if (pt_cmp (pc_din hu (pv 3) (pv 4))) (pss_one ps_break) pss_nil)
      (pss_one (ps_set (i := 5) sc.nd rfl (by first | exact Or.inl rfl | exact Or.inr rfl) (pcall d_next_layer (hr.mono (by decide)) (pa_cons (pv 0) (pa_cons (pv 1) (pa_cons (pv 5) (pa_cons (pv 4) pa_nil)))))))))
      (pss_one (ps_ret (pe_dget1 hu (pv 4) (pv 3) ⟨rfl, rfl, rfl, rfl⟩)))))), ?_⟩
    -- rows = {start: []}
    intro d hd
    have s1 : Same H (upd H d (.dT [])) := (Same.refl H).new hd
    refine ⟨_, rfl, Nat.zero_le _, fun e he => ?_⟩
    have s2 := s1.new (o := .lst []) he
    have nde : d ≠ e := ne_of_none (upd_same (a := d)) he
    have hd2 : upd (upd H d (.dT [])) e (.lst []) d = some (.dT []) := by rw [upd_ne nde]; exact upd_same
    refine ⟨hd2, sa, keyS st, rfl, by rw [keyS_kV]; exact s2 _ _ hsa, ?_⟩
    -- layer = [start]
    refine ⟨_, rfl, by show 1 ≤ sizeLine; decide, fun la hla => ?_⟩
    have k3 : Keep H (upd (upd (upd H d (.dT [])) e (.lst [])) d (.dT [(keyS st, V.ref e)])) := s2.keep.put hd2
    generalize hH3 : upd (upd (upd H d (.dT [])) e (.lst [])) d (.dT [(keyS st, V.ref e)]) = H3 at k3 hla ⊢
    have hd3 : H3 d = some (.dT [(keyS st, V.ref e)]) := by rw [← hH3]; exact upd_same
    have he3 : H3 e = some (.lst []) := by rw [← hH3, upd_ne nde.symm]; exact upd_same
    have k4 : Keep H (upd H3 la (.lst [V.ref sa])) := k3.new hla
    have s34 : Same H3 (upd H3 la (.lst [V.ref sa])) := (Same.refl H3).new hla
    -- what rows.get(goal) gives
    have fin : ∀ (i f : Nat) (H' : Hp) (now R : List (Jug.Air × Jug.Pattern)) (kvs : List (List Key × V)), i ≤ 39 → Keep H H' → H' d = some (.dT kvs) → Paired (fun kv r => kv.1 = keyS r.1 ∧ PatAt H' kv.2 r.2) kvs R → Jm.RowsOk m most i R → (∀ x ∈ now, (x.1, x.2.reverse) ∈ R) → (∀ x ∈ R, x.1 = gt → (x.1, x.2.reverse) ∈ now) →
        Jug.way m most st gt = Jug.wayFrom m most gt (f + 1) now (Jm.keys R).reverse → (gt ∈ Jm.keys R ∨ f = 0) → Q ((valV kvs (keyS gt)).getD .non) H' := by
      intro i f H' now R kvs hi39 kk hkv hkp hok hnow hgoal hway hor
      by_cases hin : gt ∈ Jm.keys R
      · obtain ⟨x, hx, hxe⟩ := List.mem_map.mp hin
        have hxn := hgoal x hx hxe
        obtain ⟨y, hy⟩ : ∃ y, now.find? (fun x => x.1 == gt) = some y := by
          cases e : now.find? (fun x => x.1 == gt) with
          | some y => exact ⟨y, rfl⟩
          | none =>
            have := List.find?_eq_none.mp e _ hxn
            rw [show ((x.1, x.2.reverse) : Jug.Air × Jug.Pattern).1 = gt from hxe] at this
            exact absurd (beq_self_eq_true gt) this
        have hye : y.1 = gt := eq_of_beq (by simpa using List.find?_some hy)
        have hyR := hnow y (List.mem_of_find?_eq_some hy)
        have hlk := Jm.look_mem hok.nd hyR
        dsimp only at hlk
        rw [hye] at hlk
        obtain ⟨v, hv, hpat⟩ := (rows_val hkp gt).1 _ hlk
        rw [hv]
        rw [Jm.wayFrom_found hy] at hway
        exact kS v H' _ kk hway hpat ((hok.st _ hyR).2.mono hi39)
      · have hf0 : f = 0 := hor.resolve_left hin
        subst hf0
        rw [(rows_val hkp gt).2 (Jm.look_none hin)]
        have hnone : now.find? (fun x => x.1 == gt) = none := by
          rw [List.find?_eq_none]
          intro x hx e
          have e : x.1 = gt := eq_of_beq e
          exact hin (List.mem_map.mpr ⟨_, hnow x hx, e⟩)
        rw [Jm.wayFrom_step hnone] at hway
        exact kN H' kk hway
    -- for done in range(MOST_ROW)
    refine ⟨39, rfl, by omega, by omega, ?_⟩
    have inv0 : RowsAt (upd H3 la (.lst [V.ref sa])) d [(st, [])] := ⟨_, s34 _ _ hd3, .cons ⟨rfl, e, [], rfl, s34 _ _ he3, .nil⟩ .nil⟩
    refine for_range (lo := 0) (n := 39) (fun i σ H' => Keep H H' ∧ ∃ (lb : Addr) (as : List Addr) (now R : List (Jug.Air × Jug.Pattern)) (v6 : Option V), σ = [some (.int (m : Nat)), some (.int (most : Nat)), some (.ref sa), some (.ref ga), some (.ref d), some (.ref lb), v6] ∧
      H' lb = some (.lst (as.map V.ref)) ∧ Paired (StAt H') as (Jm.keys now) ∧ RowsAt H' d R ∧ Jm.RowsOk m most i R ∧ (∀ x ∈ now, (x.1, x.2.reverse) ∈ R) ∧ (∀ x ∈ R, x.1 = gt → (x.1, x.2.reverse) ∈ now) ∧
      Jug.way m most st gt = Jug.wayFrom m most gt (40 - i) now (Jm.keys R).reverse)
      ⟨k4, la, [sa], [(st, [])], [(st, [])], none, rfl, upd_same, .cons (hsa.keep k4) .nil, inv0, ⟨by simp [Jm.keys], fun x hx => ?_⟩, fun x hx => by have e : x = (st, []) := (by simpa using hx); subst e; simp, fun x hx _ => ?_, rfl⟩ ?_ ?_
    · have e : x = (st, []) := by simpa using hx
      subst e
      exact ⟨hgood, by simp, fun b hb => by cases hb⟩
    · have e : x = (st, []) := by simpa using hx
      subst e
      simp
    · rintro i σ H1 hi ⟨k5, lb, as, now, R, v6, rfl, hlb, has, ⟨kvs, hkv, hkp⟩, hok, hnow, hgoal, hway⟩
      have hga1 : StAt H1 ga gt := hga.keep k5
      have hg : DGet H1 d (.ref ga) (valV kvs (keyS gt)) := DGet.t (k := keyS gt) hkv (by rw [keyS_kV]; exact hga1)
      refine ⟨_, rfl, _, rfl, d, _, rfl, hg, _, rfl, ?_⟩
      by_cases hin : gt ∈ Jm.keys R
      · obtain ⟨x, hx, hxe⟩ := List.mem_map.mp hin
        obtain ⟨v, hv, hpat⟩ := (rows_val hkp gt).1 x.2 (by rw [← hxe]; exact Jm.look_mem hok.nd hx)
        have hs : (valV kvs (keyS gt)).isSome = true := by rw [hv]; rfl
        rw [hs]
        refine iteT ?_
        -- break
        refine ⟨_, rfl, d, rfl, .inr ⟨kvs, .inl hkv⟩, _, rfl, _, hg, ?_⟩
        have hway2 : Jug.way m most st gt = Jug.wayFrom m most gt ((39 - i) + 1) now (Jm.keys R).reverse := by
          rw [hway]
          congr 1
          omega
        exact fin i (39 - i) H1 now R kvs (by omega) k5 hkv hkp hok hnow hgoal hway2 (.inl hin)
      · have hnn := (rows_val hkp gt).2 (Jm.look_none hin)
        have hs : (valV kvs (keyS gt)).isSome = false := by rw [hnn]; rfl
        rw [hs]
        refine iteF ?_
        -- layer = next_layer(high, most, layer, rows)
        refine ⟨_, rfl, _, rfl, _, rfl, _, rfl, m, most, i + 1, lb, d, as, now, R, rfl, hm, hmost, by omega, by omega, hlb, has, ⟨kvs, hkv, hkp⟩, rowsOk_mono hok (by omega), fun x hx => ⟨hnow x hx, (hok.st _ (hnow x hx)).2⟩, fun lc xs H2 new hnew k6 hlc hxs hR hok2 => ?_⟩
        have hnone : now.find? (fun x => x.1 == gt) = none := by
          rw [List.find?_eq_none]
          intro x hx e
          have e : x.1 = gt := eq_of_beq e
          exact hin (List.mem_map.mpr ⟨_, hnow x hx, e⟩)
        have ef : 40 - i = (40 - (i + 1)) + 1 := by omega
        have el := Jm.layer_eq (high := m) (most := most) (R0 := R) now []
        rw [show R ++ Jm.unrev [] = R by simp [Jm.unrev], ← hnew] at el
        rw [ef, Jm.wayFrom_step hnone, el] at hway
        have ek : Jm.keys (Jm.unrev new) = Jm.keys new.reverse := by
          unfold Jm.keys Jm.unrev
          rw [List.map_map]
          rfl
        refine ⟨k5.trans k6, lc, xs, new.reverse, R ++ Jm.unrev new, _, rfl, hlc, by rw [← ek]; exact hxs, hR, hok2, fun x hx => ?_, fun x hx hxe => ?_, hway⟩
        · refine List.mem_append_right _ ?_
          unfold Jm.unrev
          exact List.mem_map.mpr ⟨x, hx, rfl⟩
        · rcases List.mem_append.mp hx with hx | hx
          · exact absurd (List.mem_map.mpr ⟨x, hx, hxe⟩) hin
          · unfold Jm.unrev at hx
            obtain ⟨y, hy, rfl⟩ := List.mem_map.mp hx
            dsimp only
            rw [List.reverse_reverse]
            exact hy
    · rintro σ H1 ⟨k5, lb, as, now, R, v6, rfl, hlb, has, ⟨kvs, hkv, hkp⟩, hok, hnow, hgoal, hway⟩
      have hga1 : StAt H1 ga gt := hga.keep k5
      have hg : DGet H1 d (.ref ga) (valV kvs (keyS gt)) := DGet.t (k := keyS gt) hkv (by rw [keyS_kV]; exact hga1)
      refine ⟨_, rfl, d, rfl, .inr ⟨kvs, .inl hkv⟩, _, rfl, _, hg, ?_⟩
      exact fin 39 0 H1 now R kvs (Nat.le_refl _) k5 hkv hkp hok hnow hgoal hway (.inr rfl)
end
end Jp

set_option Elab.async false
set_option linter.all false
set_option maxRecDepth 100000
set_option maxHeartbeats 4000000
namespace Jp
open PySem PySem.Spec PyProof.Rows L2
section
variable {P : Program} {w : World} {K : PySem.W.Frag} {mg : Str → Option Value} {base : Heap}
def sp_fits_way (K : PySem.W.Frag) : Sp := fun vs H Q _ => ∃ (h most : Nat) (a : Addr) (s : List Int), vs = [.int (h : Nat), .int (most : Nat), .ref a] ∧ SqL K H a (s.map V.int) ∧ s.length ≤ 16 ∧
  ∀ H', Same H H' → Q (.bl (Jm.fitsW h most s)) H'
theorem sc_fits_way : FnScope ["high", "most", "s"] ["high", "most", "s"] (defScope s_fits_way) := ⟨rfl, rfl, rfl, by decide +kernel, rfl, by decide +kernel, by decide +kernel⟩
theorem ok_fits_way {f : Addr} {fd : FuncData} (F : Fun K "fits_way" "fits_way" s_fits_way f fd) (T : Txt mg) (d_is_state : Def P w K mg base "is_state" ["s"] 1 (sp_is_state K)) : FnOk P w K mg base CX0 2 f fd ["high", "most", "s"] (sp_fits_way K) := by
  have sc := sc_fits_way
  refine F.ok sc (fun vs H Q E h => ?_) (fun cdv A outer s H vs Q E hr h => ?_)
  · obtain ⟨m, most, a, t, rfl, _⟩ := h
    rfl
  · obtain ⟨m, most, a, t, rfl, hS, h16, k⟩ := h
    refine ⟨_, (pss_cons (ps_if (pw_or (pt_not (pt_val (pcall d_is_state (hr.mono (by decide)) (pa_cons (pv 2) pa_nil)))) (pw_or1 (pt_cmp (pc_gt (pe_callB (cr_sum rfl) (by rfl) T.b_sum PyProof.Rows.boot_sum (pa_cons (pv 2) pa_nil)) (pgl T.c_MOST_WAY_BALLS))))).pt (pss_one (ps_ret pe_bl)) pss_nil)
      (pss_one (ps_ret (pe_and (pe_cmp (pc_le (pe_maxD (by rfl) (by rfl) T.b_max (pa_cons (pv 2) pa_nil)) (pv 1))) (pe_one (pe_cmp (pc_eqI (pe_callB (cr_sum rfl) (by rfl) T.b_sum PyProof.Rows.boot_sum (pa_cons (pe_slice sl_list (pv 2) (po_some (pv 0)) po_none) pa_nil)) pe_int))))))), ?_⟩
    unfold Jm.fitsW at k
    refine ⟨_, rfl, a, t, rfl, hS, by omega, fun H1 s1 => ⟨_, rfl, ?_⟩⟩
    cases hst : Jm.isState t with
    | false =>
      rw [hst, Bool.false_and] at k
      refine iteT (iteT ?_)
      exact k H1 s1
    | true =>
      rw [hst, Bool.true_and] at k
      refine iteF ?_
      refine ⟨_, rfl, a, t, rfl, s1.seq hS, _, _, rfl, rfl, _, rfl, ite2 (fun hc => ?_) (fun hc => ?_)⟩
      · have hc : (5 : Int) < t.sum := of_decide_eq_true hc
        have := k H1 s1
        rw [decide_eq_false (show ¬ t.sum ≤ 5 by omega), Bool.false_and] at this
        exact this
      · have hc : ¬ (5 : Int) < t.sum := fun q => hc (decide_eq_true q)
        rw [decide_eq_true (show t.sum ≤ 5 by omega), Bool.true_and] at k
        -- sum(s[high:]) == 0
        refine ⟨_, rfl, a, t, rfl, s1.seq hS, fun e0 => ?_, fun mx hmx hge => ?_⟩
        · refine ⟨_, rfl, _, _, rfl, rfl, _, rfl, ite2 (fun hd => ?_) (fun hd => ?_)⟩
          · rw [show (t.all fun z => decide (z ≤ (most : Int))) = true by rw [e0]; rfl, Bool.true_and] at k
            refine ⟨_, rfl, _, rfl, _, rfl, a, _, rfl, s1.seq hS, fun c hc' => ?_⟩
            rw [cut_dropA, ← List.map_drop]
            exact ⟨c, _, rfl, SqL.of upd_same, _, _, rfl, rfl, k _ (s1.new hc')⟩
          · exact absurd (decide_eq_true (show (0 : Int) ≤ (most : Nat) by omega)) hd
        · refine ⟨_, rfl, _, _, rfl, rfl, _, rfl, ite2 (fun hd => ?_) (fun hd => ?_)⟩
          · have hd : mx ≤ (most : Nat) := of_decide_eq_true hd
            have hall : (t.all fun z => decide (z ≤ (most : Int))) = true := List.all_eq_true.mpr fun z hz => decide_eq_true (by have := hge z hz; omega)
            rw [hall, Bool.true_and] at k
            refine ⟨_, rfl, _, rfl, _, rfl, a, _, rfl, s1.seq hS, fun c hc' => ?_⟩
            rw [cut_dropA, ← List.map_drop]
            exact ⟨c, _, rfl, SqL.of upd_same, _, _, rfl, rfl, k _ (s1.new hc')⟩
          · have hd : ¬ mx ≤ (most : Nat) := fun q => hd (decide_eq_true q)
            have hall : (t.all fun z => decide (z ≤ (most : Int))) = false := by
              rw [List.all_eq_false]
              exact ⟨mx, hmx, fun q => hd (of_decide_eq_true q)⟩
            have := k H1 s1
            rw [hall, Bool.false_and] at this
            exact this
end
end Jp

set_option Elab.async false
set_option linter.all false
set_option maxRecDepth 100000
set_option maxHeartbeats 4000000
namespace Jp
open PySem PySem.Spec PyProof.Rows L2
section
variable {P : Program} {w : World} {K : PySem.W.Frag} {mg : Str → Option Value} {base : Heap}
def sp_is_way_asked (K : PySem.W.Frag) : Sp := fun vs H Q _ => ∃ (high most : Int) (a b : Addr) (s u : List Int), vs = [.int high, .int most, .ref a, .ref b] ∧ SqL K H a (s.map V.int) ∧ s.length ≤ 16 ∧ SqL K H b (u.map V.int) ∧ u.length ≤ 16 ∧
  ∀ H', Same H H' → Q (.bl (Jm.asked high most s u)) H'
theorem sc_is_way_asked : FnScope ["high", "most", "s", "u"] ["high", "most", "s", "u"] (defScope s_is_way_asked) := ⟨rfl, rfl, rfl, by decide +kernel, rfl, by decide +kernel, by decide +kernel⟩
theorem ok_is_way_asked {f : Addr} {fd : FuncData} (F : Fun K "is_way_asked" "is_way_asked" s_is_way_asked f fd) (T : Txt mg) (d_fits_way : Def P w K mg base "fits_way" ["high", "most", "s"] 2 (sp_fits_way K)) : FnOk P w K mg base CX0 3 f fd ["high", "most", "s", "u"] (sp_is_way_asked K) := by
  have sc := sc_is_way_asked
  refine F.ok sc (fun vs H Q E h => ?_) (fun cdv A outer s H vs Q E hr h => ?_)
  · obtain ⟨m, most, a, b, t, u, rfl, _⟩ := h
    rfl
  · obtain ⟨m, most, a, b, t, u, rfl, hS, h16, hT, g16, k⟩ := h
    refine ⟨_, (pss_cons (ps_if (pt_not (pw_and (pt_chain op_le op_le pe_int (pv 0) (pgl T.c_MOST_WAY_HEIGHT)) (pw_and1 (pt_chain op_le op_le pe_int (pv 1) (pgl T.c_MOST_WAY_LANDING)))).pt) (pss_one (ps_ret pe_bl)) pss_nil)
      (pss_one (ps_ret (pe_and (pcall d_fits_way (hr.mono (by decide)) (pa_cons (pv 0) (pa_cons (pv 1) (pa_cons (pv 2) pa_nil)))) (pe_and (pcall d_fits_way (hr.mono (by decide)) (pa_cons (pv 0) (pa_cons (pv 1) (pa_cons (pv 3) pa_nil)))) (pe_one (pe_cmp (pc_eqI (pe_callB (cr_sum rfl) (by rfl) T.b_sum PyProof.Rows.boot_sum (pa_cons (pv 2) pa_nil)) (pe_callB (cr_sum rfl) (by rfl) T.b_sum PyProof.Rows.boot_sum (pa_cons (pv 3) pa_nil)))))))))), ?_⟩
    have no : ∀ H', Same H H' → ¬ ((1 ≤ m ∧ m ≤ 8) ∧ 1 ≤ most ∧ most ≤ 2) → Q (.bl false) H' := fun H' s' hn => by
      have := k H' s'
      unfold Jm.asked at this
      rw [show (decide (1 ≤ m ∧ m ≤ 8) && decide (1 ≤ most ∧ most ≤ 2)) = false by
        rw [← Bool.not_eq_true, Bool.and_eq_true, decide_eq_true_eq, decide_eq_true_eq]
        exact hn, Bool.false_and] at this
      exact this
    refine ⟨_, rfl, _, _, rfl, rfl, _, rfl, ite2 (fun h1 => ⟨_, _, rfl, rfl, _, rfl, ite2 (fun h2 => ?_) (fun h2 => ?_)⟩) (fun h1 => ⟨_, rfl, iteF (iteT ?_)⟩)⟩
    · have h1 : 1 ≤ m := of_decide_eq_true h1
      have h2 : m ≤ 8 := of_decide_eq_true h2
      refine ⟨_, rfl, _, _, rfl, rfl, _, rfl, ite2 (fun h3 => ⟨_, _, rfl, rfl, _, rfl, ?_⟩) (fun h3 => ⟨_, rfl, iteT ?_⟩)⟩
      · have h3 : 1 ≤ most := of_decide_eq_true h3
        by_cases h4 : most ≤ 2
        · rw [decide_eq_true h4]
          refine iteF ?_
          have em : m = ((m.toNat : Nat) : Int) := by omega
          have eo : most = ((most.toNat : Nat) : Int) := by omega
          have k2 : ∀ H', Same H H' → Q (.bl (Jm.fitsW m.toNat most.toNat t && (Jm.fitsW m.toNat most.toNat u && decide (t.sum = u.sum)))) H' := fun H' s' => by
            have := k H' s'
            unfold Jm.asked at this
            rw [show (decide (1 ≤ m ∧ m ≤ 8) && decide (1 ≤ most ∧ most ≤ 2)) = true by
              rw [Bool.and_eq_true, decide_eq_true_eq, decide_eq_true_eq]
              exact ⟨⟨h1, h2⟩, h3, h4⟩, Bool.true_and] at this
            exact this
          refine ⟨_, rfl, _, rfl, _, rfl, m.toNat, most.toNat, a, t, by rw [← em, ← eo]; rfl, hS, h16, fun H1 s1 => ⟨_, rfl, ?_⟩⟩
          cases e1 : Jm.fitsW m.toNat most.toNat t with
          | false =>
            rw [e1, Bool.false_and] at k2
            exact iteF (k2 H1 s1)
          | true =>
            rw [e1, Bool.true_and] at k2
            refine iteT ?_
            refine ⟨_, rfl, _, rfl, _, rfl, m.toNat, most.toNat, b, u, by rw [← em, ← eo]; rfl, s1.seq hT, g16, fun H2 s2 => ⟨_, rfl, ?_⟩⟩
            cases e2 : Jm.fitsW m.toNat most.toNat u with
            | false =>
              rw [e2, Bool.false_and] at k2
              exact iteF (k2 H2 (s1.trans s2))
            | true =>
              rw [e2, Bool.true_and] at k2
              refine iteT ?_
              exact ⟨_, rfl, a, t, rfl, (s1.trans s2).seq hS, _, rfl, b, u, rfl, (s1.trans s2).seq hT, _, _, rfl, rfl, k2 H2 (s1.trans s2)⟩
        · rw [decide_eq_false h4]
          exact iteT (no H (Same.refl H) (by omega))
      · have h3 : ¬ 1 ≤ most := fun q => h3 (decide_eq_true q)
        exact no H (Same.refl H) (by omega)
    · have h2 : ¬ m ≤ 8 := fun q => h2 (decide_eq_true q)
      exact iteT (no H (Same.refl H) (by omega))
    · have h1 : ¬ 1 ≤ m := fun q => h1 (decide_eq_true q)
      exact no H (Same.refl H) (by omega)
end
end Jp

set_option Elab.async false
set_option linter.all false
set_option maxRecDepth 100000
set_option maxHeartbeats 4000000
namespace Jp
open PySem PySem.Spec PyProof.Rows L2
section
variable {P : Program} {w : World} {K : PySem.W.Frag} {mg : Str → Option Value} {base : Heap}
def sp_way (K : PySem.W.Frag) : Sp := fun vs H Q _ => ∃ (high most : Int) (a b : Addr) (s u : List Int), vs = [.int high, .int most, .ref a, .ref b] ∧ 0 ≤ high ∧ 0 ≤ most ∧ SqL K H a (s.map V.int) ∧ s.length ≤ 16 ∧ (∀ z ∈ s, 0 ≤ z) ∧ SqL K H b (u.map V.int) ∧ u.length ≤ 16 ∧ (∀ z ∈ u, 0 ≤ z) ∧
  ∀ v H', Keep H H' → (PyWrjugg.way high most s u).length ≤ 1000 → IntsAt H' v (PyWrjugg.way high most s u) → Q v H'
theorem sc_way : FnScope ["high", "most", "s", "u", "row"] ["high", "most", "s", "u"] (defScope s_way) := ⟨rfl, rfl, rfl, by decide +kernel, rfl, by decide +kernel, by decide +kernel⟩
theorem ok_way {f : Addr} {fd : FuncData} (F : Fun K "way" "way" s_way f fd) (T : Txt mg) (d_is_way_asked : Def P w K mg base "is_way_asked" ["high", "most", "s", "u"] 3 (sp_is_way_asked K)) (d_shortest_row : Def P w K mg base "shortest_row" ["high", "most", "start", "goal"] 3 (sp_shortest_row K)) (d_whole_state : Def P w K mg base "whole_state" ["s"] 1 (sp_whole_state K)) (d_told_text : Def P w K mg base "told_text" ["beats"] 3 (sp_told_text K)) : FnOk P w K mg base CX0 4 f fd ["high", "most", "s", "u"] (sp_way K) := by
  have sc := sc_way
  refine F.ok sc (fun vs H Q E h => ?_) (fun cdv A outer s H vs Q E hr h => ?_)
  · obtain ⟨m, most, a, b, t, u, rfl, _⟩ := h
    rfl
  · obtain ⟨m, most, a, b, t, u, rfl, hm0, hmo0, hS, h16, hz, hT, g16, hy, k⟩ := h
    refine ⟨_, (pss_cons (ps_if (pt_not (pt_val (pcall d_is_way_asked (hr.mono (by decide)) (pa_cons (pv 0) (pa_cons (pv 1) (pa_cons (pv 2) (pa_cons (pv 3) pa_nil))))))) (pss_one (ps_ret (pe_lst (pa_cons (pe_un un_neg pe_int) pa_nil)))) pss_nil)
      (pss_cons (ps_set (i := 4) sc.nd rfl (by first | exact Or.inl rfl | exact Or.inr rfl) (pcall d_shortest_row (hr.mono (by decide)) (pa_cons (pv 0) (pa_cons (pv 1) (pa_cons (pcall d_whole_state (hr.mono (by decide)) (pa_cons (pv 2) pa_nil)) (pa_cons (pcall d_whole_state (hr.mono (by decide)) (pa_cons (pv 3) pa_nil)) pa_nil))))))
      (pss_cons (ps_if (pt_cmp (pc_isN (pv 4))) (pss_one (ps_ret (pe_lst (pa_cons (pe_un un_neg pe_int) pa_nil)))) pss_nil)
      (pss_one (ps_ret (pcall d_told_text (hr.mono (by decide)) (pa_cons (pv 4) pa_nil))))))), ?_⟩
    refine ⟨_, rfl, _, rfl, _, rfl, _, rfl, m, most, a, b, t, u, rfl, hS, h16, hT, g16, fun H1 s1 => ⟨_, rfl, ?_⟩⟩
    cases ha : Jm.asked m most t u with
    | false =>
      rw [Jm.way_refused hm0 hmo0 hz hy ha] at k
      refine iteT ⟨_, rfl, by show 1 ≤ sizeLine; decide, fun p hp => k _ _ (s1.new hp).keep (by decide) ⟨p, rfl, ?_⟩⟩
      rw [upd_same]
      rfl
    | true =>
      obtain ⟨ew, hm8, hmo2, hl1, hl2, hgood⟩ := Jm.way_asked hm0 hmo0 hz hy ha
      rw [ew] at k
      refine iteF ?_
      have em : m = ((m.toNat : Nat) : Int) := by omega
      have eo : most = ((most.toNat : Nat) : Int) := by omega
      have hS1 : SqL K H1 a (natsV (Jm.toNats t)) := by
        have := s1.seq hS
        rw [natsV_toNat hz] at this
        exact this
      have hT1 : SqL K H1 b (natsV (Jm.toNats u)) := by
        have := s1.seq hT
        rw [natsV_toNat hy] at this
        exact this
      -- row = shortest_row(high, most, whole_state(s), whole_state(u))
      refine ⟨_, rfl, _, rfl, _, rfl, a, Jm.toNats t, rfl, hS1, hl1, fun x H2 s2 hx => ⟨_, rfl, b, Jm.toNats u, rfl, s2.seq hT1, hl2, fun y H3 s3 hy3 => ?_⟩⟩
      have k3 : Keep H H3 := ((s1.trans s2).trans s3).keep
      refine ⟨m.toNat, most.toNat, x, y, _, _, by rw [← em, ← eo]; rfl, hm8, hmo2, s3 _ _ hx, hy3, hgood, fun H4 k4 hw => ?_, fun v H4 p k4 hw hpat hrow => ?_⟩
      · refine ⟨_, rfl, _, rfl, iteT ⟨_, rfl, by show 1 ≤ sizeLine; decide, fun p hp => k _ _ ((k3.trans k4).new hp) (by rw [hw]; decide) ⟨p, rfl, ?_⟩⟩⟩
        rw [upd_same, hw]
        rfl
      · have hv : ∃ z, v = .ref z := by
          obtain ⟨z, ws, e, _⟩ := hpat
          exact ⟨z, e⟩
        obtain ⟨z, rfl⟩ := hv
        refine ⟨_, rfl, _, rfl, iteF ?_⟩
        refine ⟨_, rfl, _, p, rfl, hpat, fun b hb => by have := (hrow.2 b hb).1; omega, by have := hrow.1; omega, fun q H5 s5 hq0 hq => k _ _ ((k3.trans k4).trans s5.keep) (by rw [hw]; exact Jm.wayOut_len hrow) ⟨q, rfl, ?_⟩⟩
        rw [hq, hw, natsV_int]
        show _ = some (HO.lst ((Jug.gives (Jug.textOf p)).map V.int))
        rw [Jm.gives_eq fun b hb n hn => by have := ((hrow.2 b hb).2 n hn).2; omega]
end
end Jp

set_option Elab.async false
set_option linter.all false
set_option maxRecDepth 100000
set_option maxHeartbeats 4000000
namespace Jp
open PySem PySem.Spec PyProof.Rows L2
section
variable {P : Program} {w : World} {K : PySem.W.Frag} {mg : Str → Option Value} {base : Heap}
def sp_pair_refusal (K : PySem.W.Frag) : Sp := fun vs H Q _ => ∃ (a b : Addr) (t u : List Int), vs = [.ref a, .ref b] ∧ SqL K H a (t.map V.int) ∧ Jm.Ok8 t ∧ t.length ≤ 64 ∧ SqL K H b (u.map V.int) ∧ Jm.Ok8 u ∧ u.length ≤ 64 ∧
  ∀ v H', Same H H' → IntsAt H' v (if Jm.refusal t = [] then Jm.refusal u else Jm.refusal t) → Q v H'
theorem sc_pair_refusal : FnScope ["t", "u", "refusal"] ["t", "u"] (defScope s_pair_refusal) := ⟨rfl, rfl, rfl, by decide +kernel, rfl, by decide +kernel, by decide +kernel⟩
theorem ok_pair_refusal {f : Addr} {fd : FuncData} (F : Fun K "pair_refusal" "pair_refusal" s_pair_refusal f fd) (T : Txt mg) (d_pattern_refusal : Def P w K mg base "pattern_refusal" ["t"] 5 (sp_pattern_refusal K)) : FnOk P w K mg base CX0 6 f fd ["t", "u"] (sp_pair_refusal K) := by
  have sc := sc_pair_refusal
  refine F.ok sc (fun vs H Q E h => ?_) (fun cdv A outer s H vs Q E hr h => ?_)
  · obtain ⟨a, b, t, u, rfl, _⟩ := h
    rfl
  · obtain ⟨a, b, t, u, rfl, hS, h8, h64, hT, g8, g64, k⟩ := h
    refine ⟨_, (pss_cons (ps_set (i := 2) sc.nd rfl (by first | exact Or.inl rfl | exact Or.inr rfl) (pcall d_pattern_refusal (hr.mono (by decide)) (pa_cons (pv 0) pa_nil)))
      (pss_cons (ps_if (pt_cmp (pc_gt (pe_callB call_len_seq (by rfl) T.b_len PySem.boot_len (pa_cons (pv 2) pa_nil)) pe_int)) (pss_one (ps_ret (pv 2))) pss_nil)
      (pss_one (ps_ret (pcall d_pattern_refusal (hr.mono (by decide)) (pa_cons (pv 1) pa_nil)))))), ?_⟩
    refine ⟨_, rfl, a, t, rfl, hS, h8, h64, fun v H1 s1 hv => ?_⟩
    obtain ⟨x, rfl, hx⟩ := hv
    refine ⟨_, rfl, _, _, rfl, .inl (SqL.of hx), _, _, rfl, rfl, _, rfl, ite2 (fun hc => ?_) (fun hc => ?_)⟩
    · have hne : Jm.refusal t ≠ [] := fun e => by
        rw [e] at hc
        exact absurd (of_decide_eq_true hc) (by decide)
      rw [if_neg hne] at k
      exact ⟨_, rfl, k _ _ s1 ⟨x, rfl, hx⟩⟩
    · have he : Jm.refusal t = [] := by
        cases e : Jm.refusal t with
        | nil => rfl
        | cons z r =>
          rw [e] at hc
          exact absurd (decide_eq_true (by simp)) hc
      rw [if_pos he] at k
      exact ⟨_, rfl, b, u, rfl, s1.seq hT, g8, g64, fun v2 H2 s2 hv2 => k _ _ (s1.trans s2) hv2⟩
end
end Jp

set_option Elab.async false
set_option linter.all false
set_option maxRecDepth 100000
set_option maxHeartbeats 4000000
namespace Jp
open PySem PySem.Spec PyProof.Rows L2
section
variable {P : Program} {w : World} {K : PySem.W.Frag} {mg : Str → Option Value} {base : Heap}
def sp_join (K : PySem.W.Frag) : Sp := fun vs H Q _ => ∃ (high most : Int) (a b : Addr) (t u : List Int), vs = [.int high, .int most, .ref a, .ref b] ∧ 0 ≤ high ∧ 0 ≤ most ∧ SqL K H a (t.map V.int) ∧ Jm.Ok8 t ∧ t.length ≤ 64 ∧ SqL K H b (u.map V.int) ∧ Jm.Ok8 u ∧ u.length ≤ 64 ∧
  ∀ v H', IntsAt H' v (PyWrjugg.join high most t u) → Q v H'
theorem sc_join : FnScope ["high", "most", "t", "u", "refusal", "here", "there", "forth"] ["high", "most", "t", "u"] (defScope s_join) := ⟨rfl, rfl, rfl, by decide +kernel, rfl, by decide +kernel, by decide +kernel⟩
theorem ok_join {f : Addr} {fd : FuncData} (F : Fun K "join" "join" s_join f fd) (T : Txt mg) (d_pair_refusal : Def P w K mg base "pair_refusal" ["t", "u"] 6 (sp_pair_refusal K)) (d_state_before : Def P w K mg base "state_before" ["beats", "moment"] 1 (sp_state_before K)) (d_read_beats : Def P w K mg base "read_beats" ["t"] 2 (sp_read_beats K)) (d_way : Def P w K mg base "way" ["high", "most", "s", "u"] 4 (sp_way K)) : FnOk P w K mg base CX0 7 f fd ["high", "most", "t", "u"] (sp_join K) := by
  have sc := sc_join
  refine F.ok sc (fun vs H Q E h => ?_) (fun cdv A outer s H vs Q E hr h => ?_)
  · obtain ⟨m, most, a, b, t, u, rfl, _⟩ := h
    rfl
  · obtain ⟨m, most, a, b, t, u, rfl, hm0, hmo0, hS, h8, h64, hT, g8, g64, k⟩ := h
    refine ⟨_, (pss_cons (ps_set (i := 4) sc.nd rfl (by first | exact Or.inl rfl | exact Or.inr rfl) (pcall d_pair_refusal (hr.mono (by decide)) (pa_cons (pv 2) (pa_cons (pv 3) pa_nil))))
      (pss_cons (ps_if (pt_cmp (pc_gt (pe_callB call_len_seq (by rfl) T.b_len PySem.boot_len (pa_cons (pv 4) pa_nil)) pe_int)) (pss_one (ps_ret (pv 4))) pss_nil)
      (pss_cons (ps_set (i := 5) sc.nd rfl (by first | exact Or.inl rfl | exact Or.inr rfl) (pe_callTy call_list_of (by rfl) T.b_list PyProof.Rows.boot_list (pa_cons (pcall d_state_before (hr.mono (by decide)) (pa_cons (pcall d_read_beats (hr.mono (by decide)) (pa_cons (pv 2) pa_nil)) (pa_cons pe_int pa_nil))) pa_nil)))
      (pss_cons (ps_set (i := 6) sc.nd rfl (by first | exact Or.inl rfl | exact Or.inr rfl) (pe_callTy call_list_of (by rfl) T.b_list PyProof.Rows.boot_list (pa_cons (pcall d_state_before (hr.mono (by decide)) (pa_cons (pcall d_read_beats (hr.mono (by decide)) (pa_cons (pv 3) pa_nil)) (pa_cons pe_int pa_nil))) pa_nil)))
      (pss_cons (ps_set (i := 7) sc.nd rfl (by first | exact Or.inl rfl | exact Or.inr rfl) (pcall d_way (hr.mono (by decide)) (pa_cons (pv 0) (pa_cons (pv 1) (pa_cons (pv 5) (pa_cons (pv 6) pa_nil))))))
      (pss_cons (ps_if (pt_cmpR (op_eqD hr.units) (pv 7) (pe_lst (pa_cons (pe_un un_neg pe_int) pa_nil)) (nomark _)) (pss_one (ps_ret (pv 7))) pss_nil)
      (pss_one (ps_ret (pe_op op_cat (pv 7) (pcall d_way (hr.mono (by decide)) (pa_cons (pv 0) (pa_cons (pv 1) (pa_cons (pv 6) (pa_cons (pv 5) pa_nil)))))))))))))), ?_⟩
    have ef : PyWrjugg.join m most t u = Jug.of (Jm.by8 t) (fun p => Jug.of (Jm.by8 u) fun q =>
      if Jug.waySpans m.toNat most.toNat = false ∨ Jug.within m.toNat most.toNat (Jug.airAt p 0) = false ∨ Jug.within m.toNat most.toNat (Jug.airAt q 0) = false ∨ Jug.balls p ≠ Jug.balls q then Jug.says (-1)
      else Jug.wayOut (Jug.way m.toNat most.toNat (Jug.airAt p 0) (Jug.airAt q 0)) ++ Jug.wayOut (Jug.way m.toNat most.toNat (Jug.airAt q 0) (Jug.airAt p 0))) := rfl
    rw [ef] at k
    clear ef
    have pos_ : ∀ (l : List Int), l ≠ [] → (fun i j => decide (j < i)) (((l.map V.int).length : Nat) : Int) 0 = true := fun l hl => by
      cases l with
      | nil => exact absurd rfl hl
      | cons z r => exact decide_eq_true (by simp)
    refine ⟨_, rfl, _, rfl, a, b, t, u, rfl, hS, h8, h64, hT, g8, g64, fun v H2 s12 hv => ?_⟩
    obtain ⟨y, rfl, hy⟩ := hv
    refine ⟨_, rfl, _, _, rfl, .inl (SqL.of hy), _, _, rfl, rfl, _, rfl, ite2 (fun hd => ?_) (fun hd => ?_)⟩
    · refine ⟨_, rfl, ?_⟩
      by_cases he : Jm.refusal t = []
      · rw [if_pos he] at hy hd
        have hne : Jm.refusal u ≠ [] := fun e => by
          rw [e] at hd
          exact absurd (of_decide_eq_true hd) (by decide)
        obtain ⟨p, hp, hcl, eo⟩ := Jm.of_right (f := fun p => Jug.of (Jm.by8 u) fun q =>
        if Jug.waySpans m.toNat most.toNat = false ∨ Jug.within m.toNat most.toNat (Jug.airAt p 0) = false ∨ Jug.within m.toNat most.toNat (Jug.airAt q 0) = false ∨ Jug.balls p ≠ Jug.balls q then Jug.says (-1)
        else Jug.wayOut (Jug.way m.toNat most.toNat (Jug.airAt p 0) (Jug.airAt q 0)) ++ Jug.wayOut (Jug.way m.toNat most.toNat (Jug.airAt q 0) (Jug.airAt p 0))) he
        rw [eo, Jm.of_refused hne] at k
        exact k _ _ ⟨y, rfl, hy⟩
      · rw [if_neg he] at hy
        rw [Jm.of_refused he] at k
        exact k _ _ ⟨y, rfl, hy⟩
    · have hr0 : (if Jm.refusal t = [] then Jm.refusal u else Jm.refusal t) = [] := Classical.byContradiction fun hne => hd (pos_ _ hne)
      have he : Jm.refusal t = [] := Classical.byContradiction fun hne => hne (by rw [if_neg hne] at hr0; exact hr0)
      have he2 : Jm.refusal u = [] := by rw [if_pos he] at hr0; exact hr0
      obtain ⟨p, hp, hcl, eo⟩ := Jm.of_right (f := fun p => Jug.of (Jm.by8 u) fun q =>
        if Jug.waySpans m.toNat most.toNat = false ∨ Jug.within m.toNat most.toNat (Jug.airAt p 0) = false ∨ Jug.within m.toNat most.toNat (Jug.airAt q 0) = false ∨ Jug.balls p ≠ Jug.balls q then Jug.says (-1)
        else Jug.wayOut (Jug.way m.toNat most.toNat (Jug.airAt p 0) (Jug.airAt q 0)) ++ Jug.wayOut (Jug.way m.toNat most.toNat (Jug.airAt q 0) (Jug.airAt p 0))) he
      rw [eo] at k
      clear eo
      obtain ⟨hG, g1, g2⟩ := Jm.read_good h8 hp
      obtain ⟨q, hq, hcl2, eo2⟩ := Jm.of_right (f := fun q =>
        if Jug.waySpans m.toNat most.toNat = false ∨ Jug.within m.toNat most.toNat (Jug.airAt p 0) = false ∨ Jug.within m.toNat most.toNat (Jug.airAt q 0) = false ∨ Jug.balls p ≠ Jug.balls q then Jug.says (-1)
        else Jug.wayOut (Jug.way m.toNat most.toNat (Jug.airAt p 0) (Jug.airAt q 0)) ++ Jug.wayOut (Jug.way m.toNat most.toNat (Jug.airAt q 0) (Jug.airAt p 0))) he2
      rw [eo2] at k
      clear eo2
      obtain ⟨hG2, g12, g22⟩ := Jm.read_good g8 hq
      rw [Jm.join_body hm0 hmo0 ⟨g1, fun b hb => (hG b hb).2.1, hcl⟩ ⟨g12, fun b hb => (hG2 b hb).2.1, hcl2⟩] at k
      -- here = list(state_before(read_beats(t), 0))
      refine ⟨_, rfl, a, t, p, rfl, s12.seq hS, h8, h64, hp, fun v3 H3 s3 hPat => ⟨v3, p, 0, rfl, hPat, hG, g1, g2, fun z H4 s4 hz0 hz => ⟨z, _, rfl, .inr (SqT.of hz), fun l1 hl1 => ?_⟩⟩⟩
      have s14 := (s12.trans s3).trans s4
      have s15 := s14.new (o := .lst (natsV (Jug.airAt p (0 % p.length)))) hl1
      -- there = list(state_before(read_beats(u), 0))
      refine ⟨_, rfl, b, u, q, rfl, s15.seq hT, g8, g64, hq, fun v5 H5 s5 hPat2 => ⟨v5, q, 0, rfl, hPat2, hG2, g12, g22, fun z2 H6 s6 hz20 hz2 => ⟨z2, _, rfl, .inr (SqT.of hz2), fun l2 hl2 => ?_⟩⟩⟩
      have e1 : natsV (Jug.airAt p (0 % p.length)) = (Jug.nats (Jug.airAt p 0)).map V.int := by rw [Nat.zero_mod, natsV_int]; rfl
      have e2 : natsV (Jug.airAt q (0 % q.length)) = (Jug.nats (Jug.airAt q 0)).map V.int := by rw [Nat.zero_mod, natsV_int]; rfl
      have hh : upd H6 l2 (.lst (natsV (Jug.airAt q (0 % q.length)))) l1 = some (.lst ((Jug.nats (Jug.airAt p 0)).map V.int)) := by
        have h1 : H6 l1 = some (.lst (natsV (Jug.airAt p (0 % p.length)))) := s6 _ _ (s5 _ _ upd_same)
        rw [upd_ne (ne_of_none h1 hl2), ← e1]
        exact h1
      have ht : upd H6 l2 (.lst (natsV (Jug.airAt q (0 % q.length)))) l2 = some (.lst ((Jug.nats (Jug.airAt q 0)).map V.int)) := by rw [upd_same, e2]
      generalize upd H6 l2 (.lst (natsV (Jug.airAt q (0 % q.length)))) = H7 at hh ht ⊢
      have ln1 : (Jug.nats (Jug.airAt p 0)).length ≤ 16 := by unfold Jug.nats; rw [List.length_map, Jm.air_len]; decide
      have ln2 : (Jug.nats (Jug.airAt q 0)).length ≤ 16 := by unfold Jug.nats; rw [List.length_map, Jm.air_len]; decide
      have n1 := Jm.nats_nonneg (Jug.airAt p 0)
      have n2 := Jm.nats_nonneg (Jug.airAt q 0)
      -- forth = way(high, most, here, there)
      refine ⟨_, rfl, _, rfl, _, rfl, _, rfl, m, most, l1, l2, _, _, rfl, hm0, hmo0, SqL.of hh, ln1, n1, SqL.of ht, ln2, n2, fun v8 H8 k8 len8 hv8 => ?_⟩
      obtain ⟨f, rfl, hf⟩ := hv8
      -- if forth == [-1]
      refine ⟨_, rfl, _, rfl, by show 1 ≤ sizeLine; decide, fun c hc0 => ?_⟩
      have hf9 : upd H8 c (.lst [V.int (-1)]) f = some (.lst ((PyWrjugg.way m most (Jug.nats (Jug.airAt p 0)) (Jug.nats (Jug.airAt q 0))).map V.int)) := by rw [upd_ne (ne_of_none hf hc0)]; exact hf
      refine ⟨_, intsD [-1], IntsAt.dp (l := PyWrjugg.way m most (Jug.nats (Jug.airAt p 0)) (Jug.nats (Jug.airAt q 0))) ⟨f, rfl, hf9⟩, IntsAt.dp ⟨c, rfl, upd_same⟩, intsD_shaped _, intsD_shaped _, _, rfl, ?_⟩
      rw [intsD_eqv]
      by_cases ha : Jm.asked m most (Jug.nats (Jug.airAt p 0)) (Jug.nats (Jug.airAt q 0)) = true
      · rw [if_pos ha] at k
        have hw := (Jm.way_asked hm0 hmo0 n1 n2 ha).1
        rw [decide_eq_false (by rw [hw]; exact Jm.wayOut_ne _)]
        refine iteF ?_
        have k9 : Keep H7 (upd H8 c (.lst [V.int (-1)])) := k8.new hc0
        -- return forth + way(high, most, there, here)
        refine ⟨_, rfl, _, rfl, _, rfl, _, rfl, _, rfl, m, most, l2, l1, _, _, rfl, hm0, hmo0, SqL.of (k9.lst ht), ln2, n2, SqL.of (k9.lst hh), ln1, n1, fun v10 H10 k10 len10 hv10 => ?_⟩
        obtain ⟨g, rfl, hg⟩ := hv10
        refine ⟨f, g, _, _, rfl, rfl, k10.lst hf9, hg, ?_, fun r hr => k _ _ ⟨r, rfl, ?_⟩⟩
        · rw [List.length_map, List.length_map]
          exact Nat.le_of_lt (Nat.lt_of_le_of_lt (Nat.add_le_add len8 len10) (by decide))
        · rw [upd_same, List.map_append]
      · rw [if_neg ha] at k
        have hw := Jm.way_refused hm0 hmo0 n1 n2 ((Bool.not_eq_true _).mp ha)
        rw [decide_eq_true hw]
        refine iteT ⟨_, rfl, k _ _ ⟨f, rfl, ?_⟩⟩
        rw [hf9, hw]
end
end Jp

set_option Elab.async false
set_option linter.all false
set_option maxRecDepth 100000
set_option maxHeartbeats 4000000
namespace Jp
open PySem PySem.Spec PyProof.Rows L2
open PySem.W (Codec)
theorem all_mk {P : Program} {w : World} {K : PySem.W.Frag} {h : Heap} {mg : Str → Option Value} {fa : Addr} (X : K.In h) (G : h.Ns mainGlobals mg) (hfa : mg "join" = some (.ref fa))
    {f_height_of : Addr} {od_height_of an_height_of : Option Addr} {sl_height_of : Array (Option Value)} {oc_height_of kV_height_of dc_height_of pm_height_of cd_height_of ct_height_of : Value}
    {f_digit_of : Addr} {od_digit_of an_digit_of : Option Addr} {sl_digit_of : Array (Option Value)} {oc_digit_of kV_digit_of dc_digit_of pm_digit_of cd_digit_of ct_digit_of : Value}
    {f_bracket_fault : Addr} {od_bracket_fault an_bracket_fault : Option Addr} {sl_bracket_fault : Array (Option Value)} {oc_bracket_fault kV_bracket_fault dc_bracket_fault pm_bracket_fault cd_bracket_fault ct_bracket_fault : Value}
    {f_beat_fault : Addr} {od_beat_fault an_beat_fault : Option Addr} {sl_beat_fault : Array (Option Value)} {oc_beat_fault kV_beat_fault dc_beat_fault pm_beat_fault cd_beat_fault ct_beat_fault : Value}
    {f_beat_end : Addr} {od_beat_end an_beat_end : Option Addr} {sl_beat_end : Array (Option Value)} {oc_beat_end kV_beat_end dc_beat_end pm_beat_end cd_beat_end ct_beat_end : Value}
    {f_text_fault : Addr} {od_text_fault an_text_fault : Option Addr} {sl_text_fault : Array (Option Value)} {oc_text_fault kV_text_fault dc_text_fault pm_text_fault cd_text_fault ct_text_fault : Value}
    {f_read_beats : Addr} {od_read_beats an_read_beats : Option Addr} {sl_read_beats : Array (Option Value)} {oc_read_beats kV_read_beats dc_read_beats pm_read_beats cd_read_beats ct_read_beats : Value}
    {f_beat_text : Addr} {od_beat_text an_beat_text : Option Addr} {sl_beat_text : Array (Option Value)} {oc_beat_text kV_beat_text dc_beat_text pm_beat_text cd_beat_text ct_beat_text : Value}
    {f_told_text : Addr} {od_told_text an_told_text : Option Addr} {sl_told_text : Array (Option Value)} {oc_told_text kV_told_text dc_told_text pm_told_text cd_told_text ct_told_text : Value}
    {f_landing_counts : Addr} {od_landing_counts an_landing_counts : Option Addr} {sl_landing_counts : Array (Option Value)} {oc_landing_counts kV_landing_counts dc_landing_counts pm_landing_counts cd_landing_counts ct_landing_counts : Value}
    {f_wrong_beat : Addr} {od_wrong_beat an_wrong_beat : Option Addr} {sl_wrong_beat : Array (Option Value)} {oc_wrong_beat kV_wrong_beat dc_wrong_beat pm_wrong_beat cd_wrong_beat ct_wrong_beat : Value}
    {f_pattern_refusal : Addr} {od_pattern_refusal an_pattern_refusal : Option Addr} {sl_pattern_refusal : Array (Option Value)} {oc_pattern_refusal kV_pattern_refusal dc_pattern_refusal pm_pattern_refusal cd_pattern_refusal ct_pattern_refusal : Value}
    {f_state_before : Addr} {od_state_before an_state_before : Option Addr} {sl_state_before : Array (Option Value)} {oc_state_before kV_state_before dc_state_before pm_state_before cd_state_before ct_state_before : Value}
    {f_is_state : Addr} {od_is_state an_is_state : Option Addr} {sl_is_state : Array (Option Value)} {oc_is_state kV_is_state dc_is_state pm_is_state cd_is_state ct_is_state : Value}
    {f_whole_state : Addr} {od_whole_state an_whole_state : Option Addr} {sl_whole_state : Array (Option Value)} {oc_whole_state kV_whole_state dc_whole_state pm_whole_state cd_whole_state ct_whole_state : Value}
    {f_state_after : Addr} {od_state_after an_state_after : Option Addr} {sl_state_after : Array (Option Value)} {oc_state_after kV_state_after dc_state_after pm_state_after cd_state_after ct_state_after : Value}
    {f_beats_up_to : Addr} {od_beats_up_to an_beats_up_to : Option Addr} {sl_beats_up_to : Array (Option Value)} {oc_beats_up_to kV_beats_up_to dc_beats_up_to pm_beats_up_to cd_beats_up_to ct_beats_up_to : Value}
    {f_next_layer : Addr} {od_next_layer an_next_layer : Option Addr} {sl_next_layer : Array (Option Value)} {oc_next_layer kV_next_layer dc_next_layer pm_next_layer cd_next_layer ct_next_layer : Value}
    {f_shortest_row : Addr} {od_shortest_row an_shortest_row : Option Addr} {sl_shortest_row : Array (Option Value)} {oc_shortest_row kV_shortest_row dc_shortest_row pm_shortest_row cd_shortest_row ct_shortest_row : Value}
    {f_fits_way : Addr} {od_fits_way an_fits_way : Option Addr} {sl_fits_way : Array (Option Value)} {oc_fits_way kV_fits_way dc_fits_way pm_fits_way cd_fits_way ct_fits_way : Value}
    {f_is_way_asked : Addr} {od_is_way_asked an_is_way_asked : Option Addr} {sl_is_way_asked : Array (Option Value)} {oc_is_way_asked kV_is_way_asked dc_is_way_asked pm_is_way_asked cd_is_way_asked ct_is_way_asked : Value}
    {f_way : Addr} {od_way an_way : Option Addr} {sl_way : Array (Option Value)} {oc_way kV_way dc_way pm_way cd_way ct_way : Value}
    {f_pair_refusal : Addr} {od_pair_refusal an_pair_refusal : Option Addr} {sl_pair_refusal : Array (Option Value)} {oc_pair_refusal kV_pair_refusal dc_pair_refusal pm_pair_refusal cd_pair_refusal ct_pair_refusal : Value}
    {f_join : Addr} {od_join an_join : Option Addr} {sl_join : Array (Option Value)} {oc_join kV_join dc_join pm_join cd_join ct_join : Value}
    {t_CLOSING : Tok}
    {t_LETTER_A : Tok}
    {t_LETTER_F : Tok}
    {t_MOST_BEATS : Tok}
    {t_MOST_ROW : Tok}
    {t_MOST_THROWS : Tok}
    {t_MOST_WAY_BALLS : Tok}
    {t_MOST_WAY_HEIGHT : Tok}
    {t_MOST_WAY_LANDING : Tok}
    {t_NINE : Tok}
    {t_OPENING : Tok}
    {t_SPAN : Tok}
    {t_ZERO : Tok}
    (a_height_of : PySem.W.nsIn K mainGlobals "height_of" = some (some (.ref f_height_of)))
    (l_height_of : K.lookup f_height_of = some ⟨oc_height_of, od_height_of, .func (PySem.W.fnOf "height_of" "height_of" (defArgs s_height_of) (defBody s_height_of) (defScope s_height_of) .none kV_height_of dc_height_of pm_height_of an_height_of cd_height_of ct_height_of), sl_height_of⟩)
    (c_height_of : PySem.W.codeIn K cd_height_of "height_of" = true)
    (k_height_of : PySem.W.keepIn K (.ref f_height_of) = true)
    (a_digit_of : PySem.W.nsIn K mainGlobals "digit_of" = some (some (.ref f_digit_of)))
    (l_digit_of : K.lookup f_digit_of = some ⟨oc_digit_of, od_digit_of, .func (PySem.W.fnOf "digit_of" "digit_of" (defArgs s_digit_of) (defBody s_digit_of) (defScope s_digit_of) .none kV_digit_of dc_digit_of pm_digit_of an_digit_of cd_digit_of ct_digit_of), sl_digit_of⟩)
    (c_digit_of : PySem.W.codeIn K cd_digit_of "digit_of" = true)
    (k_digit_of : PySem.W.keepIn K (.ref f_digit_of) = true)
    (a_bracket_fault : PySem.W.nsIn K mainGlobals "bracket_fault" = some (some (.ref f_bracket_fault)))
    (l_bracket_fault : K.lookup f_bracket_fault = some ⟨oc_bracket_fault, od_bracket_fault, .func (PySem.W.fnOf "bracket_fault" "bracket_fault" (defArgs s_bracket_fault) (defBody s_bracket_fault) (defScope s_bracket_fault) .none kV_bracket_fault dc_bracket_fault pm_bracket_fault an_bracket_fault cd_bracket_fault ct_bracket_fault), sl_bracket_fault⟩)
    (c_bracket_fault : PySem.W.codeIn K cd_bracket_fault "bracket_fault" = true)
    (k_bracket_fault : PySem.W.keepIn K (.ref f_bracket_fault) = true)
    (a_beat_fault : PySem.W.nsIn K mainGlobals "beat_fault" = some (some (.ref f_beat_fault)))
    (l_beat_fault : K.lookup f_beat_fault = some ⟨oc_beat_fault, od_beat_fault, .func (PySem.W.fnOf "beat_fault" "beat_fault" (defArgs s_beat_fault) (defBody s_beat_fault) (defScope s_beat_fault) .none kV_beat_fault dc_beat_fault pm_beat_fault an_beat_fault cd_beat_fault ct_beat_fault), sl_beat_fault⟩)
    (c_beat_fault : PySem.W.codeIn K cd_beat_fault "beat_fault" = true)
    (k_beat_fault : PySem.W.keepIn K (.ref f_beat_fault) = true)
    (a_beat_end : PySem.W.nsIn K mainGlobals "beat_end" = some (some (.ref f_beat_end)))
    (l_beat_end : K.lookup f_beat_end = some ⟨oc_beat_end, od_beat_end, .func (PySem.W.fnOf "beat_end" "beat_end" (defArgs s_beat_end) (defBody s_beat_end) (defScope s_beat_end) .none kV_beat_end dc_beat_end pm_beat_end an_beat_end cd_beat_end ct_beat_end), sl_beat_end⟩)
    (c_beat_end : PySem.W.codeIn K cd_beat_end "beat_end" = true)
    (k_beat_end : PySem.W.keepIn K (.ref f_beat_end) = true)
    (a_text_fault : PySem.W.nsIn K mainGlobals "text_fault" = some (some (.ref f_text_fault)))
    (l_text_fault : K.lookup f_text_fault = some ⟨oc_text_fault, od_text_fault, .func (PySem.W.fnOf "text_fault" "text_fault" (defArgs s_text_fault) (defBody s_text_fault) (defScope s_text_fault) .none kV_text_fault dc_text_fault pm_text_fault an_text_fault cd_text_fault ct_text_fault), sl_text_fault⟩)
    (c_text_fault : PySem.W.codeIn K cd_text_fault "text_fault" = true)
    (k_text_fault : PySem.W.keepIn K (.ref f_text_fault) = true)
    (a_read_beats : PySem.W.nsIn K mainGlobals "read_beats" = some (some (.ref f_read_beats)))
    (l_read_beats : K.lookup f_read_beats = some ⟨oc_read_beats, od_read_beats, .func (PySem.W.fnOf "read_beats" "read_beats" (defArgs s_read_beats) (defBody s_read_beats) (defScope s_read_beats) .none kV_read_beats dc_read_beats pm_read_beats an_read_beats cd_read_beats ct_read_beats), sl_read_beats⟩)
    (c_read_beats : PySem.W.codeIn K cd_read_beats "read_beats" = true)
    (k_read_beats : PySem.W.keepIn K (.ref f_read_beats) = true)
    (a_beat_text : PySem.W.nsIn K mainGlobals "beat_text" = some (some (.ref f_beat_text)))
    (l_beat_text : K.lookup f_beat_text = some ⟨oc_beat_text, od_beat_text, .func (PySem.W.fnOf "beat_text" "beat_text" (defArgs s_beat_text) (defBody s_beat_text) (defScope s_beat_text) .none kV_beat_text dc_beat_text pm_beat_text an_beat_text cd_beat_text ct_beat_text), sl_beat_text⟩)
    (c_beat_text : PySem.W.codeIn K cd_beat_text "beat_text" = true)
    (k_beat_text : PySem.W.keepIn K (.ref f_beat_text) = true)
    (a_told_text : PySem.W.nsIn K mainGlobals "told_text" = some (some (.ref f_told_text)))
    (l_told_text : K.lookup f_told_text = some ⟨oc_told_text, od_told_text, .func (PySem.W.fnOf "told_text" "told_text" (defArgs s_told_text) (defBody s_told_text) (defScope s_told_text) .none kV_told_text dc_told_text pm_told_text an_told_text cd_told_text ct_told_text), sl_told_text⟩)
    (c_told_text : PySem.W.codeIn K cd_told_text "told_text" = true)
    (k_told_text : PySem.W.keepIn K (.ref f_told_text) = true)
    (a_landing_counts : PySem.W.nsIn K mainGlobals "landing_counts" = some (some (.ref f_landing_counts)))
    (l_landing_counts : K.lookup f_landing_counts = some ⟨oc_landing_counts, od_landing_counts, .func (PySem.W.fnOf "landing_counts" "landing_counts" (defArgs s_landing_counts) (defBody s_landing_counts) (defScope s_landing_counts) .none kV_landing_counts dc_landing_counts pm_landing_counts an_landing_counts cd_landing_counts ct_landing_counts), sl_landing_counts⟩)
    (c_landing_counts : PySem.W.codeIn K cd_landing_counts "landing_counts" = true)
    (k_landing_counts : PySem.W.keepIn K (.ref f_landing_counts) = true)
    (a_wrong_beat : PySem.W.nsIn K mainGlobals "wrong_beat" = some (some (.ref f_wrong_beat)))
    (l_wrong_beat : K.lookup f_wrong_beat = some ⟨oc_wrong_beat, od_wrong_beat, .func (PySem.W.fnOf "wrong_beat" "wrong_beat" (defArgs s_wrong_beat) (defBody s_wrong_beat) (defScope s_wrong_beat) .none kV_wrong_beat dc_wrong_beat pm_wrong_beat an_wrong_beat cd_wrong_beat ct_wrong_beat), sl_wrong_beat⟩)
    (c_wrong_beat : PySem.W.codeIn K cd_wrong_beat "wrong_beat" = true)
    (k_wrong_beat : PySem.W.keepIn K (.ref f_wrong_beat) = true)
    (a_pattern_refusal : PySem.W.nsIn K mainGlobals "pattern_refusal" = some (some (.ref f_pattern_refusal)))
    (l_pattern_refusal : K.lookup f_pattern_refusal = some ⟨oc_pattern_refusal, od_pattern_refusal, .func (PySem.W.fnOf "pattern_refusal" "pattern_refusal" (defArgs s_pattern_refusal) (defBody s_pattern_refusal) (defScope s_pattern_refusal) .none kV_pattern_refusal dc_pattern_refusal pm_pattern_refusal an_pattern_refusal cd_pattern_refusal ct_pattern_refusal), sl_pattern_refusal⟩)
    (c_pattern_refusal : PySem.W.codeIn K cd_pattern_refusal "pattern_refusal" = true)
    (k_pattern_refusal : PySem.W.keepIn K (.ref f_pattern_refusal) = true)
    (a_state_before : PySem.W.nsIn K mainGlobals "state_before" = some (some (.ref f_state_before)))
    (l_state_before : K.lookup f_state_before = some ⟨oc_state_before, od_state_before, .func (PySem.W.fnOf "state_before" "state_before" (defArgs s_state_before) (defBody s_state_before) (defScope s_state_before) .none kV_state_before dc_state_before pm_state_before an_state_before cd_state_before ct_state_before), sl_state_before⟩)
    (c_state_before : PySem.W.codeIn K cd_state_before "state_before" = true)
    (k_state_before : PySem.W.keepIn K (.ref f_state_before) = true)
    (a_is_state : PySem.W.nsIn K mainGlobals "is_state" = some (some (.ref f_is_state)))
    (l_is_state : K.lookup f_is_state = some ⟨oc_is_state, od_is_state, .func (PySem.W.fnOf "is_state" "is_state" (defArgs s_is_state) (defBody s_is_state) (defScope s_is_state) .none kV_is_state dc_is_state pm_is_state an_is_state cd_is_state ct_is_state), sl_is_state⟩)
    (c_is_state : PySem.W.codeIn K cd_is_state "is_state" = true)
    (k_is_state : PySem.W.keepIn K (.ref f_is_state) = true)
    (a_whole_state : PySem.W.nsIn K mainGlobals "whole_state" = some (some (.ref f_whole_state)))
    (l_whole_state : K.lookup f_whole_state = some ⟨oc_whole_state, od_whole_state, .func (PySem.W.fnOf "whole_state" "whole_state" (defArgs s_whole_state) (defBody s_whole_state) (defScope s_whole_state) .none kV_whole_state dc_whole_state pm_whole_state an_whole_state cd_whole_state ct_whole_state), sl_whole_state⟩)
    (c_whole_state : PySem.W.codeIn K cd_whole_state "whole_state" = true)
    (k_whole_state : PySem.W.keepIn K (.ref f_whole_state) = true)
    (a_state_after : PySem.W.nsIn K mainGlobals "state_after" = some (some (.ref f_state_after)))
    (l_state_after : K.lookup f_state_after = some ⟨oc_state_after, od_state_after, .func (PySem.W.fnOf "state_after" "state_after" (defArgs s_state_after) (defBody s_state_after) (defScope s_state_after) .none kV_state_after dc_state_after pm_state_after an_state_after cd_state_after ct_state_after), sl_state_after⟩)
    (c_state_after : PySem.W.codeIn K cd_state_after "state_after" = true)
    (k_state_after : PySem.W.keepIn K (.ref f_state_after) = true)
    (a_beats_up_to : PySem.W.nsIn K mainGlobals "beats_up_to" = some (some (.ref f_beats_up_to)))
    (l_beats_up_to : K.lookup f_beats_up_to = some ⟨oc_beats_up_to, od_beats_up_to, .func (PySem.W.fnOf "beats_up_to" "beats_up_to" (defArgs s_beats_up_to) (defBody s_beats_up_to) (defScope s_beats_up_to) .none kV_beats_up_to dc_beats_up_to pm_beats_up_to an_beats_up_to cd_beats_up_to ct_beats_up_to), sl_beats_up_to⟩)
    (c_beats_up_to : PySem.W.codeIn K cd_beats_up_to "beats_up_to" = true)
    (k_beats_up_to : PySem.W.keepIn K (.ref f_beats_up_to) = true)
    (a_next_layer : PySem.W.nsIn K mainGlobals "next_layer" = some (some (.ref f_next_layer)))
    (l_next_layer : K.lookup f_next_layer = some ⟨oc_next_layer, od_next_layer, .func (PySem.W.fnOf "next_layer" "next_layer" (defArgs s_next_layer) (defBody s_next_layer) (defScope s_next_layer) .none kV_next_layer dc_next_layer pm_next_layer an_next_layer cd_next_layer ct_next_layer), sl_next_layer⟩)
    (c_next_layer : PySem.W.codeIn K cd_next_layer "next_layer" = true)
    (k_next_layer : PySem.W.keepIn K (.ref f_next_layer) = true)
    (a_shortest_row : PySem.W.nsIn K mainGlobals "shortest_row" = some (some (.ref f_shortest_row)))
    (l_shortest_row : K.lookup f_shortest_row = some ⟨oc_shortest_row, od_shortest_row, .func (PySem.W.fnOf "shortest_row" "shortest_row" (defArgs s_shortest_row) (defBody s_shortest_row) (defScope s_shortest_row) .none kV_shortest_row dc_shortest_row pm_shortest_row an_shortest_row cd_shortest_row ct_shortest_row), sl_shortest_row⟩)
    (c_shortest_row : PySem.W.codeIn K cd_shortest_row "shortest_row" = true)
    (k_shortest_row : PySem.W.keepIn K (.ref f_shortest_row) = true)
    (a_fits_way : PySem.W.nsIn K mainGlobals "fits_way" = some (some (.ref f_fits_way)))
    (l_fits_way : K.lookup f_fits_way = some ⟨oc_fits_way, od_fits_way, .func (PySem.W.fnOf "fits_way" "fits_way" (defArgs s_fits_way) (defBody s_fits_way) (defScope s_fits_way) .none kV_fits_way dc_fits_way pm_fits_way an_fits_way cd_fits_way ct_fits_way), sl_fits_way⟩)
    (c_fits_way : PySem.W.codeIn K cd_fits_way "fits_way" = true)
    (k_fits_way : PySem.W.keepIn K (.ref f_fits_way) = true)
    (a_is_way_asked : PySem.W.nsIn K mainGlobals "is_way_asked" = some (some (.ref f_is_way_asked)))
    (l_is_way_asked : K.lookup f_is_way_asked = some ⟨oc_is_way_asked, od_is_way_asked, .func (PySem.W.fnOf "is_way_asked" "is_way_asked" (defArgs s_is_way_asked) (defBody s_is_way_asked) (defScope s_is_way_asked) .none kV_is_way_asked dc_is_way_asked pm_is_way_asked an_is_way_asked cd_is_way_asked ct_is_way_asked), sl_is_way_asked⟩)
    (c_is_way_asked : PySem.W.codeIn K cd_is_way_asked "is_way_asked" = true)
    (k_is_way_asked : PySem.W.keepIn K (.ref f_is_way_asked) = true)
    (a_way : PySem.W.nsIn K mainGlobals "way" = some (some (.ref f_way)))
    (l_way : K.lookup f_way = some ⟨oc_way, od_way, .func (PySem.W.fnOf "way" "way" (defArgs s_way) (defBody s_way) (defScope s_way) .none kV_way dc_way pm_way an_way cd_way ct_way), sl_way⟩)
    (c_way : PySem.W.codeIn K cd_way "way" = true)
    (k_way : PySem.W.keepIn K (.ref f_way) = true)
    (a_pair_refusal : PySem.W.nsIn K mainGlobals "pair_refusal" = some (some (.ref f_pair_refusal)))
    (l_pair_refusal : K.lookup f_pair_refusal = some ⟨oc_pair_refusal, od_pair_refusal, .func (PySem.W.fnOf "pair_refusal" "pair_refusal" (defArgs s_pair_refusal) (defBody s_pair_refusal) (defScope s_pair_refusal) .none kV_pair_refusal dc_pair_refusal pm_pair_refusal an_pair_refusal cd_pair_refusal ct_pair_refusal), sl_pair_refusal⟩)
    (c_pair_refusal : PySem.W.codeIn K cd_pair_refusal "pair_refusal" = true)
    (k_pair_refusal : PySem.W.keepIn K (.ref f_pair_refusal) = true)
    (a_join : PySem.W.nsIn K mainGlobals "join" = some (some (.ref f_join)))
    (l_join : K.lookup f_join = some ⟨oc_join, od_join, .func (PySem.W.fnOf "join" "join" (defArgs s_join) (defBody s_join) (defScope s_join) .none kV_join dc_join pm_join an_join cd_join ct_join), sl_join⟩)
    (c_join : PySem.W.codeIn K cd_join "join" = true)
    (k_join : PySem.W.keepIn K (.ref f_join) = true)
    (g_CLOSING : PySem.W.nsIn K mainGlobals "CLOSING" = some (some (.int 93 t_CLOSING)))
    (g_LETTER_A : PySem.W.nsIn K mainGlobals "LETTER_A" = some (some (.int 97 t_LETTER_A)))
    (g_LETTER_F : PySem.W.nsIn K mainGlobals "LETTER_F" = some (some (.int 102 t_LETTER_F)))
    (g_MOST_BEATS : PySem.W.nsIn K mainGlobals "MOST_BEATS" = some (some (.int 16 t_MOST_BEATS)))
    (g_MOST_ROW : PySem.W.nsIn K mainGlobals "MOST_ROW" = some (some (.int 39 t_MOST_ROW)))
    (g_MOST_THROWS : PySem.W.nsIn K mainGlobals "MOST_THROWS" = some (some (.int 3 t_MOST_THROWS)))
    (g_MOST_WAY_BALLS : PySem.W.nsIn K mainGlobals "MOST_WAY_BALLS" = some (some (.int 5 t_MOST_WAY_BALLS)))
    (g_MOST_WAY_HEIGHT : PySem.W.nsIn K mainGlobals "MOST_WAY_HEIGHT" = some (some (.int 8 t_MOST_WAY_HEIGHT)))
    (g_MOST_WAY_LANDING : PySem.W.nsIn K mainGlobals "MOST_WAY_LANDING" = some (some (.int 2 t_MOST_WAY_LANDING)))
    (g_NINE : PySem.W.nsIn K mainGlobals "NINE" = some (some (.int 57 t_NINE)))
    (g_OPENING : PySem.W.nsIn K mainGlobals "OPENING" = some (some (.int 91 t_OPENING)))
    (g_SPAN : PySem.W.nsIn K mainGlobals "SPAN" = some (some (.int 15 t_SPAN)))
    (g_ZERO : PySem.W.nsIn K mainGlobals "ZERO" = some (some (.int 48 t_ZERO)))
    (z_all : PySem.W.nsIn K mainGlobals "all" = some none)
    (z_len : PySem.W.nsIn K mainGlobals "len" = some none)
    (z_list : PySem.W.nsIn K mainGlobals "list" = some none)
    (z_max : PySem.W.nsIn K mainGlobals "max" = some none)
    (z_range : PySem.W.nsIn K mainGlobals "range" = some none)
    (z_sorted : PySem.W.nsIn K mainGlobals "sorted" = some none)
    (z_sum : PySem.W.nsIn K mainGlobals "sum" = some none)
    (z_tuple : PySem.W.nsIn K mainGlobals "tuple" = some none)
    : ∃ fd : FuncData, (∀ (s : Shared) (us : List Value), us.length = (["high", "most", "t", "u"] : List Str).length → BindsTo s fd ⟨us, []⟩ ((["high", "most", "t", "u"] : List Str).zip us)) ∧ ∀ base : Heap, K.In base → base.Ns mainGlobals mg → FnOk P w K mg base CX0 7 fa fd ["high", "most", "t", "u"] (sp_join K) := by
  have e := hfa.symm.trans (PySem.W.mg_of X G a_join)
  cases e
  have T : Txt mg := ⟨⟨_, PySem.W.mg_of X G g_CLOSING⟩, ⟨_, PySem.W.mg_of X G g_LETTER_A⟩, ⟨_, PySem.W.mg_of X G g_LETTER_F⟩, ⟨_, PySem.W.mg_of X G g_MOST_BEATS⟩, ⟨_, PySem.W.mg_of X G g_MOST_ROW⟩, ⟨_, PySem.W.mg_of X G g_MOST_THROWS⟩, ⟨_, PySem.W.mg_of X G g_MOST_WAY_BALLS⟩, ⟨_, PySem.W.mg_of X G g_MOST_WAY_HEIGHT⟩, ⟨_, PySem.W.mg_of X G g_MOST_WAY_LANDING⟩, ⟨_, PySem.W.mg_of X G g_NINE⟩, ⟨_, PySem.W.mg_of X G g_OPENING⟩, ⟨_, PySem.W.mg_of X G g_SPAN⟩, ⟨_, PySem.W.mg_of X G g_ZERO⟩, PySem.W.mg_none_of X G z_all, PySem.W.mg_none_of X G z_len, PySem.W.mg_none_of X G z_list, PySem.W.mg_none_of X G z_max, PySem.W.mg_none_of X G z_range, PySem.W.mg_none_of X G z_sorted, PySem.W.mg_none_of X G z_sum, PySem.W.mg_none_of X G z_tuple⟩
  have F_height_of := fun_mk (st := s_height_of) l_height_of c_height_of k_height_of
  have F_digit_of := fun_mk (st := s_digit_of) l_digit_of c_digit_of k_digit_of
  have F_bracket_fault := fun_mk (st := s_bracket_fault) l_bracket_fault c_bracket_fault k_bracket_fault
  have F_beat_fault := fun_mk (st := s_beat_fault) l_beat_fault c_beat_fault k_beat_fault
  have F_beat_end := fun_mk (st := s_beat_end) l_beat_end c_beat_end k_beat_end
  have F_text_fault := fun_mk (st := s_text_fault) l_text_fault c_text_fault k_text_fault
  have F_read_beats := fun_mk (st := s_read_beats) l_read_beats c_read_beats k_read_beats
  have F_beat_text := fun_mk (st := s_beat_text) l_beat_text c_beat_text k_beat_text
  have F_told_text := fun_mk (st := s_told_text) l_told_text c_told_text k_told_text
  have F_landing_counts := fun_mk (st := s_landing_counts) l_landing_counts c_landing_counts k_landing_counts
  have F_wrong_beat := fun_mk (st := s_wrong_beat) l_wrong_beat c_wrong_beat k_wrong_beat
  have F_pattern_refusal := fun_mk (st := s_pattern_refusal) l_pattern_refusal c_pattern_refusal k_pattern_refusal
  have F_state_before := fun_mk (st := s_state_before) l_state_before c_state_before k_state_before
  have F_is_state := fun_mk (st := s_is_state) l_is_state c_is_state k_is_state
  have F_whole_state := fun_mk (st := s_whole_state) l_whole_state c_whole_state k_whole_state
  have F_state_after := fun_mk (st := s_state_after) l_state_after c_state_after k_state_after
  have F_beats_up_to := fun_mk (st := s_beats_up_to) l_beats_up_to c_beats_up_to k_beats_up_to
  have F_next_layer := fun_mk (st := s_next_layer) l_next_layer c_next_layer k_next_layer
  have F_shortest_row := fun_mk (st := s_shortest_row) l_shortest_row c_shortest_row k_shortest_row
  have F_fits_way := fun_mk (st := s_fits_way) l_fits_way c_fits_way k_fits_way
  have F_is_way_asked := fun_mk (st := s_is_way_asked) l_is_way_asked c_is_way_asked k_is_way_asked
  have F_way := fun_mk (st := s_way) l_way c_way k_way
  have F_pair_refusal := fun_mk (st := s_pair_refusal) l_pair_refusal c_pair_refusal k_pair_refusal
  have F_join := fun_mk (st := s_join) l_join c_join k_join
  have b_height_of := F_height_of.binds (ps := ["byte"]) fun _ _ _ _ _ _ us hl => match us, hl with | [_], _ => rfl
  have b_digit_of := F_digit_of.binds (ps := ["height"]) fun _ _ _ _ _ _ us hl => match us, hl with | [_], _ => rfl
  have b_bracket_fault := F_bracket_fault.binds (ps := ["t", "start"]) fun _ _ _ _ _ _ us hl => match us, hl with | [_, _], _ => rfl
  have b_beat_fault := F_beat_fault.binds (ps := ["t", "start"]) fun _ _ _ _ _ _ us hl => match us, hl with | [_, _], _ => rfl
  have b_beat_end := F_beat_end.binds (ps := ["t", "start"]) fun _ _ _ _ _ _ us hl => match us, hl with | [_, _], _ => rfl
  have b_text_fault := F_text_fault.binds (ps := ["t"]) fun _ _ _ _ _ _ us hl => match us, hl with | [_], _ => rfl
  have b_read_beats := F_read_beats.binds (ps := ["t"]) fun _ _ _ _ _ _ us hl => match us, hl with | [_], _ => rfl
  have b_beat_text := F_beat_text.binds (ps := ["beat"]) fun _ _ _ _ _ _ us hl => match us, hl with | [_], _ => rfl
  have b_told_text := F_told_text.binds (ps := ["beats"]) fun _ _ _ _ _ _ us hl => match us, hl with | [_], _ => rfl
  have b_landing_counts := F_landing_counts.binds (ps := ["beats"]) fun _ _ _ _ _ _ us hl => match us, hl with | [_], _ => rfl
  have b_wrong_beat := F_wrong_beat.binds (ps := ["beats"]) fun _ _ _ _ _ _ us hl => match us, hl with | [_], _ => rfl
  have b_pattern_refusal := F_pattern_refusal.binds (ps := ["t"]) fun _ _ _ _ _ _ us hl => match us, hl with | [_], _ => rfl
  have b_state_before := F_state_before.binds (ps := ["beats", "moment"]) fun _ _ _ _ _ _ us hl => match us, hl with | [_, _], _ => rfl
  have b_is_state := F_is_state.binds (ps := ["s"]) fun _ _ _ _ _ _ us hl => match us, hl with | [_], _ => rfl
  have b_whole_state := F_whole_state.binds (ps := ["s"]) fun _ _ _ _ _ _ us hl => match us, hl with | [_], _ => rfl
  have b_state_after := F_state_after.binds (ps := ["state", "beat"]) fun _ _ _ _ _ _ us hl => match us, hl with | [_, _], _ => rfl
  have b_beats_up_to := F_beats_up_to.binds (ps := ["high", "throws"]) fun _ _ _ _ _ _ us hl => match us, hl with | [_, _], _ => rfl
  have b_next_layer := F_next_layer.binds (ps := ["high", "most", "layer", "rows"]) fun _ _ _ _ _ _ us hl => match us, hl with | [_, _, _, _], _ => rfl
  have b_shortest_row := F_shortest_row.binds (ps := ["high", "most", "start", "goal"]) fun _ _ _ _ _ _ us hl => match us, hl with | [_, _, _, _], _ => rfl
  have b_fits_way := F_fits_way.binds (ps := ["high", "most", "s"]) fun _ _ _ _ _ _ us hl => match us, hl with | [_, _, _], _ => rfl
  have b_is_way_asked := F_is_way_asked.binds (ps := ["high", "most", "s", "u"]) fun _ _ _ _ _ _ us hl => match us, hl with | [_, _, _, _], _ => rfl
  have b_way := F_way.binds (ps := ["high", "most", "s", "u"]) fun _ _ _ _ _ _ us hl => match us, hl with | [_, _, _, _], _ => rfl
  have b_pair_refusal := F_pair_refusal.binds (ps := ["t", "u"]) fun _ _ _ _ _ _ us hl => match us, hl with | [_, _], _ => rfl
  refine ⟨PySem.W.fnOf "join" "join" (defArgs s_join) (defBody s_join) (defScope s_join) .none kV_join dc_join pm_join an_join cd_join ct_join, fun s us hu => match us, hu with | [_, _, _, _], _ => .of_eq rfl, fun base _ _ => ?_⟩
  have D_height_of : Def P w K mg base "height_of" ["byte"] 1 (sp_height_of K) := ⟨f_height_of, _, ok_height_of F_height_of T, PySem.W.mg_of X G a_height_of, k_height_of, b_height_of⟩
  have D_digit_of : Def P w K mg base "digit_of" ["height"] 1 (sp_digit_of K) := ⟨f_digit_of, _, ok_digit_of F_digit_of T, PySem.W.mg_of X G a_digit_of, k_digit_of, b_digit_of⟩
  have D_bracket_fault : Def P w K mg base "bracket_fault" ["t", "start"] 2 (sp_bracket_fault K) := ⟨f_bracket_fault, _, ok_bracket_fault F_bracket_fault T D_height_of, PySem.W.mg_of X G a_bracket_fault, k_bracket_fault, b_bracket_fault⟩
  have D_beat_fault : Def P w K mg base "beat_fault" ["t", "start"] 3 (sp_beat_fault K) := ⟨f_beat_fault, _, ok_beat_fault F_beat_fault T D_bracket_fault D_height_of, PySem.W.mg_of X G a_beat_fault, k_beat_fault, b_beat_fault⟩
  have D_beat_end : Def P w K mg base "beat_end" ["t", "start"] 1 (sp_beat_end K) := ⟨f_beat_end, _, ok_beat_end F_beat_end T, PySem.W.mg_of X G a_beat_end, k_beat_end, b_beat_end⟩
  have D_text_fault : Def P w K mg base "text_fault" ["t"] 4 (sp_text_fault K) := ⟨f_text_fault, _, ok_text_fault F_text_fault T D_beat_fault D_beat_end, PySem.W.mg_of X G a_text_fault, k_text_fault, b_text_fault⟩
  have D_read_beats : Def P w K mg base "read_beats" ["t"] 2 (sp_read_beats K) := ⟨f_read_beats, _, ok_read_beats F_read_beats T D_beat_end D_height_of, PySem.W.mg_of X G a_read_beats, k_read_beats, b_read_beats⟩
  have D_beat_text : Def P w K mg base "beat_text" ["beat"] 2 (sp_beat_text K) := ⟨f_beat_text, _, ok_beat_text F_beat_text T D_digit_of, PySem.W.mg_of X G a_beat_text, k_beat_text, b_beat_text⟩
  have D_told_text : Def P w K mg base "told_text" ["beats"] 3 (sp_told_text K) := ⟨f_told_text, _, ok_told_text F_told_text T D_beat_text, PySem.W.mg_of X G a_told_text, k_told_text, b_told_text⟩
  have D_landing_counts : Def P w K mg base "landing_counts" ["beats"] 1 (sp_landing_counts K) := ⟨f_landing_counts, _, ok_landing_counts F_landing_counts T, PySem.W.mg_of X G a_landing_counts, k_landing_counts, b_landing_counts⟩
  have D_wrong_beat : Def P w K mg base "wrong_beat" ["beats"] 2 (sp_wrong_beat K) := ⟨f_wrong_beat, _, ok_wrong_beat F_wrong_beat T D_landing_counts, PySem.W.mg_of X G a_wrong_beat, k_wrong_beat, b_wrong_beat⟩
  have D_pattern_refusal : Def P w K mg base "pattern_refusal" ["t"] 5 (sp_pattern_refusal K) := ⟨f_pattern_refusal, _, ok_pattern_refusal F_pattern_refusal T D_text_fault D_wrong_beat D_read_beats, PySem.W.mg_of X G a_pattern_refusal, k_pattern_refusal, b_pattern_refusal⟩
  have D_state_before : Def P w K mg base "state_before" ["beats", "moment"] 1 (sp_state_before K) := ⟨f_state_before, _, ok_state_before F_state_before T, PySem.W.mg_of X G a_state_before, k_state_before, b_state_before⟩
  have D_is_state : Def P w K mg base "is_state" ["s"] 1 (sp_is_state K) := ⟨f_is_state, _, ok_is_state F_is_state T, PySem.W.mg_of X G a_is_state, k_is_state, b_is_state⟩
  have D_whole_state : Def P w K mg base "whole_state" ["s"] 1 (sp_whole_state K) := ⟨f_whole_state, _, ok_whole_state F_whole_state T, PySem.W.mg_of X G a_whole_state, k_whole_state, b_whole_state⟩
  have D_state_after : Def P w K mg base "state_after" ["state", "beat"] 1 (sp_state_after K) := ⟨f_state_after, _, ok_state_after F_state_after T, PySem.W.mg_of X G a_state_after, k_state_after, b_state_after⟩
  have D_beats_up_to : Def P w K mg base "beats_up_to" ["high", "throws"] 1 (sp_beats_up_to K) := ⟨f_beats_up_to, _, ok_beats_up_to F_beats_up_to T, PySem.W.mg_of X G a_beats_up_to, k_beats_up_to, b_beats_up_to⟩
  have D_next_layer : Def P w K mg base "next_layer" ["high", "most", "layer", "rows"] 2 (sp_next_layer K) := ⟨f_next_layer, _, ok_next_layer F_next_layer T D_beats_up_to D_state_after, PySem.W.mg_of X G a_next_layer, k_next_layer, b_next_layer⟩
  have D_shortest_row : Def P w K mg base "shortest_row" ["high", "most", "start", "goal"] 3 (sp_shortest_row K) := ⟨f_shortest_row, _, ok_shortest_row F_shortest_row T D_next_layer, PySem.W.mg_of X G a_shortest_row, k_shortest_row, b_shortest_row⟩
  have D_fits_way : Def P w K mg base "fits_way" ["high", "most", "s"] 2 (sp_fits_way K) := ⟨f_fits_way, _, ok_fits_way F_fits_way T D_is_state, PySem.W.mg_of X G a_fits_way, k_fits_way, b_fits_way⟩
  have D_is_way_asked : Def P w K mg base "is_way_asked" ["high", "most", "s", "u"] 3 (sp_is_way_asked K) := ⟨f_is_way_asked, _, ok_is_way_asked F_is_way_asked T D_fits_way, PySem.W.mg_of X G a_is_way_asked, k_is_way_asked, b_is_way_asked⟩
  have D_way : Def P w K mg base "way" ["high", "most", "s", "u"] 4 (sp_way K) := ⟨f_way, _, ok_way F_way T D_is_way_asked D_shortest_row D_whole_state D_told_text, PySem.W.mg_of X G a_way, k_way, b_way⟩
  have D_pair_refusal : Def P w K mg base "pair_refusal" ["t", "u"] 6 (sp_pair_refusal K) := ⟨f_pair_refusal, _, ok_pair_refusal F_pair_refusal T D_pattern_refusal, PySem.W.mg_of X G a_pair_refusal, k_pair_refusal, b_pair_refusal⟩
  exact ok_join F_join T D_pair_refusal D_state_before D_read_beats D_way
end Jp
open PySem PySem.W PyProof.Rows
set_option maxRecDepth 100000 in
set_option maxHeartbeats 0 in
theorem PySem.Challenge.cw_jugglebench_s06_join_holds : PySem.Challenge.rw_jugglebench_s06_join.Holds := by
  w_on; k_headS; (case hw => exact ⟨[.int 0, .int 0, .list [], .list []], by decide +kernel, by decide +kernel⟩)
  k_fillS
  refine L2.walk_specK (r := PySem.Challenge.rw_jugglebench_s06_join) (k := 7) (CX := L2.CX0) (ps := ["high", "most", "t", "u"]) (sp := Jp.sp_join) (by decide +kernel) rfl rfl ⟨rfl, by decide, by decide⟩ (fun w h Y => PySem.W.kIn_of Y) ?F ?S (fun _ _ _ _ z => z)
  case F =>
    intro w mg fa h Y KX G hmg
    refine' Jp.all_mk KX G hmg ?a_height_of ?l_height_of ?c_height_of ?k_height_of ?a_digit_of ?l_digit_of ?c_digit_of ?k_digit_of ?a_bracket_fault ?l_bracket_fault ?c_bracket_fault ?k_bracket_fault ?a_beat_fault ?l_beat_fault ?c_beat_fault ?k_beat_fault ?a_beat_end ?l_beat_end ?c_beat_end ?k_beat_end ?a_text_fault ?l_text_fault ?c_text_fault ?k_text_fault ?a_read_beats ?l_read_beats ?c_read_beats ?k_read_beats ?a_beat_text ?l_beat_text ?c_beat_text ?k_beat_text ?a_told_text ?l_told_text ?c_told_text ?k_told_text ?a_landing_counts ?l_landing_counts ?c_landing_counts ?k_landing_counts ?a_wrong_beat ?l_wrong_beat ?c_wrong_beat ?k_wrong_beat ?a_pattern_refusal ?l_pattern_refusal ?c_pattern_refusal ?k_pattern_refusal ?a_state_before ?l_state_before ?c_state_before ?k_state_before ?a_is_state ?l_is_state ?c_is_state ?k_is_state ?a_whole_state ?l_whole_state ?c_whole_state ?k_whole_state ?a_state_after ?l_state_after ?c_state_after ?k_state_after ?a_beats_up_to ?l_beats_up_to ?c_beats_up_to ?k_beats_up_to ?a_next_layer ?l_next_layer ?c_next_layer ?k_next_layer ?a_shortest_row ?l_shortest_row ?c_shortest_row ?k_shortest_row ?a_fits_way ?l_fits_way ?c_fits_way ?k_fits_way ?a_is_way_asked ?l_is_way_asked ?c_is_way_asked ?k_is_way_asked ?a_way ?l_way ?c_way ?k_way ?a_pair_refusal ?l_pair_refusal ?c_pair_refusal ?k_pair_refusal ?a_join ?l_join ?c_join ?k_join ?g_CLOSING ?g_LETTER_A ?g_LETTER_F ?g_MOST_BEATS ?g_MOST_ROW ?g_MOST_THROWS ?g_MOST_WAY_BALLS ?g_MOST_WAY_HEIGHT ?g_MOST_WAY_LANDING ?g_NINE ?g_OPENING ?g_SPAN ?g_ZERO ?z_all ?z_len ?z_list ?z_max ?z_range ?z_sorted ?z_sum ?z_tuple
    (case a_height_of => k_is)
    (case l_height_of => k_is)
    (case c_height_of => k_is)
    (case k_height_of => k_is)
    (case a_digit_of => k_is)
    (case l_digit_of => k_is)
    (case c_digit_of => k_is)
    (case k_digit_of => k_is)
    (case a_bracket_fault => k_is)
    (case l_bracket_fault => k_is)
    (case c_bracket_fault => k_is)
    (case k_bracket_fault => k_is)
    (case a_beat_fault => k_is)
    (case l_beat_fault => k_is)
    (case c_beat_fault => k_is)
    (case k_beat_fault => k_is)
    (case a_beat_end => k_is)
    (case l_beat_end => k_is)
    (case c_beat_end => k_is)
    (case k_beat_end => k_is)
    (case a_text_fault => k_is)
    (case l_text_fault => k_is)
    (case c_text_fault => k_is)
    (case k_text_fault => k_is)
    (case a_read_beats => k_is)
    (case l_read_beats => k_is)
    (case c_read_beats => k_is)
    (case k_read_beats => k_is)
    (case a_beat_text => k_is)
    (case l_beat_text => k_is)
    (case c_beat_text => k_is)
    (case k_beat_text => k_is)
    (case a_told_text => k_is)
    (case l_told_text => k_is)
    (case c_told_text => k_is)
    (case k_told_text => k_is)
    (case a_landing_counts => k_is)
    (case l_landing_counts => k_is)
    (case c_landing_counts => k_is)
    (case k_landing_counts => k_is)
    (case a_wrong_beat => k_is)
    (case l_wrong_beat => k_is)
    (case c_wrong_beat => k_is)
    (case k_wrong_beat => k_is)
    (case a_pattern_refusal => k_is)
    (case l_pattern_refusal => k_is)
    (case c_pattern_refusal => k_is)
    (case k_pattern_refusal => k_is)
    (case a_state_before => k_is)
    (case l_state_before => k_is)
    (case c_state_before => k_is)
    (case k_state_before => k_is)
    (case a_is_state => k_is)
    (case l_is_state => k_is)
    (case c_is_state => k_is)
    (case k_is_state => k_is)
    (case a_whole_state => k_is)
    (case l_whole_state => k_is)
    (case c_whole_state => k_is)
    (case k_whole_state => k_is)
    (case a_state_after => k_is)
    (case l_state_after => k_is)
    (case c_state_after => k_is)
    (case k_state_after => k_is)
    (case a_beats_up_to => k_is)
    (case l_beats_up_to => k_is)
    (case c_beats_up_to => k_is)
    (case k_beats_up_to => k_is)
    (case a_next_layer => k_is)
    (case l_next_layer => k_is)
    (case c_next_layer => k_is)
    (case k_next_layer => k_is)
    (case a_shortest_row => k_is)
    (case l_shortest_row => k_is)
    (case c_shortest_row => k_is)
    (case k_shortest_row => k_is)
    (case a_fits_way => k_is)
    (case l_fits_way => k_is)
    (case c_fits_way => k_is)
    (case k_fits_way => k_is)
    (case a_is_way_asked => k_is)
    (case l_is_way_asked => k_is)
    (case c_is_way_asked => k_is)
    (case k_is_way_asked => k_is)
    (case a_way => k_is)
    (case l_way => k_is)
    (case c_way => k_is)
    (case k_way => k_is)
    (case a_pair_refusal => k_is)
    (case l_pair_refusal => k_is)
    (case c_pair_refusal => k_is)
    (case k_pair_refusal => k_is)
    (case a_join => k_is)
    (case l_join => k_is)
    (case c_join => k_is)
    (case k_join => k_is)
    (case g_CLOSING => k_is)
    (case g_LETTER_A => k_is)
    (case g_LETTER_F => k_is)
    (case g_MOST_BEATS => k_is)
    (case g_MOST_ROW => k_is)
    (case g_MOST_THROWS => k_is)
    (case g_MOST_WAY_BALLS => k_is)
    (case g_MOST_WAY_HEIGHT => k_is)
    (case g_MOST_WAY_LANDING => k_is)
    (case g_NINE => k_is)
    (case g_OPENING => k_is)
    (case g_SPAN => k_is)
    (case g_ZERO => k_is)
    (case z_all => k_is)
    (case z_len => k_is)
    (case z_list => k_is)
    (case z_max => k_is)
    (case z_range => k_is)
    (case z_sorted => k_is)
    (case z_sum => k_is)
    (case z_tuple => k_is)
  case S =>
    intro K H xs a hO hwi hask hx
    obtain ⟨x0, x1, x2, x3, u⟩ := a
    have hx : L2.DwAll K H xs [WData.int x0, WData.int x1, WData.list (x2.map WData.int), WData.list (x3.map WData.int)] := hx
    have q : (Codec.inInt 0 4294967295 x0 && (Codec.inInt 0 4294967295 x1 && ((Codec.inLen 0 64 x2 && x2.all (Codec.inInt 0 255)) && ((Codec.inLen 0 64 x3 && x3.all (Codec.inInt 0 255)) && true)))) = true := hwi
    obtain ⟨v0, xs0, hv0, hx0, rfl⟩ : ∃ v r, L2.Dw K H v _ ∧ L2.DwAll K H r _ ∧ xs = v :: r := by cases hx with | cons h1 h2 => exact ⟨_, _, h1, h2, rfl⟩
    obtain ⟨v1, xs1, hv1, hx1, rfl⟩ : ∃ v r, L2.Dw K H v _ ∧ L2.DwAll K H r _ ∧ xs0 = v :: r := by cases hx0 with | cons h1 h2 => exact ⟨_, _, h1, h2, rfl⟩
    obtain ⟨v2, xs2, hv2, hx2, rfl⟩ : ∃ v r, L2.Dw K H v _ ∧ L2.DwAll K H r _ ∧ xs1 = v :: r := by cases hx1 with | cons h1 h2 => exact ⟨_, _, h1, h2, rfl⟩
    obtain ⟨v3, xs3, hv3, hx3, rfl⟩ : ∃ v r, L2.Dw K H v _ ∧ L2.DwAll K H r _ ∧ xs2 = v :: r := by cases hx2 with | cons h1 h2 => exact ⟨_, _, h1, h2, rfl⟩
    cases hx3
    obtain rfl : v0 = L2.V.int x0 := by cases hv0; rfl
    obtain rfl : v1 = L2.V.int x1 := by cases hv1; rfl
    obtain ⟨a2, rfl, hs2⟩ : ∃ a, v2 = L2.V.ref a ∧ L2.SqL K H a (x2.map L2.V.int) := by
      cases hv2 with
      | lst hs ha =>
        have e := L2.ints_dw x2 _ ha
        subst e
        exact ⟨_, rfl, hs⟩
    obtain ⟨a3, rfl, hs3⟩ : ∃ a, v3 = L2.V.ref a ∧ L2.SqL K H a (x3.map L2.V.int) := by
      cases hv3 with
      | lst hs ha =>
        have e := L2.ints_dw x3 _ ha
        subst e
        exact ⟨_, rfl, hs⟩
    simp only [Bool.and_eq_true] at q

    obtain ⟨q0, q1, ⟨q2, q3⟩, ⟨q4, q5⟩, _⟩ := q
    exact ⟨x0, x1, a2, a3, x2, x3, rfl, (Codec.inInt_iff.mp q0).1, (Codec.inInt_iff.mp q1).1, hs2, fun z hz => Codec.inInt_iff.mp (List.all_eq_true.mp q3 z hz), (Codec.inNat_iff.mp q2).2, hs3, fun z hz => Codec.inInt_iff.mp (List.all_eq_true.mp q5 z hz), (Codec.inNat_iff.mp q4).2, fun v H' ⟨x, e, hx⟩ => by subst e; exact .lst (L2.SqL.of hx) (L2.dw_ints _)⟩
#print axioms PySem.Challenge.cw_jugglebench_s06_join_holds
