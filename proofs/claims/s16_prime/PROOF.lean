import PyProof.Rows.All
import Wide.All
import OpenK.AllK
import Wide.FinOn
import PyProof.EqAt
import PyProof.EqKinds
import PyProof.TupleCall
import KE.BitLaws
import Open.SpecLaws
import KE.OsHead
import KE.OsGo
import PyProof.Rows.SortRev
import PyProof.MinMaxWalk
import PyProof.ListMulRoad
import PyProof.WalksMore
import PyProof.WalkInts
import PyProof.Rows.TupDisplay
import PyProof.TupleKey
import PyProof.IsRules
import PyProof.Rows.SetFrom
import PyProof.ListRange
import PyProof.ZipIter
import PySem.Challenge.RW_jugglebench_s16_prime
set_option Elab.async false
set_option linter.all false
set_option maxRecDepth 100000
/-! THE HAND LAYER, for ints, bools, texts, own classes, lists, tuples, dicts, comprehensions, walks over dicts, enumerate, zip, reversed, texts, calls, loops. Paste it whole ahead of your own text; what your proof does not reach may be deleted. -/
namespace L2
open PySem PySem.Spec PyProof.Rows

/-- a key: an int or a str -/
abbrev Key := Sum Int Str
def keyIs : Key → Value → Bool
  | .inl k, v => Value.isInt k v
  | .inr x, v => Value.isStrOf x v
def keyH (w : World) : Key → Int
  | .inl k => hashInt k
  | .inr x => hashStr w x
theorem keyIs_shape : ∀ {k : Key} {v : Value}, keyIs k v = true → (∃ i t, k = Sum.inl i ∧ v = Value.int i t) ∨ (∃ x t, k = Sum.inr x ∧ v = Value.str x t)
  | .inl i, v, h => by
    obtain ⟨t, e⟩ := Value.isInt_shape (k := i) (v := v) h
    exact .inl ⟨i, t, rfl, e⟩
  | .inr x, v, h => by
    obtain ⟨t, e⟩ := Value.isStrOf_shape (x := x) (v := v) h
    exact .inr ⟨x, t, rfl, e⟩

theorem key_ll (a b : Int) : decide ((Sum.inl a : Key) = Sum.inl b) = (a == b) := by
  by_cases e : a = b
  · subst e; simp
  · have h : ¬ (Sum.inl a : Key) = Sum.inl b := fun q => e (Sum.inl.inj q)
    rw [decide_eq_false h]
    exact (beq_eq_false_iff_ne.mpr e).symm
theorem key_rr (a b : Str) : decide ((Sum.inr a : Key) = Sum.inr b) = decide (a = b) := by
  by_cases e : a = b
  · subst e; simp
  · have h : ¬ (Sum.inr a : Key) = Sum.inr b := fun q => e (Sum.inr.inj q)
    rw [decide_eq_false h, decide_eq_false e]
theorem key_lr (a : Int) (b : Str) : decide ((Sum.inl a : Key) = Sum.inr b) = false := decide_eq_false (fun q => nomatch q)
theorem key_rl (a : Str) (b : Int) : decide ((Sum.inr a : Key) = Sum.inl b) = false := decide_eq_false (fun q => nomatch q)

def mixKind (prog : Program) (w : World) : PySem.KeyKind prog w Key where
  is := keyIs
  hash := keyH w
  inj := fun v a b ha hb => by
    rcases keyIs_shape ha with ⟨i, t, rfl, rfl⟩ | ⟨x, t, rfl, rfl⟩
    · rcases keyIs_shape hb with ⟨j, u, rfl, e⟩ | ⟨y, u, rfl, e⟩
      · injection e with e1 _; rw [e1]
      · exact nomatch e
    · rcases keyIs_shape hb with ⟨j, u, rfl, e⟩ | ⟨y, u, rfl, e⟩
      · exact nomatch e
      · injection e with e1 _; rw [e1]
  byValue := fun k v h => by
    rcases keyIs_shape h with ⟨i, t, rfl, rfl⟩ | ⟨x, t, rfl, rfl⟩ <;> rfl
  pyHash := fun hv h => by
    rcases keyIs_shape hv with ⟨i, t, rfl, rfl⟩ | ⟨x, t, rfl, rfl⟩
    · exact wpAny_pyHash_int h
    · exact wpAny_pyHash_str h
  eqBool := fun hu hv h => by
    rcases keyIs_shape hu with ⟨i, t, rfl, rfl⟩ | ⟨x, t, rfl, rfl⟩
    · rcases keyIs_shape hv with ⟨j, u, rfl, rfl⟩ | ⟨y, u, rfl, rfl⟩
      · rw [key_ll] at h; exact wpAny_eqBool_int h
      · rw [key_lr] at h; exact SeqAt.EqAt.int_str i t y u _ _ _ _ h
    · rcases keyIs_shape hv with ⟨j, u, rfl, rfl⟩ | ⟨y, u, rfl, rfl⟩
      · rw [key_rl] at h; exact SeqAt.EqAt.str_int x t j u _ _ _ _ h
      · rw [key_rr] at h; exact wpAny_eqBool_str h
  «strs» := fun k x t v h => by
    rcases keyIs_shape h with ⟨i, u, rfl, e⟩ | ⟨y, u, rfl, e⟩
    · exact nomatch e
    · injection e with e1 _
      subst e1
      cases v <;> rfl

end L2

namespace L2
open PySem PySem.Spec PyProof.Rows

/-- a value, without the heap -/
inductive V where
  | non | bl (b : Bool) | int (i : Int) | str (x : Str) | byt (b : Array UInt8) | flt (b : UInt64) | ref (a : Addr) | ty (n : String)
  deriving DecidableEq

def RelV : V → Value → Prop
  | .non, u => u = Value.none
  | .bl b, u => u = Value.bool b
  | .int i, u => ∃ t, u = Value.int i t
  | .str x, u => ∃ t, u = Value.str x t
  | .byt b, u => ∃ t, u = Value.bytes b t
  | .flt b, u => ∃ t, u = Value.float b t
  | .ref a, u => u = Value.ref a
  | .ty n, u => u = Value.type n

abbrev Vals : List V → List Value → Prop := Paired RelV
theorem Vals.length {xs : List V} {us : List Value} (r : Vals xs us) : xs.length = us.length := Paired.length r
theorem Vals.get : ∀ {xs : List V} {us : List Value} {i : Nat} {x : V}, Vals xs us → xs[i]? = some x → ∃ u, us[i]? = some u ∧ RelV x u
  | _, _, _, _, .nil, e => by simp at e
  | _, _, 0, _, .cons r _, e => by simp at e; subst e; exact ⟨_, rfl, r⟩
  | _, _, i + 1, x, .cons _ t, e => by
    obtain ⟨u, h1, h2⟩ := Vals.get (i := i) (x := x) t (by simpa using e)
    exact ⟨u, by simpa using h1, h2⟩
theorem Vals.set {x : V} {u : Value} (r : RelV x u) : ∀ {xs : List V} {us : List Value} (i : Nat), Vals xs us → Vals (xs.set i x) (us.set i u)
  | _, _, _, .nil => .nil
  | _, _, 0, .cons _ t => .cons r t
  | _, _, i + 1, .cons q t => .cons q (Vals.set r i t)
theorem Vals.append : ∀ {xs ys : List V} {us ws : List Value}, Vals xs us → Vals ys ws → Vals (xs ++ ys) (us ++ ws)
  | _, _, _, _, .nil, s => s
  | _, _, _, _, .cons r t, s => .cons r (Vals.append t s)
theorem Vals.take : ∀ {xs : List V} {us : List Value} (n : Nat), Vals xs us → Vals (xs.take n) (us.take n)
  | _, _, 0, _ => .nil
  | _, _, _ + 1, .nil => .nil
  | _, _, n + 1, .cons r t => .cons r (Vals.take n t)
theorem Vals.drop : ∀ {xs : List V} {us : List Value} (n : Nat), Vals xs us → Vals (xs.drop n) (us.drop n)
  | _, _, 0, r => r
  | _, _, _ + 1, .nil => .nil
  | _, _, n + 1, .cons _ t => Vals.drop n t

def RelO : Option V → Option Value → Prop
  | some v, some u => RelV v u
  | none, none => True
  | _, _ => False
def KV {κ : Type} : List (κ × V) → List (κ × Value) → Prop := Paired fun (p : κ × V) (q : κ × Value) => p.1 = q.1 ∧ RelV p.2 q.2

/-- a key of a dict (00_mix): an int or a text -/
def kV : Key → V
  | .inl i => .int i
  | .inr x => .str x

/-- what stands at a tracked address -/
inductive HO where
  /-- a list -/
  | lst (xs : List V)
  /-- a tuple (never changes) -/
  | tup (xs : List V)
  /-- a dict whose keys are ints and texts; one whose keys are tuples of ints and texts (the empty one is both) -/
  | dK (kvs : List (Key × V)) | dT (kvs : List (List Key × V))
  /-- a set of ints: its members, its size -/
  | set (S : Int → Bool) (n : Nat)
  /-- an instance of the class at C, its dict at dx, its attributes -/
  | ins (C dx : Addr) (fs : List (Str × V))
  /-- the dict of the instance at x -/
  | own (x : Addr)
  /-- the dict of an exception -/
  | xd (fs : List (Str × V))
  /-- a bound method, f of x -/
  | met (f x : Addr)
  /-- a range object lo, lo + 1, .. below hi -/
  | rng (lo hi : Int)
  /-- a thing that is known to the object (the script; a dict while a loop walks it): read, never written while it is so -/
  | frz (o : Obj) (u : HO)
  /-- a code object's table -/
  | tbl (ps : Array Value)
  /-- any other thing, by what is true of its one object (a def of one's own: SetO a S n := HO.ext fun h => ..) -/
  | ext (φ : Heap → Prop)

abbrev Hp := Addr → Option HO
def upd (H : Hp) (a : Addr) (o : HO) : Hp := fun b => if b = a then some o else H b
theorem upd_same {H : Hp} {a : Addr} {o : HO} : upd H a o a = some o := by unfold upd; rw [if_pos rfl]
theorem upd_ne {H : Hp} {a b : Addr} {o : HO} (h : b ≠ a) : upd H a o b = H b := by unfold upd; rw [if_neg h]

theorem ne_of_none {H : Hp} {a b : Addr} {o : HO} (h : H a = some o) (h' : H b = none) : a ≠ b := by
  intro e; subst e; rw [h] at h'; cases h'

section
variable (P : Program) (w : World)
def ObjOk (H : Hp) (h : Heap) (a : Addr) : HO → Prop
  | .lst xs => xs.length ≤ sizeLine ∧ ∃ (its : List Value) (n : Nat), Vals xs its ∧ h.get? a = some { cls := .type "list", data := .seq its.toArray n }
  | .tup xs => xs.length ≤ sizeLine ∧ ∃ its : List Value, Vals xs its ∧ IsTup h a its.toArray
  | .dK kvs => kvs.length ≤ sizeLine ∧ (a == sysModules) = false ∧ ∃ vs, KV kvs vs ∧ h.DictOf (mixKind P w) a vs
  | .dT kvs => kvs.length ≤ sizeLine ∧ (a == sysModules) = false ∧ ∃ xs : List (List Key × Addr × Value),
      Paired (fun (p : List Key × V) (q : List Key × Addr × Value) => p.1 = q.1 ∧ H q.2.1 = some (.tup (p.1.map kV)) ∧ RelV p.2 q.2.2) kvs xs ∧
      ∃ o es ep, h.get? a = some o ∧ o.ExactDict ∧ o.data = .dict es ep ∧ es.toList = xs.map (entryOfKey (tupleKind (mixKind P w))) ∧ (xs.map (·.1)).Nodup
  | .set S n => h.SetOf (intKind P w) a S n
  | .ins C dx fs => H dx = some (.own a) ∧ fs.length ≤ 1000 ∧ dx ≠ a ∧ h.get? a = some (PySem.W.instObj C dx) ∧
      ∃ mA, h.Ns1 dx mA ∧ (∀ f, RelO (fs.lookup f) (mA f)) ∧ PySem.Within mA (fs.map (·.1))
  | .own _ => ∃ o, h.get? a = some o
  | .xd fs => ∃ mA, h.Ns1 a mA ∧ ∀ f, RelO (fs.lookup f) (mA f)
  | .rng lo hi => ∃ t u v, h.get? a = some { cls := .type "range", data := .fields #[.int lo t, .int hi u, .int 1 v] }
  | .frz o u => h.get? a = some o ∧ ObjOk H h a u
  | .tbl ps => h.get? a = some { cls := .none, data := .fields ps }
  | .met f x => h.get? a = some (PySem.W.methodObj (.ref f) (.ref x))
  | .ext φ => φ h ∧ (∃ o, h.get? a = some o) ∧ ∀ h1 h2 : Heap, φ h1 → (∀ o, h1.get? a = some o → h2.get? a = some o) → φ h2
/-- the abstract heap is held -/
def HOk (H : Hp) (h : Heap) : Prop := ∀ a o, H a = some o → ObjOk P w H h a o
end

section
variable {P : Program} {w : World} {H H' : Hp} {h h' : Heap} {a : Addr} {o : HO}
theorem ObjOk.lt (x : ObjOk P w H h a o) : a < h.objs.size := by
  cases o with
  | lst xs => obtain ⟨_, _, _, _, e⟩ := x; exact Heap.lt_size e
  | tup xs => obtain ⟨_, _, _, p⟩ := x; exact p.lt
  | dK kvs => obtain ⟨_, _, _, _, o, _, _, e, _⟩ := x; exact Heap.lt_size e
  | dT kvs => obtain ⟨_, _, _, _, o, _, _, e, _⟩ := x; exact Heap.lt_size e
  | set S n => obtain ⟨o, _, _, _, e, _⟩ := x; exact Heap.lt_size e
  | ins C dx fs => obtain ⟨_, _, _, e, _⟩ := x; exact Heap.lt_size e
  | own y => obtain ⟨_, e⟩ := x; exact Heap.lt_size e
  | xd fs => obtain ⟨_, ⟨_, _, _, e, _⟩, _⟩ := x; exact Heap.lt_size e
  | rng lo hi => obtain ⟨_, _, _, e⟩ := x; exact Heap.lt_size e
  | frz ob u => obtain ⟨e, _⟩ := x; exact Heap.lt_size e
  | tbl ps => exact Heap.lt_size (show h.get? a = some _ from x)
  | met f y => exact Heap.lt_size (show h.get? a = some _ from x)
  | ext φ => obtain ⟨_, ⟨_, e⟩, _⟩ := x; exact Heap.lt_size e
theorem Paired.mapP {α β : Type} {F G : α → β → Prop} : ∀ {l₁ : List α} {l₂ : List β}, Paired F l₁ l₂ → (∀ a b, F a b → G a b) → Paired G l₁ l₂
  | _, _, .nil, _ => .nil
  | _, _, .cons r t, f => .cons (f _ _ r) (Paired.mapP t f)
theorem Paired.imp' {α β : Type} {F G : α → β → Prop} (f : ∀ a b, F a b → G a b) {l₁ : List α} {l₂ : List β} (r : Paired F l₁ l₂) : Paired G l₁ l₂ := Paired.mapP r f
/-- what an object's description leans on: its own object, its own dict, the tuples -/
theorem ObjOk.stay (x : ObjOk P w H h a o) (k : ∀ b u, (b = a ∨ H b = some (.own a)) → h.get? b = some u → h'.get? b = some u)
    (ho : ∀ b, H b = some (.own a) → H' b = some (.own a)) (ht : ∀ b xs, H b = some (.tup xs) → H' b = some (.tup xs)) : ObjOk P w H' h' a o := by
  induction o with
  | lst xs => obtain ⟨z, its, n, r, e⟩ := x; exact ⟨z, its, n, r, k _ _ (.inl rfl) e⟩
  | tup xs => obtain ⟨z, its, r, ob, e, c⟩ := x; exact ⟨z, its, r, ob, k _ _ (.inl rfl) e, c⟩
  | dK kvs => obtain ⟨z, y, vs, r, ob, es, ep, e, c⟩ := x; exact ⟨z, y, vs, r, ob, es, ep, k _ _ (.inl rfl) e, c⟩
  | dT kvs =>
    obtain ⟨z, y, xs, r, ob, es, ep, e, c⟩ := x
    exact ⟨z, y, xs, Paired.mapP r fun p q z => ⟨z.1, ht _ _ z.2.1, z.2.2⟩, ob, es, ep, k _ _ (.inl rfl) e, c⟩
  | set S n => obtain ⟨ob, es, ep, t, e, c⟩ := x; exact ⟨ob, es, ep, t, k _ _ (.inl rfl) e, c⟩
  | ins C dx fs =>
    obtain ⟨d, z, ne, e, mA, ⟨od, es, ep, e2, c⟩, r⟩ := x
    exact ⟨ho _ d, z, ne, k _ _ (.inl rfl) e, mA, ⟨od, es, ep, k _ _ (.inr d) e2, c⟩, r⟩
  | own y => obtain ⟨ob, e⟩ := x; exact ⟨ob, k _ _ (.inl rfl) e⟩
  | xd fs => obtain ⟨mA, ⟨od, es, ep, e, c⟩, r⟩ := x; exact ⟨mA, ⟨od, es, ep, k _ _ (.inl rfl) e, c⟩, r⟩
  | rng lo hi => obtain ⟨t, u, v, e⟩ := x; exact ⟨t, u, v, k _ _ (.inl rfl) e⟩
  | frz ob u ih => obtain ⟨e, q⟩ := x; exact ⟨k _ _ (.inl rfl) e, ih q⟩
  | tbl ps =>
    have e : h.get? a = some { cls := .none, data := .fields ps } := x
    show h'.get? a = some { cls := .none, data := .fields ps }
    exact k a _ (.inl rfl) e
  | met f y =>
    have e : h.get? a = some (PySem.W.methodObj (.ref f) (.ref y)) := x
    show h'.get? a = some (PySem.W.methodObj (.ref f) (.ref y))
    exact k a _ (.inl rfl) e
  | ext φ => obtain ⟨p, ⟨o, e⟩, st⟩ := x; exact ⟨st _ _ p fun o q => k _ _ (.inl rfl) q, ⟨o, k _ _ (.inl rfl) e⟩, st⟩
theorem HOk.lt (x : HOk P w H h) (e : H a = some o) : a < h.objs.size := (x a o e).lt
theorem HOk.fresh (x : HOk P w H h) (e : h.objs.size ≤ a) : H a = none := by
  cases q : H a with
  | none => rfl
  | some u => exact absurd (Nat.lt_of_lt_of_le (x.lt q) e) (Nat.lt_irrefl _)
/-- every object of the heap is kept -/
theorem HOk.kept (x : HOk P w H h) (k : ∀ b u, h.get? b = some u → h'.get? b = some u) : HOk P w H h' := fun a o e =>
  (x a o e).stay (fun b u _ q => k b u q) (fun _ q => q) fun _ _ q => q
/-- a new object is laid and tracked -/
theorem HOk.laid (x : HOk P w H h) (k : ∀ b u, h.get? b = some u → h'.get? b = some u) (hp : h.objs.size ≤ a) (new : ObjOk P w (upd H a o) h' a o) : HOk P w (upd H a o) h' := fun b u e => by
  have hn := x.fresh hp
  by_cases hb : b = a
  · subst hb; rw [upd_same] at e; cases e; exact new
  · rw [upd_ne hb] at e
    exact (x b u e).stay (fun c v _ q => k c v q) (fun c q => by rw [upd_ne (ne_of_none q hn)]; exact q) fun c xs q => by rw [upd_ne (ne_of_none q hn)]; exact q
end

/-- what may be read as u: it is u, or a known u -/
def Rd (H : Hp) (a : Addr) (u : HO) : Prop := H a = some u ∨ ∃ o, H a = some (.frz o u)

theorem Rd.ok {P : Program} {w : World} {H : Hp} {h : Heap} {a : Addr} {u : HO} (r : Rd H a u) (x : HOk P w H h) : ObjOk P w H h a u := by
  rcases r with r | ⟨o, r⟩
  · exact x a u r
  · obtain ⟨_, q⟩ := x a _ r
    exact q
/-- what may be written -/
def Mut : Option HO → Prop
  | some (.lst _) => True
  | some (.dK _) => True
  | some (.dT _) => True
  | some (.set _ _) => True
  | some (.ins _ _ _) => True
  | some (.ext _) => True
  | _ => False
section
variable {P : Program} {w : World} {H : Hp} {h h' : Heap} {x e : Addr} {o' : HO}
/-- the object at e is changed: x itself, or the dict of the instance x -/
theorem HOk.write (ok : HOk P w H h) (mu : Mut (H x)) (he : e = x ∨ H e = some (.own x)) (k : ∀ b u, b ≠ e → h.get? b = some u → h'.get? b = some u) (heo : ∃ u, h'.get? e = some u)
    (new : ObjOk P w (upd H x o') h' x o') : HOk P w (upd H x o') h' := fun b u q => by
  have nown : ∀ c y, H c = some (.own y) → c ≠ x := fun c y r z => by subst z; rw [r] at mu; exact mu
  have ntup : ∀ c xs, H c = some (.tup xs) → c ≠ x := fun c xs r z => by subst z; rw [r] at mu; exact mu
  by_cases hb : b = x
  · subst hb; rw [upd_same] at q; cases q; exact new
  · rw [upd_ne hb] at q
    by_cases hbe : b = e
    · have q' : H b = some (.own x) := by
        rcases he with z | z
        · exact absurd (hbe.trans z) hb
        · rw [hbe]; exact z
      rw [q] at q'; cases q'
      obtain ⟨v, hv⟩ := heo
      exact ⟨v, by rw [hbe]; exact hv⟩
    · refine (ok b u q).stay (fun c v hc r => k c v ?_ r) (fun c r => by rw [upd_ne (nown c b r)]; exact r) fun c xs r => by rw [upd_ne (ntup c xs r)]; exact r
      rcases hc with rfl | hc
      · exact hbe
      · rintro rfl
        rcases he with z | z
        · exact nown c b hc z
        · rw [hc] at z; cases z; exact hb rfl
end

/-! ### kept unless tracked; of the frames at fs (the callers') the slots may change (an exception that passes writes there); of the records at ex (iterators) nothing is said -/
structure Un (fs ex : List Addr) (H H' : Hp) (h h' : Heap) : Prop where
  keep : ∀ b o, h.get? b = some o → H b = none → b ∉ fs → b ∉ ex → h'.get? b = some o
  slot : ∀ b o, h.get? b = some o → H b = none → b ∈ fs → b ∉ ex → ∃ sl, h'.get? b = some { o with slots := sl }
  free : ∀ b o, h.get? b = some o → H b = none → b ∉ ex → H' b = none
  there : ∀ b o, h.get? b = some o → b ∉ ex → ∃ o', h'.get? b = some o'
  tups : ∀ b xs, H b = some (.tup xs) → H' b = some (.tup xs)
  frzs : ∀ b o u, H b = some (.frz o u) → H' b = some (.frz o u)
  tbls : ∀ b ps, H b = some (.tbl ps) → ∃ more, H' b = some (.tbl (ps ++ more))
section
variable {fs fs' ex ex' : List Addr} {H H1 H2 : Hp} {h h1 h2 h' : Heap} {a x e : Addr} {o : HO}
theorem Un.any (u : Un fs ex H H1 h h1) {b : Addr} {ob : Obj} (q : h.get? b = some ob) (n : H b = none) (hx : b ∉ ex) : ∃ sl, h1.get? b = some { ob with slots := sl } := by
  by_cases hb : b ∈ fs
  · exact u.slot b ob q n hb hx
  · exact ⟨ob.slots, u.keep b ob q n hb hx⟩

theorem Un.kept (k : ∀ b u, h.get? b = some u → h'.get? b = some u) : Un fs ex H H h h' :=
  ⟨fun b ob q _ _ _ => k b ob q, fun b ob q _ _ _ => ⟨ob.slots, k b ob q⟩, fun _ _ _ n _ => n, fun b ob q _ => ⟨ob, k b ob q⟩, fun _ _ q => q, fun _ _ _ q => q, fun _ ps q => ⟨#[], by rw [q]; simp⟩⟩
theorem Un.refl : Un fs ex H H h h := Un.kept fun _ _ q => q
theorem Un.laid (k : ∀ b u, h.get? b = some u → h'.get? b = some u) (hp : h.objs.size ≤ a) (hn : H a = none) : Un fs ex H (upd H a o) h h' where
  keep := fun b u q _ _ _ => k b u q
  slot := fun b u q _ _ _ => ⟨u.slots, k b u q⟩
  free := fun b u q n _ => by rw [upd_ne (Nat.ne_of_lt (Nat.lt_of_lt_of_le (Heap.lt_size q) hp))]; exact n
  there := fun b u q _ => ⟨u, k b u q⟩
  tups := fun b xs q => by rw [upd_ne (ne_of_none q hn)]; exact q
  frzs := fun b u xs q => by rw [upd_ne (ne_of_none q hn)]; exact q
  tbls := fun b ps q => ⟨#[], by rw [upd_ne (ne_of_none q hn), q]; simp⟩
theorem Un.write (mu : Mut (H x)) (he : e = x ∨ H e = some (.own x)) (k : ∀ b u, b ≠ e → h.get? b = some u → h'.get? b = some u) (heo : ∃ u, h'.get? e = some u) : Un fs ex H (upd H x o) h h' := by
  have hx : ∀ b, H b = none → b ≠ x := fun b n z => by subst z; rw [n] at mu; exact mu
  have hb : ∀ b, H b = none → b ≠ e := fun b n z => by
    subst z
    rcases he with r | r
    · exact hx b n r
    · rw [n] at r; cases r
  have hm : ∀ b u, H b = some u → ¬ Mut (some u) → b ≠ x := fun b u q nm z => by subst z; rw [q] at mu; exact nm mu
  refine ⟨fun b u q n _ _ => k b u (hb b n) q, fun b u q n _ _ => ⟨u.slots, k b u (hb b n) q⟩, fun b u q n _ => by rw [upd_ne (hx b n)]; exact n, fun b u q _ => ?_,
    fun b xs q => by rw [upd_ne (hm b _ q fun z => z)]; exact q, fun b u xs q => by rw [upd_ne (hm b _ q fun z => z)]; exact q, fun b ps q => ⟨#[], by rw [upd_ne (hm b _ q fun z => z), q]; simp⟩⟩
  by_cases hbe : b = e
  · subst hbe; exact heo
  · exact ⟨u, k b u hbe q⟩

end

/-! ### the heap without what is tracked -/
def trk (h : Heap) (H : Hp) : List Addr := (List.range h.objs.size).filter fun a => (H a).isSome
def hidT (h : Heap) (H : Hp) : Heap := PySem.W.hideAll h (trk h H)
theorem hidT_size (h : Heap) (H : Hp) : (hidT h H).objs.size = h.objs.size := PySem.W.hideAll_size _ _
theorem hidT_get {h : Heap} {H : Hp} {b : Addr} {o : Obj} (e : h.get? b = some o) (n : H b = none) : (hidT h H).get? b = some o :=
  PySem.W.hideAll_get _ e fun hm => by
    have q : (H b).isSome = true := (List.mem_filter.mp hm).2
    rw [n] at q; simp at q
theorem of_hidT {h : Heap} {H : Hp} {b : Addr} {o : Obj} (e : (hidT h H).get? b = some o) : h.get? b = some o ∧ H b = none := by
  have e' : h.get? b = some o := PySem.W.of_hideAll (trk h H) e
  refine ⟨e', ?_⟩
  cases q : H b with
  | none => rfl
  | some x =>
    have hm : b ∈ trk h H := List.mem_filter.mpr ⟨List.mem_range.mpr (Heap.lt_size e'), by simp [q]⟩
    have z : (hidT h H).get? b = none := PySem.W.hideAll_none (trk h H) hm
    rw [z] at e; cases e

/-! ### OpenK's ledger, filled with every new object but one -/

end L2

namespace L2
open PySem PySem.Spec PyProof.Rows

/-- the module's facts, over the base: the heap at the law's entry without what is tracked there -/
structure Mod (K : PySem.W.Frag) (mg : Str → Option Value) (base : Heap) : Prop where
  kin : K.In base
  glob : base.Ns mainGlobals mg
  blt : ∃ mb, base.Ns builtinsNs mb ∧ ∀ x : Str, x ≠ "__name__" → mb x = bootBuiltins x
  nolimit : base.NoLimit

/-- the context: a def's body (or a comprehension's block) running. base: fixed through the whole law; s₀, H₀: the entry; outer: the frames whose slots others may change (a def's callers); stack: all frames that run;
   ex: iterators that were made ahead of the entry and are walked here (a comprehension's); fn: the names whose cells were made at the entry (a def: all; a comprehension's block: its own); calm: not within an except suite; pn: pins that every state bears; xe: what is wanted of an exception that leaves the code -/
structure Cx where
  prog : Program
  w : World
  K : PySem.W.Frag
  mg : Str → Option Value
  base : Heap
  A : Around
  N : List Str
  s_0 : Shared
  H_0 : Hp
  env : Env
  outer : List Env
  stack : List Env
  ex : List Addr
  fn : Str → Bool
  calm : Bool
  pn : List (Addr × Obj)
  xe : Value → Shared → Prop
/-- the callers' frames -/
def frs (l : List Env) : List Addr := l.filterMap (·.frame)
abbrev Cx.fs (X : Cx) : List Addr := frs X.outer

def Vis (sc : Scope) (x : Str) : Prop := sc.names.lookup x = some .local ∨ sc.names.lookup x = some .cell ∨ sc.names.lookup x = some .free
def Loc (sc : Scope) (x : Str) : Prop := sc.names.lookup x = some .local ∨ sc.names.lookup x = some .cell
def Look (env : Env) (h : Heap) (m : Str → Option Value) (x : Str) (u : Value) : Prop :=
  (env.kindOf x = some .local ∧ m x = some u) ∨ ((env.kindOf x = some .cell ∨ env.kindOf x = some .free) ∧ ∃ c, env.cells.lookup x = some c ∧ h.IsCell c (some u))

structure Cx.Ok (X : Cx) : Prop where
  mod : Mod X.K X.mg X.base
  kind : X.env.scope.kind = .function
  glob : X.env.globals = mainGlobals
  blt : X.env.builtins = builtinsNs
  above : X.s_0.heap.objs.size ≤ X.env.locals
  inj : ∀ x y c, X.env.cells.lookup x = some c → X.env.cells.lookup y = some c → x = y
  has : ∀ x, (X.env.kindOf x = some .cell ∨ X.env.kindOf x = some .free) → ∃ c, X.env.cells.lookup x = some c
  cab : ∀ x c, X.fn x = true → X.env.cells.lookup x = some c → X.s_0.heap.objs.size ≤ c
  hd : X.calm = true → X.A.handled = none
  frames : X.A.frames = some X.stack
  stk : X.stack = X.outer ∨ (X.stack = X.env :: X.outer ∧ X.env.frame = some X.env.locals)
  exf : ∀ b ∈ X.ex, b ≠ X.env.locals ∧ ∀ x c, X.env.cells.lookup x = some c → c ≠ b
  bs : ∀ b o, X.base.get? b = some o → X.s_0.heap.get? b = some o ∧ X.H_0 b = none
  bsz : X.base.objs.size ≤ X.s_0.heap.objs.size
  noex : ∀ b o, X.base.get? b = some o → b ∉ X.ex
  exfs : ∀ b ∈ X.ex, b ∉ X.fs
  funs : X.s_0.heap.FunFrames X.base X.outer
  frf : ∀ b ∈ X.fs, X.H_0 b = none

structure Inv (X : Cx) (pins : List (Addr × Obj)) (σ : List (Option V)) (H : Hp) (s : Shared) : Prop where
  ok : X.Ok
  os : s.os = X.s_0.os
  bare : AllBare s.gens
  base : Un X.fs X.ex X.H_0 H X.s_0.heap s.heap
  loc : ∃ m, s.heap.Ns X.env.locals m ∧ ∀ (i : Nat) (x : Str) (v : V), X.N[i]? = some x → σ[i]? = some (some v) → Vis X.env.scope x → ∃ u, RelV v u ∧ Look X.env s.heap m x u
  cell : ∀ x c, X.env.cells.lookup x = some c → ∃ v, s.heap.IsCell c v
  free : H X.env.locals = none
  freeC : ∀ x c, X.env.cells.lookup x = some c → H c = none
  pin : ∀ p ∈ X.pn ++ pins, s.heap.get? p.1 = some p.2 ∧ H p.1 = none ∧ p.1 ≠ X.env.locals ∧ p.1 ∉ X.fs ∧ ∀ v, p.2.data ≠ .cell v
  hok : HOk X.prog X.w H s.heap
  len : σ.length = X.N.length

section
variable {X : Cx} {pins : List (Addr × Obj)} {σ : List (Option V)} {H H' : Hp} {s : Shared} {h' : Heap}

theorem Cx.Ok.nofr (ok : X.Ok) {b : Addr} {o : Obj} (e : X.base.get? b = some o) : b ∉ X.fs := fun hb => by
  have := (ok.funs.mem hb).1
  rw [e] at this; cases this
theorem Inv.bs (I : Inv X pins σ H s) : ∀ b o, X.base.get? b = some o → s.heap.get? b = some o ∧ H b = none := fun b o e =>
  ⟨I.base.keep b o (I.ok.bs b o e).1 (I.ok.bs b o e).2 (I.ok.nofr e) (I.ok.noex b o e), I.base.free b o (I.ok.bs b o e).1 (I.ok.bs b o e).2 (I.ok.noex b o e)⟩
theorem Inv.bk (I : Inv X pins σ H s) : ∀ b o, X.base.get? b = some o → s.heap.get? b = some o := fun b o e => (I.bs b o e).1
theorem Inv.mod (I : Inv X pins σ H s) : Mod X.K X.mg X.base := I.ok.mod
theorem Inv.kIn (I : Inv X pins σ H s) : X.K.In s.heap := I.ok.mod.kin.keeps I.bk

theorem Inv.lt (I : Inv X pins σ H s) : X.env.locals < s.heap.objs.size := let ⟨_, hn, _⟩ := I.loc; hn.lt
theorem Inv.sz (I : Inv X pins σ H s) : X.s_0.heap.objs.size ≤ s.heap.objs.size := Nat.le_trans I.ok.above (Nat.le_of_lt I.lt)
theorem Inv.nofs (I : Inv X pins σ H s) {a : Addr} (h : s.heap.objs.size ≤ a) : a ∉ X.fs := fun hb => by
  obtain ⟨_, o, ho, _⟩ := I.ok.funs.mem hb
  exact absurd (Nat.lt_of_lt_of_le (Heap.lt_size ho) (Nat.le_trans I.sz h)) (Nat.lt_irrefl _)
theorem Inv.cne (I : Inv X pins σ H s) : ∀ x c, X.env.cells.lookup x = some c → c ≠ X.env.locals := fun x c e z => by
  obtain ⟨v, o, ho, hd⟩ := I.cell x c e
  obtain ⟨m, ⟨o', es, ep, ho', hd', _⟩, _⟩ := I.loc
  rw [z, ho'] at ho; cases ho; rw [hd'] at hd; cases hd
theorem Inv.funs (I : Inv X pins σ H s) : s.heap.FunFrames X.base X.outer := by
  have all : ∀ (l : List Env), (∀ b ∈ frs l, b ∈ X.fs) → X.s_0.heap.FunFrames X.base l → s.heap.FunFrames X.base l := by
    intro l
    induction l with
    | nil => intro _ _; trivial
    | cons env r ih =>
      intro hs hl
      obtain ⟨hk, ⟨L, o, hf, hn, ho, hd⟩, hr⟩ := hl
      have hL : L ∈ X.fs := hs L (by unfold frs; rw [List.filterMap_cons, hf]; exact List.mem_cons_self)
      obtain ⟨sl, e⟩ := I.base.slot L o ho (I.ok.frf L hL) hL fun z => I.ok.exfs L z hL
      exact ⟨hk, ⟨L, _, hf, hn, e, hd⟩, ih (fun b hb => hs b (by unfold frs; rw [List.filterMap_cons, hf]; exact List.mem_cons_of_mem _ hb)) hr⟩
  exact all X.outer (fun _ hb => hb) I.ok.funs

/-- the frames that run, for a call -/
theorem Inv.stack (I : Inv X pins σ H s) : s.heap.FunFrames X.base X.stack := by
  rcases I.ok.stk with e | ⟨e, hf⟩
  · rw [e]; exact I.funs
  · rw [e]
    obtain ⟨m, hn, _⟩ := I.loc
    refine .cons (by rw [I.ok.kind]; decide) hf hn ?_ I.funs
    exact Heap.get?_none_of_le (Nat.le_trans I.ok.bsz I.ok.above)
theorem Inv.stkSub (I : Inv X pins σ H s) : ∀ b ∈ frs X.stack, b ∈ X.env.locals :: X.fs := fun b hb => by
  rcases I.ok.stk with e | ⟨e, hf⟩
  · rw [e] at hb; exact List.mem_cons_of_mem _ hb
  · rw [e] at hb
    unfold frs at hb
    rw [List.filterMap_cons, hf] at hb
    exact hb
theorem Inv.stkFree (I : Inv X pins σ H s) : ∀ b ∈ frs X.stack, H b = none := fun b hb => by
  rcases List.mem_cons.mp (I.stkSub b hb) with e | hb
  · rw [e]; exact I.free
  · obtain ⟨_, o, ho, _⟩ := I.ok.funs.mem hb
    exact I.base.free b o ho (I.ok.frf b hb) fun z => I.ok.exfs b z hb

/-- THE STEP: the untracked objects but the frame and the records at ch are kept (the callers' frames up to slots), the frame's map is kept, the new abstract heap is held -/
theorem Inv.step {g' : Array GenState} {t' : Nat} {d' : Drawn} {ch : List Addr} (I : Inv X pins σ H s)
    (hch : ∀ b ∈ ch, (b ∈ X.ex ∨ X.s_0.heap.objs.size ≤ b) ∧ b ≠ X.env.locals ∧ (∀ x c, X.env.cells.lookup x = some c → c ≠ b) ∧ ∀ p ∈ X.pn ++ pins, p.1 ≠ b)
    (keep : ∀ b o, b ≠ X.env.locals → b ∉ X.fs → b ∉ ch → s.heap.get? b = some o → H b = none → h'.get? b = some o)
    (slot : ∀ b o, b ≠ X.env.locals → b ∈ X.fs → b ∉ ch → s.heap.get? b = some o → H b = none → ∃ sl, h'.get? b = some { o with slots := sl }) (free : ∀ b o, b ∉ ch → s.heap.get? b = some o → H b = none → H' b = none)
    (there : ∀ b o, b ∉ ch → s.heap.get? b = some o → ∃ o', h'.get? b = some o')
    (tups : ∀ b xs, H b = some (.tup xs) → H' b = some (.tup xs)) (frzs : ∀ b o u, H b = some (.frz o u) → H' b = some (.frz o u)) (tbls : ∀ b ps, H b = some (.tbl ps) → ∃ more, H' b = some (.tbl (ps ++ more)))
    (ns : ∀ m, s.heap.Ns X.env.locals m → h'.Ns X.env.locals m) (hok : HOk X.prog X.w H' h') (hg : AllBare g') :
    Inv X pins σ H' { s with heap := h', gens := g', drawn := d', toks := t' } := by
  have neL : ∀ b o, X.s_0.heap.get? b = some o → b ≠ X.env.locals := fun b o e => Nat.ne_of_lt (Nat.lt_of_lt_of_le (Heap.lt_size e) I.ok.above)
  have neC : ∀ b o, X.s_0.heap.get? b = some o → b ∉ X.ex → b ∉ ch := fun b o e hx hb => by
    rcases (hch b hb).1 with z | z
    · exact hx z
    · exact absurd (Nat.lt_of_lt_of_le (Heap.lt_size e) z) (Nat.lt_irrefl _)
  have cellK : ∀ x c, X.env.cells.lookup x = some c → ∀ v, s.heap.IsCell c v → h'.IsCell c v := fun x c e v ⟨o, ho, hd⟩ => by
    have nch : c ∉ ch := fun z => (hch c z).2.2.1 x c e rfl
    by_cases hc : c ∈ X.fs
    · obtain ⟨sl, q⟩ := slot c o (I.cne x c e) hc nch ho (I.freeC x c e)
      exact ⟨_, q, hd⟩
    · exact ⟨o, keep c o (I.cne x c e) hc nch ho (I.freeC x c e), hd⟩
  refine ⟨I.ok, I.os, hg, ⟨fun b o e n hb hx => ?_, fun b o e n hb hx => ?_, fun b o e n hx => ?_, fun b o e hx => ?_, fun b xs e => tups b xs (I.base.tups b xs e), fun b o xs e => frzs b o xs (I.base.frzs b o xs e), fun b ps e => ?_⟩, ?_, fun x c e => ?_, ?_, fun x c e => ?_, fun p hp => ?_, hok, I.len⟩
  · exact keep b o (neL b o e) hb (neC b o e hx) (I.base.keep b o e n hb hx) (I.base.free b o e n hx)
  · obtain ⟨sl, e1⟩ := I.base.slot b o e n hb hx
    obtain ⟨sl', e2⟩ := slot b _ (neL b o e) hb (neC b o e hx) e1 (I.base.free b o e n hx)
    exact ⟨sl', e2⟩
  · obtain ⟨o', e1⟩ := I.base.there b o e hx
    exact free b o' (neC b o e hx) e1 (I.base.free b o e n hx)
  · obtain ⟨o', e1⟩ := I.base.there b o e hx
    exact there b o' (neC b o e hx) e1
  · obtain ⟨m1, e1⟩ := I.base.tbls b ps e
    obtain ⟨m2, e2⟩ := tbls b _ e1
    exact ⟨m1 ++ m2, by rw [e2, Array.append_assoc]⟩
  · obtain ⟨m, hn, hl⟩ := I.loc
    refine ⟨m, ns m hn, fun i x v e1 e2 e3 => ?_⟩
    obtain ⟨u, r, l⟩ := hl i x v e1 e2 e3
    refine ⟨u, r, ?_⟩
    rcases l with l | ⟨k, c, e, z⟩
    · exact .inl l
    · exact .inr ⟨k, c, e, cellK x c e _ z⟩
  · obtain ⟨v, z⟩ := I.cell x c e
    exact ⟨v, cellK x c e v z⟩
  · obtain ⟨m, ⟨o, _, _, ho, _⟩, _⟩ := I.loc
    exact free _ o (fun z => (hch _ z).2.1 rfl) ho I.free
  · obtain ⟨v, o, ho, hd⟩ := I.cell x c e
    exact free c o (fun z => (hch c z).2.2.1 x c e rfl) ho (I.freeC x c e)
  · obtain ⟨e, n, ne, nf, d⟩ := I.pin p hp
    have nch : p.1 ∉ ch := fun z => (hch p.1 z).2.2.2 p hp rfl
    exact ⟨keep p.1 p.2 ne nf nch e n, free p.1 p.2 nch e n, ne, nf, d⟩
/-- .. where the frame's own object is kept too -/
theorem Inv.un {t' : Nat} (I : Inv X pins σ H s) (u : Un X.fs [] H H' s.heap h') (hok : HOk X.prog X.w H' h') : Inv X pins σ H' { s with heap := h', toks := t' } := by
  obtain ⟨m, ⟨o, es, ep, ho, r⟩, _⟩ := id I.loc
  obtain ⟨sl, hL⟩ := u.any ho I.free (by simp)
  exact I.step (g' := s.gens) (d' := s.drawn) (ch := []) (fun _ z => nomatch z) (fun b o _ hb _ e n => u.keep b o e n hb (by simp)) (fun b o _ hb _ e n => u.slot b o e n hb (by simp)) (fun b o _ e n => u.free b o e n (by simp)) (fun b o _ e => u.there b o e (by simp)) u.tups u.frzs u.tbls (fun m' hm => by
    obtain ⟨o', es', ep', ho', r'⟩ := hm
    rw [ho] at ho'; cases ho'
    exact ⟨_, es', ep', hL, r'⟩) hok I.bare
/-- behind a call (or a comprehension's block): the slots of this frame may have changed too, the records at ch may have turned -/
theorem Inv.call {g' : Array GenState} {t' : Nat} {d' : Drawn} {ch : List Addr} (I : Inv X pins σ H s) (u : Un (frs X.stack) ch H H' s.heap h') (hok : HOk X.prog X.w H' h') (hg : AllBare g')
    (hch : ∀ b ∈ ch, (b ∈ X.ex ∨ X.s_0.heap.objs.size ≤ b) ∧ b ≠ X.env.locals ∧ (∀ x c, X.env.cells.lookup x = some c → c ≠ b) ∧ ∀ p ∈ X.pn ++ pins, p.1 ≠ b) :
    Inv X pins σ H' { s with heap := h', gens := g', drawn := d', toks := t' } := by
  obtain ⟨m, ⟨o, es, ep, ho, r⟩, _⟩ := id I.loc
  obtain ⟨sl, hL⟩ := u.any ho I.free fun z => (hch _ z).2.1 rfl
  exact I.step (ch := ch) hch (fun b o hL hb hc e n => u.keep b o e n (fun z => (List.mem_cons.mp (I.stkSub b z)).elim hL hb) hc) (fun b o _ _ hc e n => u.any e n hc) (fun b o hc e n => u.free b o e n hc) (fun b o hc e => u.there b o e hc) u.tups u.frzs u.tbls (fun m' hm => by
    obtain ⟨o', es', ep', ho', r'⟩ := hm
    rw [ho] at ho'; cases ho'
    exact ⟨_, es', ep', hL, r'⟩) hok hg
/-- an untracked record of ours (an iterator) has turned -/
theorem Inv.turned {t' : Nat} {it : Addr} (I : Inv X pins σ H s) (k : ∀ b o, b ≠ it → s.heap.get? b = some o → h'.get? b = some o) (hn : H it = none) (hL : it ≠ X.env.locals)
    (h1 : it ∈ X.ex ∨ X.s_0.heap.objs.size ≤ it) (h2 : ∀ x c, X.env.cells.lookup x = some c → c ≠ it) (h3 : ∀ p ∈ X.pn ++ pins, p.1 ≠ it) : Inv X pins σ H { s with heap := h', toks := t' } := by
  have nit : ∀ b u, H b = some u → b ≠ it := fun b u e z => by rw [z, hn] at e; cases e
  refine I.step (g' := s.gens) (d' := s.drawn) (ch := [it]) (fun b hb => ?_) (fun b o _ _ hc e _ => k b o (fun z => hc (by simp [z])) e) (fun b o _ _ hc e _ => ⟨o.slots, k b o (fun z => hc (by simp [z])) e⟩) (fun _ _ _ _ n => n)
    (fun b o hc e => ⟨o, k b o (fun z => hc (by simp [z])) e⟩) (fun _ _ e => e) (fun _ _ _ e => e) (fun b ps e => ⟨#[], by rw [e]; simp⟩) (fun m hm => ?_) (fun b u e => ?_) I.bare
  · have e : b = it := by simpa using hb
    subst e
    exact ⟨h1, hL, h2, h3⟩
  · obtain ⟨o, es, ep, ho, r⟩ := hm
    exact ⟨o, es, ep, k _ o (Ne.symm hL) ho, r⟩
  · refine (I.hok b u e).stay (fun c v hc q => k c v ?_ q) (fun _ q => q) fun _ _ q => q
    rcases hc with z | z
    · rw [z]; exact nit b u e
    · exact nit c _ z
theorem Inv.tok (I : Inv X pins σ H s) (t : Nat) : Inv X pins σ H { s with toks := t } := I.un (h' := s.heap) (t' := t) Un.refl I.hok
/-- all objects kept -/
theorem Inv.kept {t' : Nat} (I : Inv X pins σ H s) (k : ∀ b u, s.heap.get? b = some u → h'.get? b = some u) : Inv X pins σ H { s with heap := h', toks := t' } := I.un (Un.kept k) (I.hok.kept k)
/-- a new object laid and tracked -/
theorem Inv.laid {a : Addr} {o : HO} {t' : Nat} (I : Inv X pins σ H s) (k : ∀ b u, s.heap.get? b = some u → h'.get? b = some u) (hp : s.heap.objs.size ≤ a) (new : ObjOk X.prog X.w (upd H a o) h' a o) :
    Inv X pins σ (upd H a o) { s with heap := h', toks := t' } := I.un (Un.laid k hp (I.hok.fresh hp)) (I.hok.laid k hp new)
/-- an object written -/
theorem Inv.write {x e : Addr} {o : HO} {t' : Nat} (I : Inv X pins σ H s) (mu : Mut (H x)) (he : e = x ∨ H e = some (.own x)) (k : ∀ b u, b ≠ e → s.heap.get? b = some u → h'.get? b = some u) (heo : ∃ u, h'.get? e = some u)
    (new : ObjOk X.prog X.w (upd H x o) h' x o) : Inv X pins σ (upd H x o) { s with heap := h', toks := t' } := I.un (Un.write mu he k heo) (I.hok.write mu he k heo new)
/-- forgetting slots, pins -/
theorem Inv.weak {σ' : List (Option V)} (I : Inv X pins σ H s) (hl : σ'.length = σ.length) (w : ∀ (i : Nat) v, σ'[i]? = some (some v) → σ[i]? = some (some v)) : Inv X pins σ' H s :=
  ⟨I.ok, I.os, I.bare, I.base, let ⟨m, hn, hl'⟩ := I.loc; ⟨m, hn, fun i x v e1 e2 e3 => hl' i x v e1 (w i v e2) e3⟩, I.cell, I.free, I.freeC, I.pin, I.hok, hl.trans I.len⟩
theorem Inv.pins_of {pins' : List (Addr × Obj)} (I : Inv X pins σ H s) (h : ∀ p ∈ pins', s.heap.get? p.1 = some p.2 ∧ H p.1 = none ∧ p.1 ≠ X.env.locals ∧ p.1 ∉ X.fs ∧ ∀ v, p.2.data ≠ .cell v) : Inv X pins' σ H s :=
  ⟨I.ok, I.os, I.bare, I.base, I.loc, I.cell, I.free, I.freeC, fun p hp => (List.mem_append.mp hp).elim (fun z => I.pin p (List.mem_append_left _ z)) (h p), I.hok, I.len⟩

theorem nodup_ix {N : List Str} (hN : N.Nodup) {i j : Nat} {x : Str} (a : N[i]? = some x) (b : N[j]? = some x) : i = j := by
  obtain ⟨h1, e1⟩ := List.getElem?_eq_some_iff.mp a
  obtain ⟨h2, e2⟩ := List.getElem?_eq_some_iff.mp b
  exact (List.getElem_inj hN).mp (e1.trans e2.symm)

/-- a name is stored; what changed -/
theorem store_ok2 {M : Model} {A : Around} {E : Value → Shared → Prop} {i : Nat} {x : Str} {v : V} {u : Value} {Q : Unit → Shared → Prop} (I : Inv X pins σ H s) (hN : X.N.Nodup) (hi : X.N[i]? = some x) (hx : Loc X.env.scope x) (r : RelV v u)
    (h : ∀ s', Inv X pins (σ.set i (some v)) H s' → (∃ a, Heap.SameBut a s.heap s'.heap ∧ (a = X.env.locals ∨ X.env.cells.lookup x = some a)) → Q () s') (hf : X.fn x = true ∨ X.env.scope.names.lookup x = some .local := by first | exact .inl rfl | exact .inr rfl | assumption) : wpAny M A (storeName X.env x u) Q E s := by
  obtain ⟨m, hn, hl⟩ := id I.loc
  have hcls : (X.env.scope.kind == .class || (X.env.scope.kind == .module && X.env.locals != X.env.globals)) = false := by rw [I.ok.kind]; rfl
  have hiσ : i < σ.length := by rw [I.len]; exact (List.getElem?_eq_some_iff.mp hi).1
  have cne := I.cne
  have tracked : ∀ {a : Addr} {h' : Heap}, (∃ o, s.heap.get? a = some o ∧ H a = none) → Heap.SameBut a s.heap h' → HOk X.prog X.w H h' := fun {a h'} ha hs b ob e => by
    obtain ⟨_, _, hfree⟩ := ha
    refine (I.hok b ob e).stay (fun c w' hc q => (hs.2 c ?_).trans q) (fun _ q => q) fun _ _ q => q
    rintro rfl
    rcases hc with rfl | hc
    · rw [hfree] at e; cases e
    · rw [hfree] at hc; cases hc
  rcases hx with hk | hk
  · refine wpAny_storeName_local hk hn (fun h' hn' hs => ?_) hcls
    obtain ⟨oL, _, _, hoL, _⟩ := id hn
    refine h _ ⟨I.ok, I.os, I.bare, ⟨fun b o e n hb hx => ?_, fun b o e n hb hx => ?_, I.base.free, fun b o e hx => ?_, I.base.tups, I.base.frzs, I.base.tbls⟩, ⟨_, hn', fun j y v' e1 e2 e3 => ?_⟩, fun y c e => ?_, I.free, I.freeC, fun p hp => ?_, tracked ⟨oL, hoL, I.free⟩ hs, by simpa using I.len⟩ ⟨_, hs, .inl rfl⟩
    · exact (hs.2 b (Nat.ne_of_lt (Nat.lt_of_lt_of_le (Heap.lt_size e) I.ok.above))).trans (I.base.keep b o e n hb hx)
    · obtain ⟨sl, e1⟩ := I.base.slot b o e n hb hx
      exact ⟨sl, (hs.2 b (Nat.ne_of_lt (Nat.lt_of_lt_of_le (Heap.lt_size e) I.ok.above))).trans e1⟩
    · obtain ⟨o', e1⟩ := I.base.there b o e hx
      exact ⟨o', (hs.2 b (Nat.ne_of_lt (Nat.lt_of_lt_of_le (Heap.lt_size e) I.ok.above))).trans e1⟩
    · by_cases hj : j = i
      · subst hj
        rw [hi] at e1; cases e1
        rw [List.getElem?_set_self hiσ] at e2
        cases e2
        exact ⟨u, r, .inl ⟨hk, by simp⟩⟩
      · rw [List.getElem?_set_ne (Ne.symm hj)] at e2
        obtain ⟨u', r', q⟩ := hl j y v' e1 e2 e3
        refine ⟨u', r', ?_⟩
        rcases q with ⟨k, e⟩ | ⟨k, c, e, z⟩
        · refine .inl ⟨k, ?_⟩
          have : y ≠ x := fun e => hj (nodup_ix hN e1 (e ▸ hi))
          simp [this, e]
        · exact .inr ⟨k, c, e, z.sameBut hs (cne y c e)⟩
    · obtain ⟨w', z⟩ := I.cell y c e
      exact ⟨w', z.sameBut hs (cne y c e)⟩
    · obtain ⟨e, n, ne, nf, d⟩ := I.pin p hp
      exact ⟨(hs.2 p.1 ne).trans e, n, ne, nf, d⟩
  · have hfn : X.fn x = true := by
      rcases hf with z | z
      · exact z
      · rw [z] at hk; cases hk
    obtain ⟨c, hc⟩ := I.ok.has x (.inl hk)
    obtain ⟨w', z⟩ := I.cell x c hc
    refine wpAny_storeName_cell I.ok.kind hk hc z (fun h' hc' hs => ?_)
    obtain ⟨oc, hoc, hocd⟩ := id z
    refine h { s with heap := h' } ⟨I.ok, I.os, I.bare, ⟨fun b o e n hb hx => ?_, fun b o e n hb hx => ?_, I.base.free, fun b o e hx => ?_, I.base.tups, I.base.frzs, I.base.tbls⟩, ⟨m, hn.sameBut hs (Ne.symm (cne x c hc)), fun j y v' e1 e2 e3 => ?_⟩, fun y c' e => ?_, I.free, I.freeC, fun p hp => ?_, tracked ⟨oc, hoc, I.freeC x c hc⟩ hs, by simpa using I.len⟩ ⟨c, hs, .inr hc⟩
    · exact (hs.2 b (Nat.ne_of_lt (Nat.lt_of_lt_of_le (Heap.lt_size e) (I.ok.cab x c hfn hc)))).trans (I.base.keep b o e n hb hx)
    · obtain ⟨sl, e1⟩ := I.base.slot b o e n hb hx
      exact ⟨sl, (hs.2 b (Nat.ne_of_lt (Nat.lt_of_lt_of_le (Heap.lt_size e) (I.ok.cab x c hfn hc)))).trans e1⟩
    · obtain ⟨o', e1⟩ := I.base.there b o e hx
      exact ⟨o', (hs.2 b (Nat.ne_of_lt (Nat.lt_of_lt_of_le (Heap.lt_size e) (I.ok.cab x c hfn hc)))).trans e1⟩
    · by_cases hj : j = i
      · subst hj
        rw [hi] at e1; cases e1
        rw [List.getElem?_set_self hiσ] at e2
        cases e2
        exact ⟨u, r, .inr ⟨.inl hk, c, hc, hc'⟩⟩
      · rw [List.getElem?_set_ne (Ne.symm hj)] at e2
        obtain ⟨u', r', q⟩ := hl j y v' e1 e2 e3
        refine ⟨u', r', ?_⟩
        rcases q with q | ⟨k, c', e, z'⟩
        · exact .inl q
        · refine .inr ⟨k, c', e, z'.sameBut hs ?_⟩
          rintro rfl
          exact hj (nodup_ix hN e1 (I.ok.inj _ _ _ e hc ▸ hi))
    · by_cases hcc : c' = c
      · subst hcc; exact ⟨_, hc'⟩
      · obtain ⟨w2, z2⟩ := I.cell y c' e
        exact ⟨w2, z2.sameBut hs hcc⟩
    · obtain ⟨e, n, ne, nf, d⟩ := I.pin p hp
      refine ⟨(hs.2 p.1 ?_).trans e, n, ne, nf, d⟩
      intro q
      rw [q, hoc] at e
      have q' : oc = p.2 := Option.some.inj e
      exact d w' (by rw [← q']; exact hocd)
theorem store_ok {M : Model} {A : Around} {E : Value → Shared → Prop} {i : Nat} {x : Str} {v : V} {u : Value} {Q : Unit → Shared → Prop} (I : Inv X pins σ H s) (hN : X.N.Nodup) (hi : X.N[i]? = some x) (hx : Loc X.env.scope x) (r : RelV v u)
    (h : ∀ s', Inv X pins (σ.set i (some v)) H s' → Q () s') (hf : X.fn x = true ∨ X.env.scope.names.lookup x = some .local := by first | exact .inl rfl | exact .inr rfl | assumption) : wpAny M A (storeName X.env x u) Q E s :=
  store_ok2 I hN hi hx r (fun s' I' _ => h s' I') hf
/-- behind a call or a block, the state as it is -/
theorem Inv.call' {s' : Shared} {ch : List Addr} (I : Inv X pins σ H s) (ho : s'.os = s.os) (u : Un (frs X.stack) ch H H' s.heap s'.heap) (hok : HOk X.prog X.w H' s'.heap) (hg : AllBare s'.gens)
    (hch : ∀ b ∈ ch, (b ∈ X.ex ∨ X.s_0.heap.objs.size ≤ b) ∧ b ≠ X.env.locals ∧ (∀ x c, X.env.cells.lookup x = some c → c ≠ b) ∧ ∀ p ∈ X.pn ++ pins, p.1 ≠ b) : Inv X pins σ H' s' := by
  obtain ⟨h', g', d', t', o'⟩ := s'
  have e : o' = s.os := ho
  subst e
  exact I.call (g' := g') (t' := t') (d' := d') u hok hg hch
end

/-! ### the judgements -/
/-- an exception: its class, its own dict's address (where it has one), the abstract heap behind it -/
abbrev XK := Value → Option Addr → Hp → Prop
abbrev St := List (Option V)
abbrev VK := V → Hp → Prop
/-- an expression's reading; a test's; an argument list's -/
abbrev TE := St → Hp → VK → Prop
abbrev TT := St → Hp → (Bool → Hp → Prop) → Prop
abbrev TA := St → Hp → (List V → Hp → Prop) → Prop
/-- what is wanted behind a statement -/
structure Ends where
  nx : St → Hp → Prop
  rt : VK
  bk : St → Hp → Prop := fun _ _ => False
  ct : St → Hp → Prop := fun _ _ => False
abbrev TS := Ends → St → Hp → Prop

def EP (X : Cx) (pins : List (Addr × Obj)) (σ : St) (Q : VK) (u : Value) (s' : Shared) : Prop := ∃ v H', Inv X pins σ H' s' ∧ RelV v u ∧ Q v H'
def TP (X : Cx) (pins : List (Addr × Obj)) (σ : St) (Q : Bool → Hp → Prop) (b : Bool) (s' : Shared) : Prop := ∃ H', Inv X pins σ H' s' ∧ Q b H'
def AP (X : Cx) (pins : List (Addr × Obj)) (σ : St) (Q : List V → Hp → Prop) (us : List Value) (s' : Shared) : Prop := ∃ vs H', Inv X pins σ H' s' ∧ Vals vs us ∧ Q vs H'
def SP (X : Cx) (pins : List (Addr × Obj)) (D : Ends) (f : Flow) (s' : Shared) : Prop :=
  match f with
  | .next => ∃ σ' H', Inv X pins σ' H' s' ∧ D.nx σ' H'
  | .brk => ∃ σ' H', Inv X pins σ' H' s' ∧ D.bk σ' H'
  | .cont => ∃ σ' H', Inv X pins σ' H' s' ∧ D.ct σ' H'
  | .ret u => ∃ v σ' H', Inv X pins σ' H' s' ∧ RelV v u ∧ D.rt v H'

def PE (X : Cx) (e : Expr) (t : TE) : Prop :=
  ∀ (pins : List (Addr × Obj)) (s : Shared) (σ : St) (H : Hp) (Q : VK), Inv X pins σ H s → t σ H Q → wpAny (model X.prog X.w) X.A (eval e X.env) (EP X pins σ Q) X.xe s
def PT (X : Cx) (e : Expr) (t : TT) : Prop :=
  ∀ (pins : List (Addr × Obj)) (s : Shared) (σ : St) (H : Hp) (Q : Bool → Hp → Prop), Inv X pins σ H s → t σ H Q → wpAny (model X.prog X.w) X.A (isTrue e X.env (eval e X.env)) (TP X pins σ Q) X.xe s
/-- a test whatever its 'whole' is (and, or) -/
def PW (X : Cx) (e : Expr) (t : TT) : Prop :=
  ∀ (whole : Sem Value) (pins : List (Addr × Obj)) (s : Shared) (σ : St) (H : Hp) (Q : Bool → Hp → Prop), Inv X pins σ H s → t σ H Q → wpAny (model X.prog X.w) X.A (isTrue e X.env whole) (TP X pins σ Q) X.xe s
theorem PW.pt {X : Cx} {e : Expr} {t : TT} (h : PW X e t) : PT X e t := h _
/-- an argument list (no star), from the left -/
def PA (X : Cx) (es : List Expr) (t : TA) : Prop :=
  ∀ (pos : Pos) (pins : List (Addr × Obj)) (s : Shared) (σ : St) (H : Hp) (Q : List V → Hp → Prop), Inv X pins σ H s → t σ H Q → wpAny (model X.prog X.w) X.A (spliced (backTo pos (starEach es X.env))) (AP X pins σ Q) X.xe s
def PS (X : Cx) (st : Stmt) (t : TS) : Prop :=
  ∀ (pins : List (Addr × Obj)) (s : Shared) (σ : St) (H : Hp) (D : Ends), Inv X pins σ H s → t D σ H → wpAny (model X.prog X.w) X.A (exec st X.env) (SP X pins D) X.xe s
def PSs (X : Cx) (st : List Stmt) (t : TS) : Prop :=
  ∀ (pins : List (Addr × Obj)) (s : Shared) (σ : St) (H : Hp) (D : Ends), Inv X pins σ H s → t D σ H → wpAny (model X.prog X.w) X.A (execs st X.env) (SP X pins D) X.xe s
/-- weaken the end -/
theorem thn {α : Type} {t : Sem α} {Q Q' : α → Shared → Prop} {M : Model} {A : Around} {E : Value → Shared → Prop} {s : Shared} (h : wpAny M A t Q E s) (hQ : ∀ a s, Q a s → Q' a s) : wpAny M A t Q' E s := wpAny_mono h hQ fun _ _ x => x
end L2

namespace L2
open PySem PySem.Spec PyProof.Rows
section
variable {X : Cx}

/-- two expressions in a row -/
theorem bin {a b : Expr} {ta tb : TE} (ha : PE X a ta) (hb : PE X b tb) {pins : List (Addr × Obj)} {s : Shared} {σ : St} {H : Hp} {R : V → V → Hp → Prop} (I : Inv X pins σ H s) (h : ta σ H fun x H1 => tb σ H1 fun y H2 => R x y H2)
    {α : Type} {Q : α → Shared → Prop} {f : Value → Value → Sem α}
    (hf : ∀ v u s2 x y H2, Inv X pins σ H2 s2 → RelV x v → RelV y u → R x y H2 → wpAny (model X.prog X.w) X.A (f v u) Q X.xe s2) :
    wpAny (model X.prog X.w) X.A (eval a X.env) (fun v s₁ => wpAny (model X.prog X.w) X.A (eval b X.env) (fun u s₂ => wpAny (model X.prog X.w) X.A (f v u) Q X.xe s₂) X.xe s₁) X.xe s := by
  refine thn (ha pins s σ H _ I h) fun v s1 ⟨x, H1, I1, r1, q1⟩ => ?_
  refine thn (hb pins s1 σ H1 _ I1 q1) fun u s2 ⟨y, H2, I2, r2, q2⟩ => ?_
  exact hf v u s2 x y H2 I2 r1 r2 q2

/-! ### names and constants -/
def tVar (i : Nat) : TE := fun σ H Q => ∃ v, σ[i]? = some (some v) ∧ Q v H
def tC (v : V) : TE := fun _ H Q => Q v H
theorem pe_var {i : Nat} {x : Str} {pos : Pos} (hN : X.N[i]? = some x) (hv : Vis X.env.scope x) (hd : (x == ("__debug__" : Str)) = false := by decide) (hcd : (x == ("__classdict__" : Str)) = false := by decide) : PE X (.Name x pos) (tVar i) := by
  intro pins s σ H Q I h
  obtain ⟨v, e, h⟩ := h
  obtain ⟨m, hn, hl⟩ := I.loc
  obtain ⟨u, r, l⟩ := hl i x v hN e hv
  have fin : EP X pins σ Q u s := ⟨v, H, I, r, h⟩
  rcases l with ⟨hk, hm⟩ | ⟨hk, c, hc, hcell⟩
  · exact wpAny_Name (wpAny_loadName_local I.ok.kind hk hn hm fin) hd
  · rcases hk with hk | hk
    · exact wpAny_Name (wpAny_loadName_cell I.ok.kind hk hc hcell fin) hd
    · exact wpAny_Name (wpAny_loadName_free I.ok.kind hk hc hcell fin hcd) hd
theorem pe_int {i j pos} : PE X (.Constant (.int i) j pos) (tC (.int i)) := fun _ _ _ H _ I h => wpAny_Constant_int ⟨.int i, H, I.tok _, ⟨_, rfl⟩, h⟩
theorem pe_bl {b j pos} : PE X (.Constant (.bool b) j pos) (tC (.bl b)) := fun _ _ _ H _ I h => Constant_bool ⟨.bl b, H, I, rfl, h⟩

/-- a global name of the def -/
def Gl (X : Cx) (x : Str) : Prop := X.env.kindOf x = some .globalImplicit
theorem ld_glob {E : Value → Shared → Prop} {pins : List (Addr × Obj)} {s : Shared} {σ : St} {H : Hp} {x : Str} {u : Value} {pos : Pos} {Q : Value → Shared → Prop} (I : Inv X pins σ H s) (hg : Gl X x) (hm : X.mg x = some u) (h : Q u s)
    (hd : (x == ("__debug__" : Str)) = false := by decide) : wpAny (model X.prog X.w) X.A (eval (.Name x pos) X.env) Q E s :=
  Calls.Name_function_global I.ok.kind hg (Calls.loadGlobal_global (by rw [I.ok.glob]; exact I.mod.glob.keeps I.bk) hm h) hd
theorem ld_blt {E : Value → Shared → Prop} {pins : List (Addr × Obj)} {s : Shared} {σ : St} {H : Hp} {x : Str} {u : Value} {pos : Pos} {Q : Value → Shared → Prop} (I : Inv X pins σ H s) (hg : Gl X x) (hm : X.mg x = none) (hv : bootBuiltins x = some u) (h : Q u s)
    (hn : x ≠ "__name__" := by decide) (hd : (x == ("__debug__" : Str)) = false := by decide) : wpAny (model X.prog X.w) X.A (eval (.Name x pos) X.env) Q E s := by
  obtain ⟨mb, h1, h2⟩ := I.mod.blt
  exact Calls.Name_function_global I.ok.kind hg (Calls.loadGlobal_builtin (by rw [I.ok.glob]; exact I.mod.glob.keeps I.bk) hm (by rw [I.ok.blt]; exact h1.keeps I.bk) ((h2 x hn).trans hv) h) hd
/-- a module's constant, a class, a function, as a value -/
theorem pe_glob {x : Str} {v : V} {u : Value} {pos : Pos} (hg : Gl X x) (hm : X.mg x = some u) (r : RelV v u) (hd : (x == ("__debug__" : Str)) = false := by decide) : PE X (.Name x pos) (tC v) :=
  fun _ _ _ H _ I h => ld_glob I hg hm ⟨v, H, I, r, h⟩ hd

/-! ### arithmetic -/
/-- two ints -/
def t2I (ta tb : TE) (k : Int → Int → Hp → Prop) : St → Hp → Prop := fun σ H => ta σ H fun x H1 => tb σ H1 fun y H2 => ∃ i j, x = .int i ∧ y = .int j ∧ k i j H2

variable {a b : Expr} {ta tb : TE} {pos : Pos}

/-! ### comparisons -/
def PC (X : Cx) (op : CmpOp) (a b : Expr) (t : TE) : Prop :=
  ∀ (pins : List (Addr × Obj)) (s : Shared) (σ : St) (H : Hp) (Q : VK), Inv X pins σ H s → t σ H Q →
    wpAny (model X.prog X.w) X.A (eval a X.env) (fun v s₁ => wpAny (model X.prog X.w) X.A (eval b X.env) (fun u s₂ => wpAny (model X.prog X.w) X.A (compareOp op v u) (EP X pins σ Q) X.xe s₂) X.xe s₁) X.xe s
theorem nobehind (b : Expr) {op : CmpOp} (h : op ≠ .In) (h2 : op ≠ .NotIn) : behindInMarks op b = false := by
  have e1 : (op == CmpOp.In) = false := by cases op <;> first | rfl | exact absurd rfl h
  have e2 : (op == CmpOp.NotIn) = false := by cases op <;> first | rfl | exact absurd rfl h2
  cases b <;> simp [behindInMarks, e1, e2]
def tCmp (p : Int → Int → Bool) (ta tb : TE) : TE := fun σ H Q => t2I ta tb (fun i j H2 => Q (.bl (p i j)) H2) σ H
abbrev tLt : TE → TE → TE := tCmp fun i j => decide (i < j)

abbrev tGt : TE → TE → TE := tCmp fun i j => decide (j < i)
abbrev tGe : TE → TE → TE := tCmp fun i j => decide (j ≤ i)
abbrev tEqI : TE → TE → TE := tCmp fun i j => decide (i = j)
abbrev tNeI : TE → TE → TE := tCmp fun i j => !decide (i = j)
/-- a comparison of two ints, by its rule -/
theorem pc_int {op : CmpOp} {p : Int → Int → Bool} (ha : PE X a ta) (hb : PE X b tb)
    (rule : ∀ (i j : Int) (t u : Tok) (Q : Value → Shared → Prop) (s : Shared), Q (.bool (p i j)) s → wpAny (model X.prog X.w) X.A (compareOp op (.int i t) (.int j u)) Q X.xe s) : PC X op a b (tCmp p ta tb) := by
  intro pins s σ H Q I h
  refine bin ha hb I h fun v u s2 x y H2 I2 rx ry q => ?_
  obtain ⟨i, j, rfl, rfl, q⟩ := q
  obtain ⟨t, rfl⟩ := rx
  obtain ⟨t', rfl⟩ := ry
  exact rule i j t t' _ s2 ⟨.bl _, H2, I2, rfl, q⟩
theorem pc_lt (ha : PE X a ta) (hb : PE X b tb) : PC X .Lt a b (tLt ta tb) := pc_int ha hb fun _ _ _ _ _ _ h => lt_int h

theorem pc_gt (ha : PE X a ta) (hb : PE X b tb) : PC X .Gt a b (tGt ta tb) := pc_int ha hb fun _ _ _ _ _ _ h => gt_int h
theorem pc_ge (ha : PE X a ta) (hb : PE X b tb) : PC X .GtE a b (tGe ta tb) := pc_int ha hb fun _ _ _ _ _ _ h => ge_int h
theorem pc_eqI (ha : PE X a ta) (hb : PE X b tb) : PC X .Eq a b (tEqI ta tb) := pc_int ha hb fun _ _ _ _ _ _ h => eq_int (by rw [Bool.beq_eq_decide_eq]; exact h)
theorem pc_neI (ha : PE X a ta) (hb : PE X b tb) : PC X .NotEq a b (tNeI ta tb) := pc_int ha hb fun _ _ _ _ _ _ h => ne_int (by rw [bne, Bool.beq_eq_decide_eq]; exact h)

/-- a comparison as a value, as a test -/
def tB (t : TE) : TT := fun σ H Q => t σ H fun x H1 => ∃ c, x = .bl c ∧ Q c H1

theorem pt_cmp {op : CmpOp} {t : TE} (h : PC X op a b t) (h1 : behindInMarks op b = false := by first | exact nobehind _ (by decide) (by decide) | rfl) : PT X (.Compare a [op] [b] pos) (tB t) := by
  intro pins s σ H Q I hw
  refine wpAny_isTrue_Compare1 (thn (h pins s σ H _ I hw) fun v s1 h1 => thn h1 fun u s2 h2 => thn h2 fun c s3 ⟨x, H1, I1, r1, q1⟩ => ?_) h1
  obtain ⟨d, rfl, q⟩ := q1
  cases r1
  exact wpAny_truthy_bool ⟨H1, I1, q⟩

/-! ### and, or, not -/
variable {tA tB' : TT} {rest : List Expr}

def tOr (t u : TT) : TT := fun σ H Q => t σ H fun c H1 => if c = true then Q true H1 else u σ H1 Q

theorem pw_or1 (ha : PT X a tA) : PW X (.BoolOp .Or [a] pos) tA := by
  intro wh pins s σ H Q I h
  refine isTrue_or (thn (ha pins s σ H Q I h) fun c s1 e => ?_)
  cases c with
  | false => exact isTrue_or_nil e
  | true => exact e

theorem pw_or (ha : PT X a tA) (hb : PW X (.BoolOp .Or (b :: rest) pos) tB') : PW X (.BoolOp .Or (a :: b :: rest) pos) (tOr tA tB') := by
  intro wh pins s σ H Q I h
  refine isTrue_or (thn (ha pins s σ H _ I h) fun c s1 ⟨H1, I1, q1⟩ => ?_)
  cases c with
  | true => exact ⟨H1, I1, q1⟩
  | false => exact hb wh pins s1 σ H1 Q I1 q1

/-- a if t else b -/
def tIf (t : TT) (ta tb : TE) : TE := fun σ H Q => t σ H fun c H1 => if c = true then ta σ H1 Q else tb σ H1 Q
theorem pe_ifExp {c : Expr} (hc : PT X c tA) (ha : PE X a ta) (hb : PE X b tb) : PE X (.IfExp c a b pos) (tIf tA ta tb) := by
  intro pins s σ H Q I h
  refine wpAny_IfExp (thn (hc pins s σ H _ I h) fun d s1 ⟨H1, I1, q1⟩ => ?_)
  cases d with
  | true => exact ha pins s1 σ H1 Q I1 q1
  | false => exact hb pins s1 σ H1 Q I1 q1
end
end L2

namespace L2
open PySem PySem.Spec PyProof.Rows

/-! ### a list, a tuple that is read: tracked, frozen, or an object of the module -/
def SqL (K : PySem.W.Frag) (H : Hp) (a : Addr) (xs : List V) : Prop :=
  Rd H a (.lst xs) ∨
    ∃ (o : Obj) (its : Array Value) (n : Nat), K.lookup a = some o ∧ o.cls = .type "list" ∧ o.dict = none ∧ o.data = .seq its n ∧ its.size ≤ sizeLine ∧ Vals xs its.toList
def SqT (K : PySem.W.Frag) (H : Hp) (a : Addr) (xs : List V) : Prop :=
  Rd H a (.tup xs) ∨
    ∃ (o : Obj) (its : Array Value) (n : Nat), K.lookup a = some o ∧ o.cls = .type "tuple" ∧ o.data = .seq its n ∧ its.size ≤ sizeLine ∧ Vals xs its.toList
def absV : Value → Option V
  | .none => some .non
  | .bool b => some (.bl b)
  | .int i _ => some (.int i)
  | .str x _ => some (.str x)
  | .bytes b _ => some (.byt b)
  | .float b _ => some (.flt b)
  | .ref a => some (.ref a)
  | .type n => some (.ty n)
  | _ => none
theorem RelV.abs {x : V} {u : Value} (r : RelV x u) : absV u = some x := by
  cases x with
  | non => cases r; rfl
  | bl _ => cases r; rfl
  | int _ => obtain ⟨t, rfl⟩ := r; rfl
  | str _ => obtain ⟨t, rfl⟩ := r; rfl
  | byt _ => obtain ⟨t, rfl⟩ := r; rfl
  | flt _ => obtain ⟨t, rfl⟩ := r; rfl
  | ref _ => cases r; rfl
  | ty _ => cases r; rfl
theorem RelV.inj {x y : V} {u : Value} (r : RelV x u) (q : RelV y u) : x = y := Option.some.inj (r.abs.symm.trans q.abs)
theorem Vals.inj : ∀ {xs ys : List V} {us : List Value}, Vals xs us → Vals ys us → xs = ys
  | _, _, _, .nil, .nil => rfl
  | _, _, _, .cons r t, .cons r' t' => by rw [r.inj r', Vals.inj t t']
section
variable {X : Cx} {pins : List (Addr × Obj)} {σ : St} {H : Hp} {s : Shared} {a : Addr} {xs ys : List V}
theorem SqL.of {K : PySem.W.Frag} (h : H a = some (.lst xs)) : SqL K H a xs := .inl (.inl h)
theorem SqT.of {K : PySem.W.Frag} (h : H a = some (.tup xs)) : SqT K H a xs := .inl (.inl h)
theorem Inv.list (I : Inv X pins σ H s) (h : SqL X.K H a xs) : ∃ its : List Value, Vals xs its ∧ PlainL s.heap a its.toArray ∧ xs.length ≤ sizeLine := by
  rcases h with h | ⟨o, its, n, hk, hc, hd, hs, hz, r⟩
  · obtain ⟨z, its, n, r, e⟩ := h.ok I.hok
    exact ⟨its, r, ⟨_, n, e, rfl, rfl, rfl⟩, z⟩
  · refine ⟨its.toList, r, ⟨o, n, I.kIn a o hk, hc, hd, by simpa using hs⟩, ?_⟩
    have e := r.length
    simp only [Array.length_toList] at e
    omega
theorem Inv.tuple (I : Inv X pins σ H s) (h : SqT X.K H a xs) : ∃ its : List Value, Vals xs its ∧ IsTup s.heap a its.toArray ∧ xs.length ≤ sizeLine := by
  rcases h with h | ⟨o, its, n, hk, hc, hs, hz, r⟩
  · obtain ⟨z, its, r, p⟩ := h.ok I.hok
    exact ⟨its, r, p, z⟩
  · refine ⟨its.toList, r, ⟨o, I.kIn a o hk, hc, n, by simpa using hs⟩, ?_⟩
    have e := r.length
    simp only [Array.length_toList] at e
    omega
theorem Inv.list_inj (I : Inv X pins σ H s) (h : SqL X.K H a xs) (h' : SqL X.K H a ys) : xs = ys := by
  obtain ⟨its, r, ⟨o, n, e, _, _, d⟩, _⟩ := I.list h
  obtain ⟨its', r', ⟨o', n', e', _, _, d'⟩, _⟩ := I.list h'
  rw [e] at e'; cases e'
  rw [d] at d'
  injection d' with d1 _
  have : its = its' := by simpa using congrArg Array.toList d1
  subst this
  exact r.inj r'

end

/-! ### another wish about exceptions -/
abbrev Cx.wish (X : Cx) (E : Value → Shared → Prop) : Cx := { X with xe := E }
/-- no exception leaves -/
abbrev Cx.nox (X : Cx) : Cx := X.wish fun _ _ => False
theorem Cx.Ok.wish {X : Cx} (ok : X.Ok) (E : Value → Shared → Prop) : (X.wish E).Ok :=
  ⟨ok.mod, ok.kind, ok.glob, ok.blt, ok.above, ok.inj, ok.has, ok.cab, ok.hd, ok.frames, ok.stk, ok.exf, ok.bs, ok.bsz, ok.noex, ok.exfs, ok.funs, ok.frf⟩
theorem Cx.Ok.unwish {X : Cx} {E : Value → Shared → Prop} (ok : (X.wish E).Ok) : X.Ok :=
  ⟨ok.mod, ok.kind, ok.glob, ok.blt, ok.above, ok.inj, ok.has, ok.cab, ok.hd, ok.frames, ok.stk, ok.exf, ok.bs, ok.bsz, ok.noex, ok.exfs, ok.funs, ok.frf⟩
section
variable {X : Cx} {pins : List (Addr × Obj)} {σ : St} {H : Hp} {s : Shared} {E : Value → Shared → Prop}
theorem Inv.wish (I : Inv X pins σ H s) (E : Value → Shared → Prop) : Inv (X.wish E) pins σ H s := ⟨I.ok.wish E, I.os, I.bare, I.base, I.loc, I.cell, I.free, I.freeC, I.pin, I.hok, I.len⟩
theorem Inv.unwish (I : Inv (X.wish E) pins σ H s) : Inv X pins σ H s := ⟨I.ok.unwish, I.os, I.bare, I.base, I.loc, I.cell, I.free, I.freeC, I.pin, I.hok, I.len⟩
theorem SP.unwish {D : Ends} {f : Flow} {s' : Shared} (h : SP (X.wish E) pins D f s') : SP X pins D f s' := by
  cases f with
  | next => obtain ⟨σ', H', I, q⟩ := h; exact ⟨σ', H', I.unwish, q⟩
  | brk => obtain ⟨σ', H', I, q⟩ := h; exact ⟨σ', H', I.unwish, q⟩
  | cont => obtain ⟨σ', H', I, q⟩ := h; exact ⟨σ', H', I.unwish, q⟩
  | ret u => obtain ⟨v, σ', H', I, r, q⟩ := h; exact ⟨v, σ', H', I.unwish, r, q⟩

theorem PSs.nox {st : List Stmt} {t : TS} (h : PSs X.nox st t) : PSs X st t := fun pins s σ H D I hw =>
  wpAny_mono (h pins s σ H D (I.wish _) hw) (fun _ _ q => q.unwish) fun _ _ z => False.elim z
end

/-! ### blocks and small statements -/
section
variable {X : Cx} {st : Stmt} {rest : List Stmt} {t u : TS} {e : Expr} {te : TE} {pos : Pos}
def tNext : TS := fun D σ H => D.nx σ H
def tSeq (t u : TS) : TS := fun D σ H => t { D with nx := u D } σ H
theorem pss_nil : PSs X [] tNext := fun _ _ σ H _ I h => wpAny_execs_nil ⟨σ, H, I, h⟩
theorem pss_cons (h1 : PS X st t) (h2 : PSs X rest u) : PSs X (st :: rest) (tSeq t u) := by
  intro pins s σ H D I h
  refine wpAny_execs_cons (thn (h1 pins s σ H { D with nx := u D } I h) fun f s1 q => ?_)
  cases f with
  | next =>
    obtain ⟨σ', H', I', q⟩ := q
    exact h2 pins s1 σ' H' D I' q
  | ret v => exact q
  | brk => exact q
  | cont => exact q
theorem pss_one (h1 : PS X st t) : PSs X [st] t := by
  intro pins s σ H D I h
  refine wpAny_execs_cons (thn (h1 pins s σ H D I h) fun f s1 q => ?_)
  cases f with
  | next => exact wpAny_execs_nil q
  | ret v => exact q
  | brk => exact q
  | cont => exact q

/-- in a def's body nothing is shown -/
theorem Inv.quiet {pins : List (Addr × Obj)} {σ : St} {H : Hp} {s : Shared} (I : Inv X pins σ H s) : interactive X.env = false := by simp [interactive, I.ok.kind]

/-- an expression whose value is dropped -/
def tDrop (te : TE) : TS := fun D σ H => te σ H fun _ H1 => D.nx σ H1
theorem ps_expr (he : PE X e te) (hs : swapsWith e none pos.line X.env = pure false := by rfl) : PS X (.Expr e pos) (tDrop te) := by
  intro pins s σ H D I h
  exact wpAny_Expr_any (thn (he pins s σ H _ I h) fun v s1 ⟨x, H1, I1, r1, q1⟩ => ⟨σ, H1, I1, q1⟩) I.quiet hs
def tRet (te : TE) : TS := fun D σ H => te σ H D.rt
theorem ps_ret (he : PE X e te) : PS X (.Return (some e) pos) (tRet te) := by
  intro pins s σ H D I h
  exact wpAny_Return_some (thn (he pins s σ H _ I h) fun v s1 ⟨x, H1, I1, r1, q1⟩ => ⟨x, σ, H1, I1, r1, q1⟩)

def tIfS (c : TT) (t u : TS) : TS := fun D σ H => c σ H fun b H1 => if b = true then t D σ H1 else u D σ H1
theorem ps_if {c : Expr} {a b : List Stmt} {tc : TT} (hc : PT X c tc) (ha : PSs X a t) (hb : PSs X b u) : PS X (.If c a b pos) (tIfS tc t u) := by
  intro pins s σ H D I h
  refine wpAny_If (thn (hc pins s σ H _ I h) fun d s1 ⟨H1, I1, q1⟩ => ?_)
  cases d with
  | true => exact ha pins s1 σ H1 D I1 q1
  | false => exact hb pins s1 σ H1 D I1 q1

end

/-! ### targets -/
abbrev TG := V → St → Hp → (St → Hp → Prop) → Prop

def PG (X : Cx) (target : Expr) (t : TG) : Prop :=
  ∀ (pins : List (Addr × Obj)) (s : Shared) (σ : St) (H : Hp) (v : V) (u : Value) (Q : St → Hp → Prop), Inv X pins σ H s → RelV v u → t v σ H Q →
    wpAny (model X.prog X.w) X.A (assign target X.env u) (fun _ s' => ∃ σ' H', Inv X pins σ' H' s' ∧ Q σ' H') X.xe s

/-- o[i] = v, by values -/
abbrev TSet := V → V → V → Hp → (Hp → Prop) → Prop
def PSet (X : Cx) (t : TSet) : Prop :=
  ∀ (pins : List (Addr × Obj)) (s : Shared) (σ : St) (H : Hp) (o i v : V) (ov iv u : Value) (Q : Hp → Prop), Inv X pins σ H s → RelV o ov → RelV i iv → RelV v u → t o i v H Q →
    wpAny (model X.prog X.w) X.A (setItem ov iv u) (fun _ s' => ∃ H', Inv X pins σ H' s' ∧ Q H') X.xe s
/-- a op= b, by values -/
abbrev TIp := V → V → Hp → VK → Prop
def PIp (X : Cx) (op : Operator) (t : TIp) : Prop :=
  ∀ (pins : List (Addr × Obj)) (s : Shared) (σ : St) (H : Hp) (x y : V) (v u : Value) (Q : VK), Inv X pins σ H s → RelV x v → RelV y u → t x y H Q →
    wpAny (model X.prog X.w) X.A (inplaceOp op v u) (EP X pins σ Q) X.xe s
section
variable {X : Cx} {pos : Pos}
def gName (i : Nat) : TG := fun v σ H Q => Q (σ.set i (some v)) H
theorem pg_name {i : Nat} {x : Str} (hN : X.N.Nodup) (hi : X.N[i]? = some x) (hx : Loc X.env.scope x) (hf : X.fn x = true ∨ X.env.scope.names.lookup x = some .local := by first | exact .inl rfl | exact .inr rfl | assumption) : PG X (.Name x pos) (gName i) := by
  intro pins s σ H v u Q I r h
  exact wpAny_assign_Name (store_ok I hN hi hx r (fun s' I' => ⟨_, H, I', h⟩) hf)

/-- target = value -/
def tAsg (te : TE) (g : TG) : TS := fun D σ H => te σ H fun x H1 => g x σ H1 D.nx

/-- name = value -/
theorem ps_set {i : Nat} {x : Str} {e : Expr} {te : TE} {pos' : Pos} (hN : X.N.Nodup) (hi : X.N[i]? = some x) (hx : Loc X.env.scope x) (he : PE X e te) (hs : swapsWith e (some (.Name x pos')) pos.line X.env = pure false := by rfl) (hf : X.fn x = true ∨ X.env.scope.names.lookup x = some .local := by first | exact .inl rfl | exact .inr rfl | assumption) :
    PS X (.Assign [.Name x pos'] e pos) (tAsg te (gName i)) := by
  intro pins s σ H D I h
  refine wpAny_Assign_Name (thn (he pins s σ H _ I h) fun v s1 ⟨y, H1, I1, r1, q1⟩ => ?_) hs
  exact store_ok I1 hN hi hx r1 (fun s2 I2 => ⟨_, H1, I2, q1⟩) hf

/-- name op= e -/
def tAug (i : Nat) (te : TE) (ti : TIp) : TS := fun D σ H => ∃ x, σ[i]? = some (some x) ∧ te σ H fun y H1 => ti x y H1 fun z H2 => D.nx (σ.set i (some z)) H2
theorem ps_aug {i : Nat} {x : Str} {e : Expr} {te : TE} {op : Operator} {ti : TIp} {pos' : Pos} (hN : X.N.Nodup) (hi : X.N[i]? = some x) (hx : Loc X.env.scope x) (he : PE X e te) (ho : PIp X op ti) (hf : X.fn x = true ∨ X.env.scope.names.lookup x = some .local := by first | exact .inl rfl | exact .inr rfl | assumption) :
    PS X (.AugAssign (.Name x pos') op e pos) (tAug i te ti) := by
  intro pins s σ H D I h
  obtain ⟨v, e1, h⟩ := h
  obtain ⟨m, hn, hl⟩ := I.loc
  have vis : Vis X.env.scope x := by rcases hx with k | k; exact .inl k; exact .inr (.inl k)
  obtain ⟨u, r, l⟩ := hl i x v hi e1 vis
  refine wpAny_AugAssign_Name ?_
  have go : wpAny (model X.prog X.w) X.A (eval e X.env) (fun w s₂ => wpAny (model X.prog X.w) X.A (inplaceOp op u w) (fun r s₃ => wpAny (model X.prog X.w) X.A (storeName X.env x r) (fun _ => SP X pins D .next) X.xe s₃) X.xe s₂) X.xe s := by
    refine thn (he pins s σ H _ I h) fun w s1 ⟨y, H1, I1, r1, q1⟩ => ?_
    refine thn (ho pins s1 σ H1 v y u w _ I1 r r1 q1) fun z s2 ⟨zv, H2, I2, r2, q2⟩ => ?_
    exact store_ok I2 hN hi hx r2 (fun s3 I3 => ⟨_, H2, I3, q2⟩) hf
  rcases l with ⟨hk, hm⟩ | ⟨hk, c, hc, hcell⟩
  · exact wpAny_loadName_local I.ok.kind hk hn hm go
  · rcases hk with hk | hk
    · exact wpAny_loadName_cell I.ok.kind hk hc hcell go
    · rcases hx with k | k
      · have : X.env.scope.names.lookup x = some .free := hk
        rw [k] at this; cases this
      · have : X.env.scope.names.lookup x = some .free := hk
        rw [k] at this; cases this
/-- o[i] op= e -/
def tAugS (to ti te : TE) (tget : V → V → Hp → VK → Prop) (tip : TIp) (tset : TSet) : TS := fun D σ H => to σ H fun o H1 => ti σ H1 fun i H2 => tget o i H2 fun x H3 => te σ H3 fun y H4 => tip x y H4 fun z H5 => tset o i z H5 fun H6 => D.nx σ H6
/-- o[i], by values -/
def PGet (X : Cx) (t : V → V → Hp → VK → Prop) : Prop :=
  ∀ (pins : List (Addr × Obj)) (s : Shared) (σ : St) (H : Hp) (o i : V) (ov iv : Value) (Q : VK), Inv X pins σ H s → RelV o ov → RelV i iv → t o i H Q →
    wpAny (model X.prog X.w) X.A (getItem ov iv) (EP X pins σ Q) X.xe s
theorem ps_augS {o i e : Expr} {to ti te : TE} {tget : V → V → Hp → VK → Prop} {tip : TIp} {tset : TSet} {op : Operator} {tpos : Pos} (ho : PE X o to) (hi : PE X i ti) (hg : PGet X tget) (he : PE X e te) (hp : PIp X op tip) (hs : PSet X tset)
    (ha : ∀ ov iv new, augStore i ov iv new = (do holding [new, ov, iv] (setItem ov iv new); release [new, ov, iv] []; pure .next) := by intros; rfl) : PS X (.AugAssign (.Subscript o i tpos) op e pos) (tAugS to ti te tget tip tset) := by
  intro pins s σ H D I h
  refine wpAny_AugAssign_SubscriptAny (thn (ho pins s σ H _ I h) fun ov s1 ⟨x1, H1, I1, r1, q1⟩ => ?_) ha
  refine thn (hi pins s1 σ H1 _ I1 q1) fun iv s2 ⟨x2, H2, I2, r2, q2⟩ => ?_
  refine thn (hg pins s2 σ H2 x1 x2 ov iv _ I2 r1 r2 q2) fun old s3 ⟨x3, H3, I3, r3, q3⟩ => ?_
  refine thn (he pins s3 σ H3 _ I3 q3) fun v s4 ⟨x4, H4, I4, r4, q4⟩ => ?_
  refine thn (hp pins s4 σ H4 x3 x4 old v _ I4 r3 r4 q4) fun new s5 ⟨x5, H5, I5, r5, q5⟩ => ?_
  exact thn (hs pins s5 σ H5 x1 x2 x5 ov iv new _ I5 r1 r2 r5 q5) fun _ s6 ⟨H6, I6, q6⟩ => ⟨σ, H6, I6, q6⟩
/-- ints -/
def ipI (f : Int → Int → Int) : TIp := fun x y H Q => ∃ i j, x = .int i ∧ y = .int j ∧ Q (.int (f i j)) H
theorem ip_add : PIp X .Add (ipI fun i j => i + j) := by
  intro pins s σ H x y v u Q I r1 r2 h
  obtain ⟨i, j, e1, e2, q⟩ := h
  subst e1; subst e2
  obtain ⟨t, rfl⟩ := r1
  obtain ⟨t', rfl⟩ := r2
  exact iadd_int ⟨.int _, H, I.tok _, ⟨_, rfl⟩, q⟩

end

/-! ### while -/
section
variable {X : Cx} {pos : Pos}
/-- the invariant W with its measure -/
def tWhile (c : TT) (tb : TS) : TS := fun D σ H => ∃ W : Nat → St → Hp → Prop, (∃ m, W m σ H) ∧ ∀ m σ H, W m σ H →
  c σ H fun b H1 => if b = true then ∃ N : St → Hp → Prop, (∀ σ' H', N σ' H' → ∃ m', m' < m ∧ W m' σ' H') ∧ tb { D with nx := N, ct := N, bk := D.nx } σ H1 else D.nx σ H1
theorem ps_while {c : Expr} {body : List Stmt} {tc : TT} {tb : TS} (hp : PassesOwn (model X.prog X.w) X.A X.env X.xe) (hc : PT X c tc) (hb : PSs X body tb) : PS X (.While c body [] pos) (tWhile tc tb) := by
  intro pins s σ H D I h
  obtain ⟨W, ⟨m0, w0⟩, turn⟩ := h
  refine wpAny_While (codeAny_whileLoop (fun n s' => ∃ σ' H', Inv X pins σ' H' s' ∧ W n σ' H') ?_ m0 ⟨σ, H, I, w0⟩)
  rintro n s1 ⟨σ1, H1, I1, w1⟩
  refine wpAny_passesOwn hp (thn (hc pins s1 σ1 H1 _ I1 (turn n σ1 H1 w1)) fun b s2 ⟨H2, I2, q2⟩ => ?_)
  cases b with
  | true =>
    obtain ⟨N, hN, q2⟩ := q2
    rw [if_pos rfl]
    refine wpAny_passesOwn hp (thn (hb pins s2 σ1 H2 _ I2 q2) fun f s3 q3 => ?_)
    cases f with
    | next =>
      obtain ⟨σ3, H3, I3, n3⟩ := q3
      obtain ⟨m', hm, w3⟩ := hN σ3 H3 n3
      exact ⟨m', hm, σ3, H3, I3, w3⟩
    | cont =>
      obtain ⟨σ3, H3, I3, n3⟩ := q3
      obtain ⟨m', hm, w3⟩ := hN σ3 H3 n3
      exact ⟨m', hm, σ3, H3, I3, w3⟩
    | brk => exact q3
    | ret v => exact q3
  | false =>
    rw [if_neg Bool.false_ne_true]
    exact wpAny_execs_nil ⟨σ1, H2, I2, q2⟩
end

/-! ### what a loop or a comprehension walks -/
/-- at turn i: it yields x (the heap may grow), or it stops -/
structure It where
  go : Nat → Hp → Prop
  yld : Nat → Hp → V → Hp → Prop
  stop : Nat → Hp → Prop
/-- the iterator's own objects may turn: they are not the frame's, not pinned, younger than the entry (or a comprehension's own) -/
def FpOk (X : Cx) (pins : List (Addr × Obj)) (H : Hp) (b : Addr) : Prop :=
  H b = none ∧ b ≠ X.env.locals ∧ b ∉ X.fs ∧ (b ∈ X.ex ∨ X.s_0.heap.objs.size ≤ b) ∧ (∀ x c, X.env.cells.lookup x = some c → c ≠ b) ∧ ∀ p ∈ X.pn ++ pins, p.1 ≠ b
theorem Inv.fpOk {X : Cx} {pins : List (Addr × Obj)} {σ : St} {H H' : Hp} {s : Shared} {b : Addr} (I : Inv X pins σ H s) (hb : s.heap.objs.size ≤ b) (hn : H' b = none) : FpOk X pins H' b := by
  refine ⟨hn, Nat.ne_of_gt (Nat.lt_of_lt_of_le I.lt hb), I.nofs hb, .inr (Nat.le_trans I.sz hb), fun x c e z => ?_, fun p hp z => ?_⟩
  · obtain ⟨v, q⟩ := I.cell x c e
    exact absurd (Nat.lt_of_lt_of_le q.lt (by rw [z]; exact hb)) (Nat.lt_irrefl _)
  · exact absurd (Nat.lt_of_lt_of_le (Heap.lt_size (I.pin p hp).1) (by rw [z]; exact hb)) (Nat.lt_irrefl _)
structure Turn (P : Program) (w : World) (K : PySem.W.Frag) (tg : Expr) (J : It) (fp : List Addr) (it : Addr) (tn : Nat → Heap → Prop) : Prop where
  mem : it ∈ fp
  obj : ∀ i h, tn i h → ∀ b ∈ fp, ∃ o, h.get? b = some o ∧ ∀ v, o.data ≠ .cell v
  keep : ∀ i h h', tn i h → (∀ b ∈ fp, ∀ o, h.get? b = some o → h'.get? b = some o) → tn i h'
  item : ∀ (X : Cx), X.prog = P → X.w = w → X.K = K → X.calm = true → ∀ (i : Nat) (pins : List (Addr × Obj)) (s : Shared) (σ : St) (H : Hp) (E : Value → Shared → Prop), Inv X pins σ H s → (∀ b ∈ fp, FpOk X pins H b) → tn i s.heap → J.go i H →
    wpAny (model P w) X.A (pyNext (.ref it)) (fun r s1 => ∃ u, r = some u ∧
      wpAny (model P w) X.A (letOwnedTupleGo tg (.ref it) u) (fun _ s2 => ∃ x H', Inv X pins σ H' s2 ∧ RelV x u ∧ J.yld i H x H' ∧ tn (i + 1) s2.heap ∧ ∀ b ∈ fp, H' b = none) E s1) E s
  done : ∀ (X : Cx), X.prog = P → X.w = w → X.K = K → X.calm = true → ∀ (i : Nat) (pins : List (Addr × Obj)) (s : Shared) (σ : St) (H : Hp) (E : Value → Shared → Prop), Inv X pins σ H s → (∀ b ∈ fp, FpOk X pins H b) → tn i s.heap → J.stop i H →
    wpAny (model P w) X.A (pyNext (.ref it)) (fun r s1 => r = none ∧ Inv X pins σ H s1) E s
  self : ∀ (A : Around) (i : Nat) (s : Shared) (Q : Value → Shared → Prop) (E : Value → Shared → Prop), tn i s.heap → Q (.ref it) s → wpAny (model P w) A (pyIter (.ref it)) Q E s
abbrev TI := St → Hp → (It → Hp → Prop) → Prop
/-- an iterator has come -/
def PIE (X : Cx) (pins : List (Addr × Obj)) (σ : St) (tg : Expr) (R : It → Hp → Prop) (itv : Value) (s2 : Shared) : Prop :=
  ∃ (it : Addr) (fp : List Addr) (tn : Nat → Heap → Prop) (J : It) (H' : Hp), itv = .ref it ∧ Inv X pins σ H' s2 ∧ Turn X.prog X.w X.K tg J fp it tn ∧ tn 0 s2.heap ∧ (∀ b ∈ fp, FpOk X pins H' b) ∧ R J H'
def PI (X : Cx) (tg iter : Expr) (wi : TI) : Prop :=
  ∀ (pins : List (Addr × Obj)) (s : Shared) (σ : St) (H : Hp) (R : It → Hp → Prop), Inv X pins σ H s → wi σ H R →
    wpAny (model X.prog X.w) X.A (eval iter X.env) (fun v s1 => wpAny (model X.prog X.w) X.A (pyIter v) (PIE X pins σ tg R) X.xe s1) X.xe s

/-- the step ahead of the store is nothing for an iterator that keeps no tuple -/
theorem go_of {M : Model} {A : Around} {E : Value → Shared → Prop} {s : Shared} {tg : Expr} {it : Addr} {u : Value} {o : Obj} {n : String} {vs : Array Value} {Q : Unit → Shared → Prop} (ho : s.heap.get? it = some o) (hc : o.cls = .type n) (hd : o.data = .fields vs)
    (hn : ["enumerate", "zip", "dict_itemiterator", "dict_reverseitemiterator", "odict_iterator", "itertools.zip_longest", "itertools.pairwise"].contains n = false) (hQ : Q () s) : wpAny M A (letOwnedTupleGo tg (.ref it) u) Q E s := by
  unfold letOwnedTupleGo
  cases tg <;> first
    | exact wpAny_pure hQ
    | (cases u <;> first
        | exact wpAny_pure hQ
        | (refine wpAny_bind (wpAny_load ho ?_)
           rw [hc, hd]
           show wpAny M A (if (["enumerate", "zip", "dict_itemiterator", "dict_reverseitemiterator", "odict_iterator", "itertools.zip_longest", "itertools.pairwise"].contains n && vs[0]? == some (rawInt _)) = true then _ else _) Q E s
           rw [if_neg (by intro h; rw [hn, Bool.false_and] at h; cases h)]
           exact wpAny_pure hQ))

/-- the list at a, as it stands at each turn (a loop may append to it) -/
def Itl (K : PySem.W.Frag) (a : Addr) : It :=
  ⟨fun i H => ∃ xs x, SqL K H a xs ∧ xs[i]? = some x, fun i H x H' => H' = H ∧ ∀ xs, SqL K H a xs → xs[i]? = some x, fun i H => ∃ xs, SqL K H a xs ∧ xs.length ≤ i⟩

/-- lo, lo + 1, .. (n of them) -/
def Itr (lo : Int) (n : Nat) : It := ⟨fun i _ => i < n, fun i H x H' => H' = H ∧ x = .int (lo + i), fun i _ => n ≤ i⟩
theorem turn_list {P : Program} {w : World} {K : PySem.W.Frag} {tg : Expr} (a it : Addr) : Turn P w K tg (Itl K a) [it] it (fun i h => h.IsListIter it a i) where
  mem := by simp
  obj := fun i h st b hb => by
    have e : b = it := by simpa using hb
    subst e
    obtain ⟨o, e, c, d⟩ := st
    exact ⟨o, e, fun v z => by rw [d] at z; cases z⟩
  keep := fun i h h' st k => st.at fun o e => k it (by simp) o e
  item := by
    intro X hP hw hK hc i pins s σ H E I hf st hg
    subst hP hw hK
    obtain ⟨xs, x, hq, hx⟩ := hg
    obtain ⟨its, rv, p, hz⟩ := I.list hq
    obtain ⟨u, hu, ru⟩ := rv.get hx
    obtain ⟨f0, f1, f2, f3, f4, f5⟩ := hf it (by simp)
    refine wpAny_pyNext_list_item st p.isList (x := u) (by simpa using hu) fun h' st' sb => ?_
    have I1 : Inv X pins σ H { s with heap := h' } := I.turned (t' := s.toks) (fun b o hb e => (sb.2 b hb).trans e) f0 f1 f3 f4 f5
    obtain ⟨o, e, c, d⟩ := id st'
    exact ⟨u, rfl, go_of (s := { s with heap := h' }) e c d (by decide) ⟨x, H, I1, ru, ⟨rfl, fun ys hy => by rw [I.list_inj hy hq]; exact hx⟩, st', fun b hb => (hf b hb).1⟩⟩
  done := by
    intro X hP hw hK hc i pins s σ H E I hf st hg
    subst hP hw hK
    obtain ⟨xs, hq, hx⟩ := hg
    obtain ⟨its, rv, p, hz⟩ := I.list hq
    obtain ⟨f0, f1, f2, f3, f4, f5⟩ := hf it (by simp)
    have hl := rv.length
    exact wpAny_pyNext_list_end (I.ok.hd hc) st p.isList (by simp; omega) fun h' eb => ⟨rfl, I.turned (t' := s.toks) (fun b o hb e => eb b o hb e) f0 f1 f3 f4 f5⟩
  self := fun _ _ _ _ _ st h => wpAny_pyIter_listiter st h

theorem turn_range {P : Program} {w : World} {K : PySem.W.Frag} {tg : Expr} (it : Addr) (lo : Int) (n : Nat) : Turn P w K tg (Itr lo n) [it] it (fun i h => IsRangeIter h it (lo + (i : Nat) * 1) ((n : Int) - (i : Nat)) 1) where
  mem := by simp
  obj := fun i h st b hb => by
    have e : b = it := by simpa using hb
    subst e
    exact ⟨_, st, fun v z => by
      have z' : Data.fields _ = Data.cell v := z
      cases z'⟩
  keep := fun i h h' st k => k it (by simp) _ st
  item := by
    intro X hP hw hK hc i pins s σ H E I hf st hg
    subst hP hw hK
    obtain ⟨f0, f1, f2, f3, f4, f5⟩ := hf it (by simp)
    have W := Walks.range (prog := X.prog) (w := X.w) (I.ok.hd hc) it lo 1 n
    refine W.item i s _ _ hg st fun v h' tk hv st' kk => ?_
    obtain ⟨t, rfl⟩ := hv
    have I1 : Inv X pins σ H { s with heap := h', toks := tk } := I.turned (fun b o hb e => kk b o (by simpa using hb) e) f0 f1 f3 f4 f5
    refine ⟨_, rfl, go_of (s := { s with heap := h', toks := tk }) (n := "range_iterator") st' rfl rfl (by decide) ⟨.int (lo + i), H, I1, ⟨t, ?_⟩, ⟨rfl, rfl⟩, st', fun b hb => (hf b hb).1⟩⟩
    rw [Int.mul_one]
  done := by
    intro X hP hw hK hc i pins s σ H E I hf st hg
    subst hP hw hK
    obtain ⟨f0, f1, f2, f3, f4, f5⟩ := hf it (by simp)
    exact wpAny_pyNext_range_end (I.ok.hd hc) st (by have : n ≤ i := hg; omega) fun h' eb => ⟨rfl, I.turned (t' := s.toks) (fun b o hb e => eb b o hb e) f0 f1 f3 f4 f5⟩
  self := fun _ _ _ _ _ st h => wpAny_pyIter_rangeiter st h
end L2

namespace L2
open PySem PySem.Spec PyProof.Rows
section
variable {X : Cx} {tg : Expr}
def iList (K : PySem.W.Frag) (tl : TE) : TI := fun σ H R => tl σ H fun x H1 => ∃ a, x = .ref a ∧ (∃ xs, SqL K H1 a xs) ∧ R (Itl K a) H1

theorem pi_list {l : Expr} {tl : TE} (hl : PE X l tl) : PI X tg l (iList X.K tl) := by
  intro pins s σ H R I h
  refine thn (hl pins s σ H _ I h) fun v s1 ⟨x, H1, I1, r1, q1⟩ => ?_
  obtain ⟨a, e, ⟨xs, hq⟩, q⟩ := q1
  subst e
  cases r1
  obtain ⟨its, rv, p, hz⟩ := I1.list hq
  refine wpAny_pyIter_list p.isList ?_
  refine ⟨s1.heap.objs.size, [s1.heap.objs.size], _, _, H1, rfl, I1.kept (t' := s1.toks) fun b o e => Heap.get?_push_of_some _ e, turn_list a _, ⟨_, Heap.get?_push_size _ rfl, rfl, rfl⟩, fun b hb => ?_, q⟩
  have e : b = s1.heap.objs.size := by simpa using hb
  subst e
  exact I1.fpOk (Nat.le_refl _) (I1.hok.fresh (Nat.le_refl _))

/-- a range object just made, walked -/
theorem range_it {pins : List (Addr × Obj)} {σ : St} {H : Hp} {s : Shared} {R : It → Hp → Prop} {E : Value → Shared → Prop} {lo hi : Int} {t u v : Tok} {tk : Nat} (I : Inv X pins σ H s) (h1 : -(2 ^ 62) ≤ lo) (h2 : lo < 2 ^ 62) (h3 : -(2 ^ 62) ≤ hi) (h4 : hi < 2 ^ 62)
    (q : R (Itr lo (hi - lo).toNat) H) : wpAny (model X.prog X.w) X.A (pyIter (.ref s.heap.objs.size)) (PIE X pins σ tg R) E { s with heap := s.heap.push { cls := .type "range", data := .fields #[.int lo t, .int hi u, .int 1 v] }, toks := tk } := by
  refine wpAny_pyIter_range (IsRange.new ..) (small_one h1 h2 h3 h4) ?_
  have I1 : Inv X pins σ H { s with heap := s.heap.push { cls := .type "range", data := .fields #[.int lo t, .int hi u, .int 1 v] }, toks := tk } := I.kept fun b o e => Heap.get?_push_of_some _ e
  refine ⟨(s.heap.push { cls := .type "range", data := .fields #[.int lo t, .int hi u, .int 1 v] }).objs.size, [(s.heap.push { cls := .type "range", data := .fields #[.int lo t, .int hi u, .int 1 v] }).objs.size], _, _, H, rfl,
    I1.kept (t' := tk) fun b o e => Heap.get?_push_of_some _ e, turn_range _ lo (hi - lo).toNat, ?_, fun b hb => ?_, q⟩
  · have e1 : lo + ((0 : Nat) : Int) * 1 = lo := by simp
    have e2 : (((hi - lo).toNat : Nat) : Int) - ((0 : Nat) : Int) = Builtin.Range.rangeSize lo hi 1 := by rw [rangeSize_one]; split <;> omega
    show IsRangeIter _ _ (lo + ((0 : Nat) : Int) * 1) ((((hi - lo).toNat : Nat) : Int) - ((0 : Nat) : Int)) 1
    rw [e1, e2]
    exact Heap.get?_push_size _ rfl
  · have e : b = (s.heap.push { cls := .type "range", data := .fields #[.int lo t, .int hi u, .int 1 v] }).objs.size := by simpa using hb
    subst e
    exact I1.fpOk (Nat.le_refl _) (I1.hok.fresh (Nat.le_refl _))
def iRng1 (ta : TA) : TI := fun σ H R => ta σ H fun vs H1 => ∃ j : Int, vs = [.int j] ∧ -(2 ^ 62) ≤ j ∧ j < 2 ^ 62 ∧ R (Itr 0 j.toNat) H1
def iRng2 (ta : TA) : TI := fun σ H R => ta σ H fun vs H1 => ∃ i j : Int, vs = [.int i, .int j] ∧ (-(2 ^ 62) ≤ i ∧ i < 2 ^ 62 ∧ -(2 ^ 62) ≤ j ∧ j < 2 ^ 62) ∧ R (Itr i (j - i).toNat) H1
theorem pi_range1 {a : Expr} {ta : TA} {p pos : Pos} (hg : Gl X "range") (hm : X.mg "range" = none) (ha : PA X [a] ta) (hs : starEach [a] X.env = [(false, eval a X.env)] := by rfl) : PI X tg (.Call (.Name "range" p) [a] [] pos) (iRng1 ta) := by
  intro pins s σ H R I h
  refine Call_ (ld_blt I hg hm boot_range (PyProof.Rows.callWith_type1 (thn (ha pos pins s σ H _ I h) fun us s1 ⟨vs, H1, I1, r1, q1⟩ => ?_) hs rfl))
  obtain ⟨j, e, q1, q2, q⟩ := q1
  subst e
  cases r1 with
  | cons r rr =>
    cases rr
    obtain ⟨t, rfl⟩ := r
    exact call_range_1 (range_it I1 (by omega) (by omega) q1 q2 (by simpa using q))
theorem pi_range2 {a b : Expr} {ta : TA} {p pos : Pos} (hg : Gl X "range") (hm : X.mg "range" = none) (ha : PA X [a, b] ta) (hs : starEach [a, b] X.env = [(false, eval a X.env), (false, eval b X.env)] := by rfl) (hs2 : starEach [b] X.env = [(false, eval b X.env)] := by rfl) :
    PI X tg (.Call (.Name "range" p) [a, b] [] pos) (iRng2 ta) := by
  intro pins s σ H R I h
  refine Call_ (ld_blt I hg hm boot_range (PyProof.Rows.callWith_type1 (thn (ha pos pins s σ H _ I h) fun us s1 ⟨vs, H1, I1, r1, q1⟩ => ?_) (by rw [hs, hs2]) (by rw [hs2]; rfl)))
  obtain ⟨i, j, e, ⟨q1, q2, q3, q4⟩, q⟩ := q1
  subst e
  cases r1 with
  | cons r rr =>
    cases rr with
    | cons r' rr =>
      cases rr
      obtain ⟨t, rfl⟩ := r
      obtain ⟨t', rfl⟩ := r'
      exact call_range_2 (range_it I1 q1 q2 q3 q4 q)

/-! ### for -/
/-- W: the invariant by the turn and a measure; N: what the body is to reach -/
def tFor (wi : TI) (g : TG) (tb : TS) : TS := fun D σ H => wi σ H fun J H1 => ∃ W : Nat → Nat → St → Hp → Prop, (∃ m, W 0 m σ H1) ∧ ∀ i m σ H, W i m σ H →
  (J.stop i H ∧ D.nx σ H) ∨ (J.go i H ∧ ∃ N : St → Hp → Prop, (∀ σ' H', N σ' H' → ∃ m', m' < m ∧ W (i + 1) m' σ' H') ∧ ∀ x H', J.yld i H x H' → g x σ H' fun σ2 H2 => tb { D with nx := N, ct := N, bk := D.nx } σ2 H2)
/-- the records at fp as they stand -/
def pinsAt (fp : List Addr) (h : Heap) : List (Addr × Obj) := fp.filterMap fun b => (h.get? b).map fun o => (b, o)
theorem mem_pinsAt {fp : List Addr} {h : Heap} {b : Addr} {o : Obj} (hb : b ∈ fp) (e : h.get? b = some o) : (b, o) ∈ pinsAt fp h := List.mem_filterMap.mpr ⟨b, hb, by rw [e]; rfl⟩
theorem of_pinsAt {fp : List Addr} {h : Heap} {p : Addr × Obj} (hp : p ∈ pinsAt fp h) : p.1 ∈ fp ∧ h.get? p.1 = some p.2 := by
  obtain ⟨b, hb, e⟩ := List.mem_filterMap.mp hp
  cases q : h.get? b with
  | none => rw [q] at e; cases e
  | some o =>
    rw [q] at e
    have e' : (b, o) = p := Option.some.inj e
    subst e'
    exact ⟨hb, q⟩
theorem Inv.pinned {pins : List (Addr × Obj)} {σ : St} {H : Hp} {s : Shared} {fp : List Addr} (I : Inv X pins σ H s) (hf : ∀ b ∈ fp, FpOk X pins H b) (ho : ∀ b ∈ fp, ∃ o, s.heap.get? b = some o ∧ ∀ v, o.data ≠ .cell v) : Inv X (pins ++ pinsAt fp s.heap) σ H s :=
  I.pins_of fun p hp => (List.mem_append.mp hp).elim (fun z => I.pin p (List.mem_append_right _ z)) fun z => by
    obtain ⟨hb, e⟩ := of_pinsAt z
    obtain ⟨f0, f1, f2, _⟩ := hf p.1 hb
    obtain ⟨o, e', d⟩ := ho p.1 hb
    rw [e] at e'; cases e'
    exact ⟨e, f0, f1, f2, d⟩
theorem Inv.unpinned {pins pl : List (Addr × Obj)} {σ : St} {H : Hp} {s : Shared} (I : Inv X (pins ++ pl) σ H s) : Inv X pins σ H s := I.pins_of fun p hp => I.pin p (List.mem_append_right _ (List.mem_append_left _ hp))
theorem ps_for {iter : Expr} {body : List Stmt} {wi : TI} {g : TG} {tb : TS} {pos : Pos} (hp : PassesOwn (model X.prog X.w) X.A X.env X.xe) (hc : X.calm = true) (hi : PI X tg iter wi) (hg : PG X tg g) (hb : PSs X body tb)
    (hs : ∀ x, foldedSetIterable iter X.env x = pure x := by intro _; rfl) : PS X (.For tg iter body [] pos) (tFor wi g tb) := by
  intro pins s σ H D I h
  refine wpAny_For (thn (hi pins s σ H _ I h) fun v s1 h1 => thn h1 fun itv s2 h2 => ?_) hs
  obtain ⟨it, fp, tn, J, H2, e, I2, T, st2, f2, W, ⟨m0, w0⟩, turn⟩ := h2
  subst e
  -- what stays true of the iterator's objects through the loop
  have stat : ∀ {H' : Hp}, (∀ b ∈ fp, H' b = none) → ∀ b ∈ fp, FpOk X pins H' b := fun hn b hb => ⟨hn b hb, (f2 b hb).2⟩
  refine codeAny_forLoop_any (fun n s' => ∃ i σ' H', Inv X pins σ' H' s' ∧ tn i s'.heap ∧ (∀ b ∈ fp, H' b = none) ∧ W i n σ' H') ?_ m0 ⟨0, σ, H2, I2, st2, fun b hb => (f2 b hb).1, w0⟩
  rintro n s3 ⟨i, σ3, H3, I3, st3, fr3, w3⟩
  rcases turn i n σ3 H3 w3 with ⟨stop, qn⟩ | ⟨go, N, hN, step⟩
  · refine wpAny_passesOwn hp (thn (T.done X rfl rfl rfl hc i pins s3 σ3 H3 X.xe I3 (stat fr3) st3 stop) fun r s4 ⟨hr, I4⟩ => ?_)
    subst hr
    exact wpAny_execs_nil ⟨σ3, H3, I4, qn⟩
  · refine wpAny_passesOwn hp (thn (T.item X rfl rfl rfl hc i pins s3 σ3 H3 X.xe I3 (stat fr3) st3 go) fun r s4 ⟨u, hr, h4⟩ => ?_)
    subst hr
    refine wpAny_passesOwn hp (thn h4 fun _ s5 ⟨x, H5, I5, r5, y5, st5, fr5⟩ => ?_)
    have I5' := I5.pinned (stat fr5) (T.obj _ _ st5)
    refine wpAny_passesOwn hp (thn (hg _ s5 σ3 H5 x u _ I5' r5 (step x H5 y5)) fun _ s6 ⟨σ6, H6, I6, q6⟩ => ?_)
    refine wpAny_passesOwn hp (thn (hb _ s6 σ6 H6 _ I6 q6) fun f s7 q7 => ?_)
    have again : ∀ {σ7 : St} {H7 : Hp}, Inv X (pins ++ pinsAt fp s5.heap) σ7 H7 s7 → N σ7 H7 → ∃ m, m < n ∧ ∃ i σ' H', Inv X pins σ' H' s7 ∧ tn i s7.heap ∧ (∀ b ∈ fp, H' b = none) ∧ W i m σ' H' := fun {σ7 H7} I7 n7 => by
      obtain ⟨m', hm, w7⟩ := hN σ7 H7 n7
      refine ⟨m', hm, i + 1, σ7, H7, I7.unpinned, T.keep _ _ _ st5 fun b hb o e => (I7.pin (b, o) (List.mem_append_right _ (List.mem_append_right _ (mem_pinsAt hb e)))).1, fun b hb => ?_, w7⟩
      obtain ⟨o, e, d⟩ := T.obj _ _ st5 b hb
      exact (I7.pin (b, o) (List.mem_append_right _ (List.mem_append_right _ (mem_pinsAt hb e)))).2.1
    cases f with
    | next => obtain ⟨σ7, H7, I7, n7⟩ := q7; exact again I7 n7
    | cont => obtain ⟨σ7, H7, I7, n7⟩ := q7; exact again I7 n7
    | brk => obtain ⟨σ7, H7, I7, q7⟩ := q7; exact ⟨σ7, H7, I7.unpinned, q7⟩
    | ret v => obtain ⟨x7, σ7, H7, I7, r7, q7⟩ := q7; exact ⟨x7, σ7, H7, I7.unpinned, r7, q7⟩
end

/-! ### the forms one uses -/
/-- over a list that the body leaves as it is -/
theorem for_list {K : PySem.W.Frag} {a : Addr} {xs : List V} {g : TG} {tb : TS} {D : Ends} {σ : St} {H : Hp} (Pv : Nat → St → Hp → Prop) (h0 : Pv 0 σ H) (hl : ∀ i σ H, i ≤ xs.length → Pv i σ H → SqL K H a xs)
    (hs : ∀ i x σ H, xs[i]? = some x → Pv i σ H → g x σ H fun σ2 H2 => tb { D with nx := Pv (i + 1), ct := Pv (i + 1), bk := D.nx } σ2 H2) (hd : ∀ σ H, Pv xs.length σ H → D.nx σ H) :
    ∃ W : Nat → Nat → St → Hp → Prop, (∃ m, W 0 m σ H) ∧ ∀ i m σ H, W i m σ H →
      ((Itl K a).stop i H ∧ D.nx σ H) ∨ ((Itl K a).go i H ∧ ∃ N : St → Hp → Prop, (∀ σ' H', N σ' H' → ∃ m', m' < m ∧ W (i + 1) m' σ' H') ∧ ∀ x H', (Itl K a).yld i H x H' → g x σ H' fun σ2 H2 => tb { D with nx := N, ct := N, bk := D.nx } σ2 H2) := by
  refine ⟨fun i m σ H => m = xs.length - i ∧ i ≤ xs.length ∧ Pv i σ H, ⟨xs.length, by simp, Nat.zero_le _, h0⟩, ?_⟩
  rintro i m σ H ⟨rfl, hi, p⟩
  have q := hl i σ H hi p
  by_cases hlt : i < xs.length
  · refine .inr ⟨⟨xs, xs[i], q, by simp [hlt]⟩, Pv (i + 1), fun σ' H' p' => ⟨xs.length - (i + 1), by omega, rfl, hlt, p'⟩, fun x H' y => ?_⟩
    obtain ⟨e, y⟩ := y
    subst e
    exact hs i x σ _ (y xs q) p
  · have e : i = xs.length := by omega
    subst e
    exact .inl ⟨⟨xs, q, Nat.le_refl _⟩, hd σ H p⟩

theorem for_range {lo : Int} {n : Nat} {g : TG} {tb : TS} {D : Ends} {σ : St} {H : Hp} (Pv : Nat → St → Hp → Prop) (h0 : Pv 0 σ H)
    (hs : ∀ i σ H, i < n → Pv i σ H → g (.int (lo + i)) σ H fun σ2 H2 => tb { D with nx := Pv (i + 1), ct := Pv (i + 1), bk := D.nx } σ2 H2) (hd : ∀ σ H, Pv n σ H → D.nx σ H) :
    ∃ W : Nat → Nat → St → Hp → Prop, (∃ m, W 0 m σ H) ∧ ∀ i m σ H, W i m σ H →
      ((Itr lo n).stop i H ∧ D.nx σ H) ∨ ((Itr lo n).go i H ∧ ∃ N : St → Hp → Prop, (∀ σ' H', N σ' H' → ∃ m', m' < m ∧ W (i + 1) m' σ' H') ∧ ∀ x H', (Itr lo n).yld i H x H' → g x σ H' fun σ2 H2 => tb { D with nx := N, ct := N, bk := D.nx } σ2 H2) := by
  refine ⟨fun i m σ H => m = n - i ∧ i ≤ n ∧ Pv i σ H, ⟨n, by simp, Nat.zero_le _, h0⟩, ?_⟩
  rintro i m σ H ⟨rfl, hi, p⟩
  by_cases hlt : i < n
  · refine .inr ⟨hlt, Pv (i + 1), fun σ' H' p' => ⟨n - (i + 1), by omega, rfl, hlt, p'⟩, fun x H' y => ?_⟩
    obtain ⟨e, y⟩ := y
    subst e y
    exact hs i σ _ hlt p
  · have e : i = n := by omega
    subst e
    exact .inl ⟨Nat.le_refl _, hd σ H p⟩

end L2

namespace L2
open PySem PySem.Spec PyProof.Rows

abbrev R2 := V → V → Hp → VK → Prop
/-- a two-place operation on values: f is binaryOp op, inplaceOp op or compareOp op -/
def OpR (X : Cx) (f : Value → Value → Sem Value) (r : R2) : Prop :=
  ∀ (pins : List (Addr × Obj)) (s : Shared) (σ : St) (H : Hp) (x y : V) (v u : Value) (Q : VK), Inv X pins σ H s → RelV x v → RelV y u → r x y H Q →
    wpAny (model X.prog X.w) X.A (f v u) (EP X pins σ Q) X.xe s
/-- a one-place operation -/
def UnR (X : Cx) (f : Value → Sem Value) (r : V → Hp → VK → Prop) : Prop :=
  ∀ (pins : List (Addr × Obj)) (s : Shared) (σ : St) (H : Hp) (x : V) (v : Value) (Q : VK), Inv X pins σ H s → RelV x v → r x H Q →
    wpAny (model X.prog X.w) X.A (f v) (EP X pins σ Q) X.xe s
/-- a call of a value that is known (a builtin, a type) with values -/
def CallR (X : Cx) (f : Value) (r : List V → Hp → VK → Prop) : Prop :=
  ∀ (pins : List (Addr × Obj)) (s : Shared) (σ : St) (H : Hp) (xs : List V) (us : List Value) (Q : VK), Inv X pins σ H s → Vals xs us → r xs H Q →
    wpAny (model X.prog X.w) X.A (call f us) (EP X pins σ Q) X.xe s

def tOp (r : R2) (ta tb : TE) : TE := fun σ H Q => ta σ H fun x H1 => tb σ H1 fun y H2 => r x y H2 Q
def tUn (r : V → Hp → VK → Prop) (ta : TE) : TE := fun σ H Q => ta σ H fun x H1 => r x H1 Q
/-- ints in, under C, and a value out -/
def rI (C : Int → Int → Prop) (g : Int → Int → V) : R2 := fun x y H Q => ∃ i j, x = .int i ∧ y = .int j ∧ C i j ∧ Q (g i j) H
def rI0 (g : Int → Int → V) : R2 := fun x y H Q => ∃ i j, x = .int i ∧ y = .int j ∧ Q (g i j) H
def rU (g : Int → V) : V → Hp → VK → Prop := fun x H Q => ∃ i, x = .int i ∧ Q (g i) H

section
variable {X : Cx} {a b c : Expr} {ta tb tc : TE} {pos : Pos}

theorem binT (ha : PE X a ta) (hb : PE X b tb) {pins : List (Addr × Obj)} {s : Shared} {σ : St} {H : Hp} {R : V → V → Hp → Prop} (I : Inv X pins σ H s)
    (h : ta σ H fun x H1 => tb σ H1 fun y H2 => R x y H2) {Q : Value → Shared → Prop} {f : Value → Value → Sem Value}
    (hf : ∀ v u s2 x y H2, Inv X pins σ H2 s2 → RelV x v → RelV y u → R x y H2 → wpAny (model X.prog X.w) X.A (f v u) Q X.xe s2) :
    wpAny (model X.prog X.w) X.A (eval a X.env) (fun v s₁ => wpAny (model X.prog X.w) X.A (eval b X.env) (fun u s₂ => wpAny (model X.prog X.w) X.A (f v u) Q X.xe s₂) X.xe s₁) X.xe s := by
  refine thn (ha pins s σ H _ I h) fun v s1 ⟨x, H1, I1, r1, q1⟩ => ?_
  refine thn (hb pins s1 σ H1 _ I1 q1) fun u s2 ⟨y, H2, I2, r2, q2⟩ => ?_
  exact hf v u s2 x y H2 I2 r1 r2 q2

theorem pe_op {op : Operator} {r : R2} (ho : OpR X (binaryOp op) r) (ha : PE X a ta) (hb : PE X b tb) : PE X (.BinOp a op b pos) (tOp r ta tb) := by
  intro pins s σ H Q I h
  exact wpAny_BinOp (binT ha hb I h fun v u s2 x y H2 I2 rx ry q => ho pins s2 σ H2 x y v u Q I2 rx ry q)
theorem pe_un {op : UnaryOp} {r : V → Hp → VK → Prop} (ho : UnR X (unaryOp op) r) (ha : PE X a ta) : PE X (.UnaryOp op a pos) (tUn r ta) := by
  intro pins s σ H Q I h
  exact UnaryOp_ (thn (ha pins s σ H _ I h) fun v s1 ⟨x, H1, I1, r1, q1⟩ => ho pins s1 σ H1 x v Q I1 r1 q1)

/-! ### ints -/
theorem opI {f : Value → Value → Sem Value} {C : Int → Int → Prop} {g : Int → Int → Int}
    (rule : ∀ (i j : Int) (t u : Tok) (s : Shared) (Q : Value → Shared → Prop) (E : Value → Shared → Prop), C i j → Q (.int (g i j) s.toks) { s with toks := s.toks + 1 } → wpAny (model X.prog X.w) X.A (f (.int i t) (.int j u)) Q E s) :
    OpR X f (rI C fun i j => .int (g i j)) := by
  intro pins s σ H x y v u Q I rx ry h
  obtain ⟨i, j, rfl, rfl, hc, q⟩ := h
  obtain ⟨t, rfl⟩ := rx
  obtain ⟨t', rfl⟩ := ry
  exact rule i j t t' s _ _ hc ⟨.int (g i j), H, I.tok _, ⟨_, rfl⟩, q⟩
theorem opI0 {f : Value → Value → Sem Value} {g : Int → Int → Int}
    (rule : ∀ (i j : Int) (t u : Tok) (s : Shared) (Q : Value → Shared → Prop) (E : Value → Shared → Prop), Q (.int (g i j) s.toks) { s with toks := s.toks + 1 } → wpAny (model X.prog X.w) X.A (f (.int i t) (.int j u)) Q E s) :
    OpR X f (rI0 fun i j => .int (g i j)) := by
  intro pins s σ H x y v u Q I rx ry h
  obtain ⟨i, j, rfl, rfl, q⟩ := h
  obtain ⟨t, rfl⟩ := rx
  obtain ⟨t', rfl⟩ := ry
  exact rule i j t t' s _ _ ⟨.int (g i j), H, I.tok _, ⟨_, rfl⟩, q⟩
theorem opB0 {f : Value → Value → Sem Value} {g : Int → Int → Bool}
    (rule : ∀ (i j : Int) (t u : Tok) (s : Shared) (Q : Value → Shared → Prop) (E : Value → Shared → Prop), Q (.bool (g i j)) s → wpAny (model X.prog X.w) X.A (f (.int i t) (.int j u)) Q E s) :
    OpR X f (rI0 fun i j => .bl (g i j)) := by
  intro pins s σ H x y v u Q I rx ry h
  obtain ⟨i, j, rfl, rfl, q⟩ := h
  obtain ⟨t, rfl⟩ := rx
  obtain ⟨t', rfl⟩ := ry
  exact rule i j t t' s _ _ ⟨.bl (g i j), H, I, rfl, q⟩

def CDiv (i j : Int) : Prop := 0 < j ∧ j < 1073741824

theorem op_add : OpR X (binaryOp .Add) (rI0 fun i j => .int (i + j)) := opI0 fun _ _ _ _ _ _ _ q => add_int q
theorem op_sub : OpR X (binaryOp .Sub) (rI0 fun i j => .int (i - j)) := opI0 fun _ _ _ _ _ _ _ q => sub_int q

/-- // by a positive divisor -/
theorem op_fdiv : OpR X (binaryOp .FloorDiv) (rI CDiv fun i j => .int (i / j)) := opI fun i j _ _ _ _ _ hc q => by
  have h1 : (0 : Int) < j := hc.1
  have h2 : j < 1073741824 := hc.2
  exact floordiv_int (by omega) (by rw [Int.fdiv_eq_ediv_of_nonneg i (by omega)]; exact q) (.inl (PyProof.noPylong_small (by omega)))

/-- % by a positive divisor of any size -/
theorem op_mod : OpR X (binaryOp .Mod) (rI (fun _ j => 0 < j) fun i j => .int (i % j)) := opI fun i j _ _ _ _ _ hc q => by
  have h1 : (0 : Int) < j := hc
  exact mod_int' (by omega) (by rw [Int.fmod_eq_emod_of_nonneg i (by omega)]; exact q)

theorem unI {f : Value → Sem Value} {g : Int → Int}
    (rule : ∀ (i : Int) (t : Tok) (s : Shared) (Q : Value → Shared → Prop) (E : Value → Shared → Prop), Q (.int (g i) s.toks) { s with toks := s.toks + 1 } → wpAny (model X.prog X.w) X.A (f (.int i t)) Q E s) :
    UnR X f (rU fun i => .int (g i)) := by
  intro pins s σ H x v Q I rx h
  obtain ⟨i, rfl, q⟩ := h
  obtain ⟨t, rfl⟩ := rx
  exact rule i t s _ _ ⟨.int (g i), H, I.tok _, ⟨_, rfl⟩, q⟩
theorem un_neg : UnR X (unaryOp .USub) (rU fun i => .int (-i)) := unI fun _ _ _ _ _ q => neg_int q

/-! ### bools among ints: n += (a < b) -/

end

/-! ### comparisons -/

section
variable {X : Cx} {a b c : Expr} {ta tb tc : TE} {pos : Pos}

theorem op_le : OpR X (compareOp .LtE) (rI0 fun i j => .bl (decide (i ≤ j))) := opB0 fun _ _ _ _ _ _ _ q => le_int q

theorem nomark (b : Expr) {op : CmpOp} (h : op ≠ .In := by decide) (h2 : op ≠ .NotIn := by decide) : behindInMarks op b = false := by
  have e1 : (op == CmpOp.In) = false := by cases op <;> first | rfl | exact absurd rfl h
  have e2 : (op == CmpOp.NotIn) = false := by cases op <;> first | rfl | exact absurd rfl h2
  cases b <;> simp [behindInMarks, e1, e2]

/-- a reading of a value as a test -/
def tTest (t : TE) : TT := fun σ H Q => t σ H fun x H' => ∃ k, x = .bl k ∧ Q k H'
theorem pt_cmpR {op : CmpOp} {r : R2} (ho : OpR X (compareOp op) r) (ha : PE X a ta) (hb : PE X b tb) (hm : behindInMarks op b = false) : PT X (.Compare a [op] [b] pos) (tTest (tOp r ta tb)) := by
  intro pins s σ H Q I h
  refine wpAny_isTrue_Compare1 (thn (ha pins s σ H _ I h) fun v s1 ⟨x, H1, I1, r1, q1⟩ => thn (hb pins s1 σ H1 _ I1 q1) fun u s2 ⟨y, H2, I2, r2, q2⟩ =>
    thn (ho pins s2 σ H2 x y v u _ I2 r1 r2 q2) fun c s3 ⟨z, H3, I3, r3, k, e, q3⟩ => ?_) hm
  subst e
  cases r3
  exact wpAny_truthy_bool ⟨H3, I3, q3⟩
/-- a op1 b op2 c -/
def tChain (r r' : R2) (ta tb tc : TE) : TE := fun σ H Q => ta σ H fun x H1 => tb σ H1 fun y H2 => r x y H2 fun z H3 => ∃ k, z = .bl k ∧
  (if k = true then tc σ H3 fun w' H4 => r' y w' H4 Q else Q (.bl false) H3)

theorem pt_chain {op op' : CmpOp} {r r' : R2} (ho : OpR X (compareOp op) r) (ho' : OpR X (compareOp op') r') (ha : PE X a ta) (hb : PE X b tb) (hc : PE X c tc)
    (hm : lastMarks [op, op'] [b, c] = false := by with_unfolding_all rfl) : PT X (.Compare a [op, op'] [b, c] pos) (tTest (tChain r r' ta tb tc)) := by
  intro pins s σ H Q I h
  refine isTrue_chain (thn (ha pins s σ H _ I h) fun v s1 ⟨x, H1, I1, r1, q1⟩ => test_link (thn (hb pins s1 σ H1 _ I1 q1) fun u s2 ⟨y, H2, I2, r2, q2⟩ =>
    thn (ho pins s2 σ H2 x y v u _ I2 r1 r2 q2) fun d s3 ⟨z, H3, I3, r3, k, e, q3⟩ => ?_)) hm
  subst e
  cases r3
  refine wpAny_truthy_bool ?_
  cases k with
  | false =>
    obtain ⟨k', e', q'⟩ := q3
    cases e'
    exact ite_ff ⟨H3, I3, q'⟩
  | true =>
    refine ite_tt (test_last (thn (hc pins s3 σ H3 _ I3 q3) fun w' s4 ⟨z', H4, I4, r4, q4⟩ => thn (ho' pins s4 σ H4 y z' u w' _ I4 r2 r4 q4) fun d' s5 ⟨z2, H5, I5, r5, k2, e2, q5⟩ => ?_))
    subst e2
    cases r5
    exact wpAny_truthy_bool ⟨H5, I5, q5⟩

/-! ### truth -/

theorem line63 : (sizeLine : Nat) < 2 ^ 63 := by rw [sizeLine_eq]; decide

/-! ### strs and bytes -/

/-! ### scalar builtins, by CallR -/
theorem vals1 {x : V} {us : List Value} (r : Vals [x] us) : ∃ u, us = [u] ∧ RelV x u := by
  cases r with
  | cons r1 r2 => cases r2; exact ⟨_, rfl, r1⟩

end
end L2

namespace L2
open PySem PySem.Spec PyProof.Rows

/-! ### an instance, its attributes a map -/

section
variable {prog : Program} {w : World} {A : Around} {E : Value → Shared → Prop} {s : Shared} {K : PySem.W.Frag} {x dx C f : Addr} {mA : Str → Option Value} {name : Str} {v : Value}

end

/-! ### the attributes as a list of pairs -/

section
variable {P : Program} {w : World} {H H' : Hp} {h h' : Heap} {a C dx : Addr} {fs fs' : List (Str × V)}

end

/-! ### what of the text a class must have -/

section
variable {X : Cx} {pins : List (Addr × Obj)} {σ : St} {H : Hp} {s : Shared} {a C dx : Addr} {fs : List (Str × V)} {f : Str} {v : V} {A : Around} {E : Value → Shared → Prop}

end

/-! ### readings and rules -/

section
variable {X : Cx} {o e value : Expr} {f : Str} {pos pos' tpos : Pos} {ta tv : TE}

end

/-! ### isinstance -/
section
variable {X : Cx} {pins : List (Addr × Obj)} {σ : St} {H : Hp} {s : Shared} {A : Around} {E : Value → Shared → Prop} {Q : Value → Shared → Prop} {c : Value} {b : Bool}

end
end L2

namespace L2
open PySem PySem.Spec PyProof.Rows

/-! ### room -/
structure Room (k : Nat) (A : Around) : Prop where
  hd : A.handled = none
  dp : A.depth + 3 * k + 5 < recursionLimit
  un : A.units + 16 * k + 200 < cLine
theorem Room.mono {j k : Nat} {A : Around} (r : Room k A) (h : j ≤ k) : Room j A := ⟨r.hd, by have := r.dp; omega, by have := r.un; omega⟩
theorem Room.deeper {k : Nat} {A : Around} (r : Room (k + 1) A) (env : Env) : Room k (A.deeper env) :=
  ⟨r.hd, by have := r.dp; show A.depth + 1 + 3 * k + 5 < _; omega, by have := r.un; show A.units + 3 + 16 * k + 200 < _; omega⟩

theorem Room.depth {k : Nat} {A : Around} (r : Room k A) : A.depth < recursionLimit := by have := r.dp; omega
theorem Room.units {k : Nat} {A : Around} (r : Room k A) : A.units + 64 < cLine := by have := r.un; omega

/-! ### argument lists and displays -/
def tNil : TA := fun _ H Q => Q [] H
def tCons (ta : TE) (tr : TA) : TA := fun σ H Q => ta σ H fun x H1 => tr σ H1 fun xs H2 => Q (x :: xs) H2
section
variable {X : Cx} {e : Expr} {es : List Expr} {te : TE} {t : TA} {pos : Pos}
theorem pa_nil : PA X [] tNil := fun _ _ _ _ H Q I h => Calls.spliced_nil ⟨[], H, I, .nil, h⟩
theorem pa_cons (ha : PE X e te) (hr : PA X es t) (hs : starEach (e :: es) X.env = (false, eval e X.env) :: starEach es X.env := by rfl) : PA X (e :: es) (tCons te t) := by
  intro pos pins s σ H Q I h
  rw [hs]
  show wpAny _ _ (spliced ((false, eval e X.env) :: backTo pos (starEach es X.env))) _ _ s
  refine Calls.spliced_cons (thn (ha pins s σ H _ I h) fun u s1 ⟨x, H1, I1, r1, q1⟩ => ?_)
  exact thn (hr pos pins s1 σ H1 _ I1 q1) fun us s2 ⟨xs, H2, I2, r2, q2⟩ => ⟨x :: xs, H2, I2, .cons r1 r2, q2⟩

def tLst (t : TA) : TE := fun σ H Q => t σ H fun xs H1 => xs.length ≤ sizeLine ∧ ∀ p, H1 p = none → Q (.ref p) (upd H1 p (.lst xs))

theorem pe_lst (h : PA X es t) : PE X (.List es pos) (tLst t) := by
  intro pins s σ H Q I hq
  refine wpAny_List_spliced (thn (h pos pins s σ H _ I hq) fun us s1 ⟨xs, H1, I1, r, z, q⟩ => ⟨by rw [← r.length]; exact z, ?_⟩)
  have hf : H1 s1.heap.objs.size = none := I1.hok.fresh (Nat.le_refl _)
  refine ⟨.ref s1.heap.objs.size, upd H1 s1.heap.objs.size (.lst xs), I1.laid (t' := s1.toks) (fun b u e => Heap.get?_push_of_some _ e) (Nat.le_refl _) ?_, rfl, q _ hf⟩
  exact ⟨z, us, 0, r, Heap.get?_push_size _ rfl⟩
end

/-! ### what a def promises -/
/-- a def's promise: the bound arguments in the parameters' order, the heap, the wanted end, the wanted exception -/
abbrev Sp := List V → Hp → VK → XK → Prop
/-- how an exception lies behind a call (file 08 gives it): the callers' frames, abstract heap and state ahead of the call, the wish, the exception, the state -/
abbrev CXT := List Env → Hp → Shared → XK → Value → Shared → Prop

/-- the state at a call -/
structure Env0 (P : Program) (w : World) (K : PySem.W.Frag) (mg : Str → Option Value) (base : Heap) (A : Around) (outer : List Env) (s : Shared) (H : Hp) : Prop where
  frames : A.frames = some outer
  mod : Mod K mg base
  bs : ∀ b o, base.get? b = some o → s.heap.get? b = some o ∧ H b = none
  bsz : base.objs.size ≤ s.heap.objs.size
  funs : s.heap.FunFrames base outer
  frf : ∀ b ∈ frs outer, H b = none
  hok : HOk P w H s.heap
  bare : AllBare s.gens
/-- a call's end -/
def CE (outer : List Env) (P : Program) (w : World) (H : Hp) (s : Shared) (Q : VK) (u : Value) (s' : Shared) : Prop :=
  ∃ v H', s'.os = s.os ∧ AllBare s'.gens ∧ Un (frs outer) [] H H' s.heap s'.heap ∧ HOk P w H' s'.heap ∧ RelV v u ∧ Q v H'
def CR (CX : CXT) (outer : List Env) (P : Program) (w : World) (H : Hp) (s : Shared) (Q : VK) (E : XK) (r : Result) (s' : Shared) : Prop :=
  match r with
  | .ok (.ret u) => CE outer P w H s Q u s'
  | .ok _ => False
  | .error e => CX outer H s E e s'
structure FnOk (P : Program) (w : World) (K : PySem.W.Frag) (mg : Str → Option Value) (base : Heap) (CX : CXT) (k : Nat) (f : Addr) (fd : FuncData) (ps : List Str) (sp : Sp) : Prop where
  len : ∀ vs H Q E, sp vs H Q E → vs.length = ps.length
  run : ∀ (A : Around) (outer : List Env) (s : Shared) (H : Hp) (args : Args) (us : List Value) (vs : List V) (Q : VK) (E : XK), Room k A → Env0 P w K mg base A outer s H → BindsTo s fd args (ps.zip us) → Vals vs us → sp vs H Q E →
    codeAny (model P w) A (.call (.ref f) args) (CR CX outer P w H s Q E) s

section
variable {X : Cx} {pins : List (Addr × Obj)} {σ : St} {H : Hp} {s s' : Shared}
/-- from a body: what a callee wants -/
theorem Inv.env0 (I : Inv X pins σ H s) : Env0 X.prog X.w X.K X.mg X.base X.A X.stack s H :=
  ⟨I.ok.frames, I.ok.mod, I.bs, Nat.le_trans I.ok.bsz I.sz, I.stack, I.stkFree, I.hok, I.bare⟩
/-- behind a call -/
theorem Inv.after {Q : VK} {u : Value} (I : Inv X pins σ H s) (h : CE X.stack X.prog X.w H s Q u s') : EP X pins σ Q u s' := by
  obtain ⟨v, H', os, bare, un, hok, r, q⟩ := h
  obtain ⟨hh, g, d, t, os'⟩ := s'
  obtain rfl : os' = s.os := os
  exact ⟨v, H', I.call (h' := hh) (g' := g) (d' := d) (t' := t) (ch := []) un hok bare (fun b z => absurd z (by simp)), r, q⟩
end

/-! ### calls -/
/-- f(..): the written arguments, then the defaults dvs; E: what is wanted of an exception -/
def tCall (sp : Sp) (dvs : List V) (E : XK) (t : TA) : TE := fun σ H Q => t σ H fun vs H1 => sp (vs ++ dvs) H1 Q E

/-- how the parameters are bound: us the positional arguments, kw the keywords' values by name, ds the defaults that fill up -/
def Binds (K : PySem.W.Frag) (fd : FuncData) (ps : List Str) (ds : List Value) : Prop :=
  ∀ (s : Shared) (us : List Value), K.In s.heap → (us ++ ds).length = ps.length → BindsTo s fd ⟨us, []⟩ (ps.zip (us ++ ds))
/-- every parameter is given -/
theorem Binds.all {K : PySem.W.Frag} {fd : FuncData} {ps : List Str} (h : ∀ us : List Value, us.length = ps.length → bindArgs fd ⟨us, []⟩ = pure (ps.zip us)) : Binds K fd ps [] := fun s us _ hl => by
  rw [List.append_nil] at hl ⊢
  exact .of_eq (h us hl)

/-- an exception of a callee reaches what this body wants of exceptions -/
def Passes (CX : CXT) (X : Cx) (E : XK) : Prop := ∀ (pins : List (Addr × Obj)) (σ : St) (H : Hp) (s : Shared) (e : Value) (s' : Shared), Inv X pins σ H s → CX X.stack H s E e s' → X.xe e s'

section
variable {X : Cx} {CX : CXT} {k : Nat} {f C : Addr} {fd : FuncData} {ps : List Str} {sp : Sp} {dvs : List V} {ds : List Value} {E : XK} {x m : Str} {p pos apos : Pos} {e o : Expr} {es : List Expr} {ta : TE} {t : TA}

/-- the callee runs -/
theorem run_fn {pins : List (Addr × Obj)} {σ : St} {H : Hp} {s : Shared} {Q : VK} {us : List Value} {vs : List V} (F : FnOk X.prog X.w X.K X.mg X.base CX k f fd ps sp) (hr : Room k X.A) (hb : Binds X.K fd ps ds) (hd : Vals dvs ds) (hx : Passes CX X E)
    (I : Inv X pins σ H s) (r : Vals vs us) (h : sp (vs ++ dvs) H Q E) : wpAny (model X.prog X.w) X.A (call (.ref f) us) (EP X pins σ Q) X.xe s := by
  have r2 : Vals (vs ++ dvs) (us ++ ds) := r.append hd
  have hl : (us ++ ds).length = ps.length := by rw [← r2.length]; exact F.len _ _ _ _ h
  refine wpAny_call (codeAny_mono (F.run X.A X.stack s H ⟨us, []⟩ (us ++ ds) (vs ++ dvs) Q E hr I.env0 (hb s us I.kIn hl) r2 h) fun r s' hq => ?_)
  cases r with
  | error e => exact hx pins σ H s e s' I hq
  | ok fl =>
    cases fl with
    | ret u => exact I.after hq
    | next => exact False.elim hq
    | brk => exact False.elim hq
    | cont => exact False.elim hq

theorem pe_call (F : FnOk X.prog X.w X.K X.mg X.base CX k f fd ps sp) (hr : Room k X.A) (hg : Gl X x) (hm : X.mg x = some (.ref f)) (hk : PySem.W.keepIn X.K (.ref f) = true) (hb : Binds X.K fd ps ds) (hd : Vals dvs ds) (hx : Passes CX X E)
    (ha : PA X (e :: es) t) (hdb : (x == ("__debug__" : Str)) = false := by decide) (he : starEach (e :: es) X.env = (false, eval e X.env) :: starEach es X.env := by rfl) (hpl : (backTo pos (starEach es X.env)).any (·.1) = false := by rfl) :
    PE X (.Call (.Name x p) (e :: es) [] pos) (tCall sp dvs E t) := by
  intro pins s σ H Q I h
  refine wpAny_Call_Name_kw (ld_glob I hg hm ?_ hdb)
  refine PySem.W.callWith_K (h₀ := X.base) I.ok.mod.kin hk (thn (ha pos pins s σ H _ I h) fun us s1 ⟨vs, H1, I1, r, q⟩ => ⟨I1.kIn, ?_⟩) he hpl
  exact run_fn F hr hb hd hx I1 r q

end

/-! ### keywords -/
/-- the values of the keywords, from the left -/
def PK (X : Cx) (kws : List Keyword) (t : TA) : Prop :=
  ∀ (pos : Pos) (pins : List (Addr × Obj)) (s : Shared) (σ : St) (H : Hp) (Q : List V → Hp → Prop), Inv X pins σ H s → t σ H Q → wpAny (model X.prog X.w) X.A (evalAll ((backToKw pos (keywordEach kws X.env)).map (·.2))) (AP X pins σ Q) X.xe s
section
variable {X : Cx} {CX : CXT} {k : Nat} {f C : Addr} {fd : FuncData} {ps ks : List Str} {sp : Sp} {E : XK} {x m : Str} {p pos apos kpos : Pos} {e o : Expr} {es : List Expr} {kws : List Keyword} {te ta : TE} {t tk : TA} {nm : Option Str}
theorem pk_nil : PK X [] tNil := fun _ _ _ _ H Q I h => wpAny_evalAll_nil ⟨[], H, I, .nil, h⟩
theorem pk_cons (ha : PE X e te) (hr : PK X kws t) : PK X (⟨nm, e, kpos⟩ :: kws) (tCons te t) := by
  intro pos pins s σ H Q I h
  show wpAny _ _ (evalAll ((do let v ← eval e X.env; standAt pos; pure v) :: (backToKw pos (keywordEach kws X.env)).map (·.2))) _ _ s
  refine wpAny_evalAll_cons (wpAny_bind (thn (ha pins s σ H _ I h) fun u s1 ⟨x, H1, I1, r1, q1⟩ => wpAny_bind (wpAny_standAt (wpAny_pure ?_))))
  exact thn (hr pos pins s1 σ H1 _ I1 q1) fun us s2 ⟨xs, H2, I2, r2, q2⟩ => ⟨x :: xs, H2, I2, .cons r1 r2, q2⟩

variable {g : List Value → List Value → List Value} {gV : List V → List V → List V}

end

/-! ### a def's body keeps its promise -/
/-- names: the parameters first -/
structure FnScope (N P : List Str) (sc : Scope) : Prop where
  kind : sc.kind = .function
  co : sc.isCoroutine = false
  gen : sc.isGenerator = false
  nd : N.Nodup
  pre : N.take P.length = P
  par : ∀ x ∈ P, sc.names.lookup x = some .local ∨ sc.names.lookup x = some .cell
  nofree : ∀ y ∈ sc.names, y.2 ≠ .free

theorem bindL_out {kindOf : Str → Option NameKind} {x : Str} : ∀ {binds : List (Str × Value)} {m : Str → Option Value}, (∀ v, (x, v) ∉ binds) → bindL kindOf binds m x = m x
  | [], _, _ => rfl
  | (n, v) :: r, m, h => by
    unfold bindL
    rw [bindL_out fun w hw => h w (List.mem_cons_of_mem _ hw)]
    split
    · have : x ≠ n := by rintro rfl; exact h v List.mem_cons_self
      simp [this]
    · rfl
theorem bindC_out {kindOf : Str → Option NameKind} {x : Str} : ∀ {binds : List (Str × Value)} {m : Str → Option Value}, (∀ v, (x, v) ∉ binds) → bindC kindOf binds m x = m x
  | [], _, _ => rfl
  | (n, v) :: r, m, h => by
    unfold bindC
    rw [bindC_out fun w hw => h w (List.mem_cons_of_mem _ hw)]
    split
    · rfl
    · have : x ≠ n := by rintro rfl; exact h v List.mem_cons_self
      simp [this]
theorem bindL_get {kindOf : Str → Option NameKind} {x : Str} {v : Value} : ∀ {P : List Str} {vs : List Value} {i : Nat} {m : Str → Option Value}, P.Nodup → P[i]? = some x → vs[i]? = some v → kindOf x = some .local →
    bindL kindOf (P.zip vs) m x = some v
  | [], _, _, _, _, h, _, _ => by simp at h
  | _ :: _, [], _, _, _, _, h, _ => by simp at h
  | p :: P, w :: vs, 0, m, nd, h1, h2, hk => by
    simp at h1 h2; subst h1; subst h2
    show bindL kindOf ((p, w) :: P.zip vs) m p = _
    unfold bindL
    rw [bindL_out fun v hv => (List.nodup_cons.mp nd).1 (List.of_mem_zip hv).1, if_pos hk]
    simp
  | p :: P, w :: vs, i + 1, m, nd, h1, h2, hk => by
    show bindL kindOf ((p, w) :: P.zip vs) m x = _
    unfold bindL
    exact bindL_get (i := i) (List.nodup_cons.mp nd).2 (by simpa using h1) (by simpa using h2) hk
theorem bindC_get {kindOf : Str → Option NameKind} {x : Str} {v : Value} : ∀ {P : List Str} {vs : List Value} {i : Nat} {m : Str → Option Value}, P.Nodup → P[i]? = some x → vs[i]? = some v → kindOf x ≠ some .local →
    bindC kindOf (P.zip vs) m x = some v
  | [], _, _, _, _, h, _, _ => by simp at h
  | _ :: _, [], _, _, _, _, h, _ => by simp at h
  | p :: P, w :: vs, 0, m, nd, h1, h2, hk => by
    simp at h1 h2; subst h1; subst h2
    show bindC kindOf ((p, w) :: P.zip vs) m p = _
    unfold bindC
    rw [bindC_out fun v hv => (List.nodup_cons.mp nd).1 (List.of_mem_zip hv).1, if_neg hk]
    simp
  | p :: P, w :: vs, i + 1, m, nd, h1, h2, hk => by
    show bindC kindOf ((p, w) :: P.zip vs) m x = _
    unfold bindC
    exact bindC_get (i := i) (List.nodup_cons.mp nd).2 (by simpa using h1) (by simpa using h2) hk

/-- the names' values at the entry -/
def start (N : List Str) (vs : List V) : St := vs.map some ++ List.replicate (N.length - vs.length) none

/-- the context of a def's body, at its entry; an exception leaves the frame, then lies as CX says -/
def cxOf (CX : CXT) (P : Program) (w : World) (K : PySem.W.Frag) (mg : Str → Option Value) (base : Heap) (N : List Str) (qual : Str) (scope : Scope) (f : Addr) (cd : Value) (A : Around) (outer : List Env) (s : Shared) (H : Hp) (E : XK) : Cx where
  prog := P
  w := w
  K := K
  mg := mg
  base := base
  A := A.deeper (envOfC qual scope s.heap.objs.size f cd)
  N := N
  s_0 := s
  H_0 := H
  env := envOfC qual scope s.heap.objs.size f cd
  outer := outer
  stack := envOfC qual scope s.heap.objs.size f cd :: outer
  ex := []
  calm := true
  fn := fun _ => true
  pn := []
  xe := fun e s' => wpAny (model P w) (A.deeper (envOfC qual scope s.heap.objs.size f cd)) (leaving (envOfC qual scope s.heap.objs.size f cd) e) (fun _ s'' => CX outer H s E e s'') (fun e' s'' => CX outer H s E e' s'') s'

theorem cell_has {sc : Scope} {n : Nat} {x : Str} (h : sc.names.lookup x = some .cell) : ∃ c, (cellsFrom n sc.names []).lookup x = some c := by
  have q := PySem.W.cellsFrom_some sc.names n [] (.inl h)
  exact Option.isSome_iff_exists.mp q

theorem inv_start {CX : CXT} {P : Program} {w : World} {K : PySem.W.Frag} {mg : Str → Option Value} {base : Heap} {N ps : List Str} {qual : Str} {scope : Scope} {f : Addr} {cd : Value} {A : Around} {outer : List Env} {s s1 : Shared} {H : Hp} {E : XK} {us : List Value} {vs : List V}
    (S : FnScope N ps scope) (hd : A.handled = none) (e0 : Env0 P w K mg base A outer s H) (hl : vs.length = ps.length) (r : Vals vs us)
    (x : InCallC s s.heap.objs.size (bindL (envOfC qual scope s.heap.objs.size f cd).kindOf (ps.zip us) fun _ => none) (cellsFrom (s.heap.objs.size + 1) scope.names []) (bindC (envOfC qual scope s.heap.objs.size f cd).kindOf (ps.zip us) fun _ => none) s1) :
    Inv (cxOf CX P w K mg base N qual scope f cd A outer s H E) [] (start N vs) H s1 := by
  have hpl : ps.length ≤ N.length := by have := congrArg List.length S.pre; rw [List.length_take] at this; omega
  obtain ⟨h1, tk, rfl, hk⟩ := x.done
  have noA : ∀ b : Addr, b ∉ (cxOf CX P w K mg base N qual scope f cd A outer s H E).ex := fun b z => absurd (show b ∈ ([] : List Addr) from z) (by simp)
  refine ⟨⟨e0.mod, S.kind, rfl, rfl, Nat.le_refl _, fun y z c h1 h2 => ?_, fun y hy => ?_, fun y c _ h => ?_, fun _ => hd, Around.frames_deeper e0.frames, .inr ⟨rfl, rfl⟩, fun b z => absurd z (noA b), e0.bs, e0.bsz, fun b _ _ => noA b, fun b z => absurd z (noA b), e0.funs, e0.frf⟩,
    rfl, e0.bare, Un.kept hk, ⟨_, x.toInCall.ns, fun i y v h1 h2 h3 => ?_⟩, fun y c h => ⟨_, x.cell y c h⟩, e0.hok.fresh (Nat.le_refl _), fun y c h => ?_, fun p hp => absurd (show p ∈ ([] : List (Addr × Obj)) from hp) (by simp), e0.hok.kept hk, ?_⟩
  · exact name_of_addr x.apart (PySem.mem_of_lookup h1) (PySem.mem_of_lookup h2)
  · have hy : scope.names.lookup y = some .cell ∨ scope.names.lookup y = some .free := hy
    rcases hy with hy | hy
    · exact cell_has hy
    · exact absurd rfl (S.nofree _ (PySem.mem_of_lookup hy))
  · exact Nat.le_of_lt (x.above y c (PySem.mem_of_lookup h))
  · have hi : i < vs.length := by
      unfold start at h2
      by_cases hi : i < vs.length
      · exact hi
      · rw [List.getElem?_append_right (by simpa using hi)] at h2
        rw [List.getElem?_replicate] at h2
        split at h2 <;> cases h2
    have ha : vs[i]? = some v := by
      unfold start at h2
      rw [List.getElem?_append_left (by simpa using hi), List.getElem?_map] at h2
      cases e : vs[i]? with
      | none => rw [e] at h2; cases h2
      | some a => rw [e] at h2; cases h2; rfl
    obtain ⟨u, hu, rv⟩ := r.get ha
    have hp : ps[i]? = some y := by
      rw [← S.pre, List.getElem?_take_of_lt (by omega)]; exact h1
    have ndP : ps.Nodup := by rw [← S.pre]; exact S.nd.sublist (List.take_sublist _ _)
    refine ⟨u, rv, ?_⟩
    rcases S.par y (List.mem_of_getElem? hp) with k | k
    · exact .inl ⟨k, bindL_get ndP hp hu k⟩
    · obtain ⟨c, e⟩ := cell_has (n := s.heap.objs.size + 1) k
      refine .inr ⟨.inl k, c, e, ?_⟩
      have q := x.cell y c e
      rw [bindC_get ndP hp hu (by show scope.names.lookup y ≠ _; rw [k]; decide)] at q
      exact q
  · exact e0.hok.fresh (Nat.le_of_lt (x.above y c (PySem.mem_of_lookup h)))
  · unfold start
    show _ = N.length
    rw [List.length_append, List.length_map, List.length_replicate]
    omega

/-- THE RULE: a def (or a method) of the text, by its body. The body's reading t is chosen for each entry; it is run at the parameters' values -/
theorem fn_of {CX : CXT} {P : Program} {w : World} {K : PySem.W.Frag} {mg : Str → Option Value} {base : Heap} {k : Nat} {f : Addr} {name qual : Str} {params : Arguments} {body : List Stmt} {scope : Scope} {dV kV doc pm cdv ct oc : Value} {an od : Option Addr}
    {osl : Array (Option Value)} {N ps : List Str} {sp : Sp} (lk : K.lookup f = some ⟨oc, od, .func (PySem.W.fnOf name qual params body scope dV kV doc pm an cdv ct), osl⟩) (hcd : PySem.W.codeIn K cdv qual = true) (S : FnScope N ps scope)
    (len : ∀ vs H Q E, sp vs H Q E → vs.length = ps.length)
    (hbody : ∀ (A : Around) (outer : List Env) (s : Shared) (H : Hp) (vs : List V) (Q : VK) (E : XK), Room k (A.deeper (envOfC qual scope s.heap.objs.size f cdv)) → sp vs H Q E →
      ∃ t, PSs (cxOf CX P w K mg base N qual scope f cdv A outer s H E) body t ∧ t { nx := fun _ H' => Q .non H', rt := Q } (start N vs) H) :
    FnOk P w K mg base CX (k + 1) f (PySem.W.fnOf name qual params body scope dV kV doc pm an cdv ct) ps sp := by
  refine ⟨len, fun A outer s H args us vs Q E hr e0 hb r hsp => ?_⟩
  have hl := len _ _ _ _ hsp
  have KX : K.In s.heap := e0.mod.kin.keeps fun b o e => (e0.bs b o e).1
  have lim : s.heap.NoLimit := e0.mod.nolimit.keeps fun b o e => (e0.bs b o e).1
  have hkind : ∀ y ∈ ps.zip us, scope.names.lookup y.1 = some .local ∨ (scope.names.lookup y.1 = some .cell ∧ ((cellsFrom (s.heap.objs.size + 1) scope.names []).lookup y.1).isSome = true) := fun ⟨n, v⟩ hy => by
    rcases S.par n (List.of_mem_zip hy).1 with q | q
    · exact .inl q
    · exact .inr ⟨q, PySem.W.cellsFrom_some _ _ _ (.inl q)⟩
  refine codeAny_call_function hr.depth (KX _ _ lk) rfl S.co S.gen rfl (PySem.W.codeRec_of KX hcd) (hb _ _ _ _ ?_)
  refine wpAny_newFunctionEnv_cells S.kind hkind fun env he s1 x => ?_
  subst he
  refine ⟨lim.keeps x.toInCall.keep, codeAny_func ?_⟩
  obtain ⟨t, ht, hq⟩ := hbody A outer s H vs Q E (hr.deeper _) hsp
  have I : Inv (cxOf CX P w K mg base N qual scope f cdv A outer s H E) [] (start N vs) H s1 := inv_start S hr.hd e0 hl r x
  refine wpAny_mono (ht [] s1 (start N vs) H _ I hq) (fun fl s' hs => ?_) fun e s' hs => hs
  have fin : ∀ {σ' : St} {H' : Hp} {v : V} {u : Value}, Inv (cxOf CX P w K mg base N qual scope f cdv A outer s H E) [] σ' H' s' → RelV v u → Q v H' → CE outer P w H s Q u s' :=
    fun {σ' H' v u} J rv q => ⟨v, H', J.os, J.bare, J.base, J.hok, rv, q⟩
  cases fl with
  | ret u =>
    obtain ⟨v, σ', H', J, rv, q⟩ := hs
    exact fin J rv q
  | next =>
    obtain ⟨σ', H', J, q⟩ := hs
    exact fin (v := V.non) (u := Value.none) J rfl q
  | brk =>
    obtain ⟨_, _, _, q⟩ := hs
    exact False.elim q
  | cont =>
    obtain ⟨_, _, _, q⟩ := hs
    exact False.elim q
end L2

namespace L2
open PySem PySem.Spec PyProof.Rows
section
variable {X : Cx} {x : Str} {p pos : Pos} {e : Expr} {es : List Expr} {t : TA} {id T : String} {r : List V → Hp → VK → Prop}

def tCB (r : List V → Hp → VK → Prop) (t : TA) : TE := fun σ H Q => t σ H fun vs H1 => r vs H1 Q
/-- f(e, ..), f a built-in function -/
theorem pe_callB (hc : CallR X (.builtin id) r) (hg : Gl X x) (hm : X.mg x = none) (hv : bootBuiltins x = some (.builtin id)) (ha : PA X (e :: es) t) (hn : x ≠ "__name__" := by decide) (hdb : (x == ("__debug__" : Str)) = false := by decide)
    (he : starEach (e :: es) X.env = (false, eval e X.env) :: starEach es X.env := by rfl) (hpl : (backTo pos (starEach es X.env)).any (·.1) = false := by rfl) : PE X (.Call (.Name x p) (e :: es) [] pos) (tCB r t) := by
  intro pins s σ H Q I h
  refine wpAny_Call_Name_kw (ld_blt I hg hm hv ?_ hn hdb)
  exact PyProof.Rows.callWith_builtin1 (thn (ha pos pins s σ H _ I h) fun us s1 ⟨vs, H1, I1, r1, q1⟩ => hc pins s1 σ H1 vs us Q I1 r1 q1) he hpl
/-- T(e, ..), T a built-in type -/
theorem pe_callTy (hc : CallR X (.type T) r) (hg : Gl X x) (hm : X.mg x = none) (hv : bootBuiltins x = some (.type T)) (ha : PA X (e :: es) t) (hn : x ≠ "__name__" := by decide) (hdb : (x == ("__debug__" : Str)) = false := by decide)
    (he : starEach (e :: es) X.env = (false, eval e X.env) :: starEach es X.env := by rfl) (hpl : (backTo pos (starEach es X.env)).any (·.1) = false := by rfl) : PE X (.Call (.Name x p) (e :: es) [] pos) (tCB r t) := by
  intro pins s σ H Q I h
  refine wpAny_Call_Name_kw (ld_blt I hg hm hv ?_ hn hdb)
  exact PyProof.Rows.callWith_type1 (thn (ha pos pins s σ H _ I h) fun us s1 ⟨vs, H1, I1, r1, q1⟩ => hc pins s1 σ H1 vs us Q I1 r1 q1) he hpl

end
end L2

namespace HT
open PySem PyProof.Rows

section
open PySem.SeqAt
open PySem.AutoSeq1 (wpAny_loadPart')
open PySem.MeetsSeq PySem.MeetsSeq2 PySem.MeetsSeq3

end

section
variable {prog : Program} {w : World} {A : Around} {E : Value → Shared → Prop} {s : Shared}

/-! ### t[a:b], not the whole -/
/-- a slice's bound as a place among n (d where it is left out) -/
def sIx (n d : Nat) : Option Int → Nat
  | none => d
  | some v => if v < 0 then (v + (n : Int)).toNat else min v.toNat n
theorem sIx_none (n d : Nat) : sIx n d none = d := rfl
theorem sIx_nat (n d k : Nat) : sIx n d (some (k : Int)) = min k n := by
  show (if (k : Int) < 0 then ((k : Int) + (n : Int)).toNat else min (k : Int).toNat n) = min k n
  rw [if_neg (by omega), Int.toNat_natCast]

end
end HT

namespace L2
open PySem PySem.Spec PyProof.Rows

/-! ### the parts of a slice -/
abbrev TO := St → Hp → (Option Int → Hp → Prop) → Prop
/-- a slice's part (left out, or an int) -/
def PO (X : Cx) (e : Option Expr) (t : TO) : Prop :=
  ∀ (pins : List (Addr × Obj)) (s : Shared) (σ : St) (H : Hp) (Q : Option Int → Hp → Prop), Inv X pins σ H s → t σ H Q →
    wpAny (model X.prog X.w) X.A (evalPart e X.env) (fun u s' => ∃ o H', Inv X pins σ H' s' ∧ IsPart u o ∧ Q o H') X.xe s
def tNoPart : TO := fun _ H Q => Q none H
def tPart (t : TE) : TO := fun σ H Q => t σ H fun x H1 => ∃ i, x = .int i ∧ Q (some i) H1

section
variable {X : Cx} {e : Expr} {te : TE} {lo hi : Option Expr} {tl th : TO} {pos p2 : Pos}

theorem po_none : PO X none tNoPart := by
  intro pins s σ H Q I h
  rw [evalPart_none]
  exact wpAny_pure ⟨none, H, I, .none, h⟩
theorem po_some (h : PE X e te) : PO X (some e) (tPart te) := by
  intro pins s σ H Q I hw
  rw [evalPart_some]
  refine thn (h pins s σ H _ I hw) fun u s1 ⟨x, H1, I1, r1, q1⟩ => ?_
  obtain ⟨i, rfl, q⟩ := q1
  obtain ⟨t, rfl⟩ := r1
  exact ⟨some i, H1, I1, .int i t, q⟩

/-- what a slice of a value is, by values: the slice object stands at sl -/
def SlR (X : Cx) (r : V → Option Int → Option Int → Hp → VK → Prop) : Prop :=
  ∀ (pins : List (Addr × Obj)) (s : Shared) (σ : St) (H : Hp) (x : V) (v vl vu : Value) (lo hi : Option Int) (sl : Addr) (Q : VK), Inv X pins σ H s → RelV x v → s.heap.IsSliceOf sl vl vu .none → IsPart vl lo → IsPart vu hi → r x lo hi H Q →
    ∃ T id, typeLookup (.type T) "__getitem__" = pure (some (.builtin id)) ∧ s.TypeIs v T ∧ wpAny (model X.prog X.w) X.A (getItem v (.ref sl)) (EP X pins σ Q) X.xe s

def tSl (r : V → Option Int → Option Int → Hp → VK → Prop) (te : TE) (tl th : TO) : TE := fun σ H Q => te σ H fun x H1 => tl σ H1 fun l H2 => th σ H2 fun u H3 => r x l u H3 Q
/-- a[lo:hi], any a -/
theorem pe_slice {r : V → Option Int → Option Int → Hp → VK → Prop} (hr : SlR X r) (he : PE X e te) (hl : PO X lo tl) (hu : PO X hi th) : PE X (.Subscript e (.Slice lo hi none p2) pos) (tSl r te tl th) := by
  intro pins s σ H Q I h
  refine Subscript_ (thn (he pins s σ H _ I h) fun v s1 ⟨x, H1, I1, r1, q1⟩ => ?_)
  refine wpAny_Slice (thn (hl pins s1 σ H1 _ I1 q1) fun vl s2 ⟨l, H2, I2, pl, q2⟩ => thn (hu pins s2 σ H2 _ I2 q2) fun vu s3 ⟨u, H3, I3, pu, q3⟩ => ?_)
  rw [evalPart_none]
  refine wpAny_pure ?_
  have I4 : Inv X pins σ H3 { s3 with heap := s3.heap.push { cls := .type "slice", data := .fields #[vl, vu, .none] } } := I3.kept (t' := s3.toks) fun b ob q => Heap.get?_push_of_some _ q
  obtain ⟨T, id, hT, ht, hg⟩ := hr pins { s3 with heap := s3.heap.push { cls := .type "slice", data := .fields #[vl, vu, .none] } } σ H3 x v vl vu l u s3.heap.objs.size Q I4 r1 (Heap.IsSliceOf.new ..) pl pu q3
  show wpAny (model X.prog X.w) X.A (subscriptTail e (.Slice lo hi none p2) v (.ref s3.heap.objs.size)) (EP X pins σ Q) X.xe { s3 with heap := s3.heap.push { cls := .type "slice", data := .fields #[vl, vu, .none] } }
  exact tail_any (ops := [.ref s3.heap.objs.size, v]) ht hT hg (by with_unfolding_all rfl)

/-- the items of xs[lo:hi] -/
def cutV (xs : List V) (lo hi : Option Int) : List V := (xs.drop (HT.sIx xs.length 0 lo)).take (HT.sIx xs.length xs.length hi - HT.sIx xs.length 0 lo)
theorem cutV_length (xs : List V) (lo hi : Option Int) : (cutV xs lo hi).length ≤ xs.length := by
  unfold cutV
  rw [List.length_take, List.length_drop]
  omega

/-! ### t < u, t + u -/

end
end L2

namespace L2
open PySem PySem.Spec PyProof.Rows

/-! ### places -/
/-- the place that an index of any sign means -/
def ixN (n : Nat) (i : Int) : Option Nat := if 0 ≤ i then (if i < n then some i.toNat else none) else if -(n : Int) ≤ i then some (i + n).toNat else none
def atI {α : Type} (xs : List α) (i : Int) : Option α := (ixN xs.length i).bind fun j => xs[j]?
theorem ixN_seq {n : Nat} {i : Int} {j : Nat} (h : ixN n i = some j) : seqIndex? i n = some j ∧ j < n ∧ -(n : Int) ≤ i ∧ i < n := by
  unfold ixN at h
  by_cases h0 : 0 ≤ i
  · rw [if_pos h0] at h
    by_cases h1 : i < n
    · rw [if_pos h1] at h
      have e : i.toNat = j := Option.some.inj h
      exact ⟨by rw [seqIndex_of h0 h1, e], by omega, by omega, h1⟩
    · rw [if_neg h1] at h; cases h
  · rw [if_neg h0] at h
    by_cases h1 : -(n : Int) ≤ i
    · rw [if_pos h1] at h
      have e : (i + n).toNat = j := Option.some.inj h
      exact ⟨by rw [seqIndex_neg (by omega) h1, e], by omega, h1, by omega⟩
    · rw [if_neg h1] at h; cases h
theorem atI_get {α : Type} {xs : List α} {i : Int} {v : α} (h : atI xs i = some v) : ∃ j, seqIndex? i xs.length = some j ∧ xs[j]? = some v ∧ j < xs.length ∧ -(xs.length : Int) ≤ i ∧ i < xs.length := by
  unfold atI at h
  cases e : ixN xs.length i with
  | none => rw [e] at h; cases h
  | some j =>
    rw [e] at h
    obtain ⟨h1, h2, h3, h4⟩ := ixN_seq e
    exact ⟨j, h1, h, h2, h3, h4⟩
theorem atI_nat {α : Type} {xs : List α} {j : Nat} {v : α} (h : xs[j]? = some v) : atI xs (j : Int) = some v := by
  have hj : j < xs.length := (List.getElem?_eq_some_iff.mp h).1
  have e : ixN xs.length (j : Int) = some j := by
    unfold ixN
    rw [if_pos (by omega), if_pos (by omega)]; simp
  unfold atI; rw [e]; exact h

/-! ### what may be subscripted -/
/-- what stands as an index of a plain subscript -/
def PlainIx (b : Expr) : Prop := ∀ o i, subscripted b false o i = operate [o, i] (getItem o i)
/-- a subscript by values -/
def IxR (X : Cx) (r : R2) : Prop :=
  ∀ (value slice : Expr) (pins : List (Addr × Obj)) (s : Shared) (σ : St) (H : Hp) (x y : V) (v u : Value) (Q : VK), Inv X pins σ H s → RelV x v → RelV y u → r x y H Q →
    subscripted slice false v u = operate [v, u] (getItem v u) → wpAny (model X.prog X.w) X.A (subscriptTail value slice v u) (EP X pins σ Q) X.xe s
/-- a call of a builtin's method by values: the receiver, the arguments -/
def MtR (X : Cx) (id : String) (r : V → List V → Hp → VK → Prop) : Prop :=
  ∀ (pins : List (Addr × Obj)) (s : Shared) (σ : St) (H : Hp) (x : V) (xs : List V) (v : Value) (us : List Value) (Q : VK), Inv X pins σ H s → RelV x v → Vals xs us → r x xs H Q →
    wpAny (model X.prog X.w) X.A (call (.builtin id) (v :: us)) (EP X pins σ Q) X.xe s
section
variable {X : Cx} {a b : Expr} {ta tb : TE} {pos : Pos}

/-- a[b] -/
theorem pe_ix {r : R2} (hr : IxR X r) (ha : PE X a ta) (hb : PE X b tb) (hs : PlainIx b) : PE X (.Subscript a b pos) (tOp r ta tb) := by
  intro pins s σ H Q I h
  exact Subscript_ (binT ha hb I h fun v u s2 x y H2 I2 rx ry q => hr a b pins s2 σ H2 x y v u Q I2 rx ry q (hs _ _))

def rIxL (K : PySem.W.Frag) : R2 := fun x y H Q => ∃ p xs i v, x = .ref p ∧ y = .int i ∧ SqL K H p xs ∧ atI xs i = some v ∧ Q v H

theorem ix_list : IxR X (rIxL X.K) := by
  intro value slice pins s σ H x y v u Q I rx ry h hs
  obtain ⟨p, xs, i, z, rfl, rfl, hq, he, q⟩ := h
  cases rx
  obtain ⟨t, rfl⟩ := ry
  obtain ⟨its, r, pl, hz⟩ := I.list hq
  obtain ⟨j, h1, h2, h3, h4, h5⟩ := atI_get he
  obtain ⟨w, ew, rw'⟩ := r.get h2
  have hl := r.length
  have hn := line63
  have fin : EP X pins σ Q w s := ⟨z, H, I, rw', q⟩
  by_cases h0 : 0 ≤ i
  · have hj : i.toNat = j := by
      rw [seqIndex_of h0 h5] at h1
      exact Option.some.inj h1
    exact item_listR pl.isList h0 (by omega) (by rw [hj]; simpa using ew) fin hs
  · have hj : (i + (its.toArray.size : Int)).toNat = j := by
      rw [seqIndex_neg (by omega) h4] at h1
      rw [List.size_toArray, ← hl]
      exact Option.some.inj h1
    exact subscriptTail_builtinR (x := w) pl.isList.typeIs slot_list_getitem.lookup
      (wpAny_getItem_list_neg (Q := fun r s' => r = w ∧ EP X pins σ Q r s') pl.isList (by omega) (by rw [List.size_toArray] <;> omega) (by omega) (by rw [hj]; simpa using ew) ⟨rfl, fin⟩) hs

/-! ### xs[i] = v, any sign -/
/-- the list's object behind a store -/
theorem mapSeq_set (its : List Value) (n j : Nat) (u : Value) : Obj.mapSeq (·.setIfInBounds j u) { cls := .type "list", data := .seq its.toArray n } = { cls := .type "list", data := .seq (its.set j u).toArray n } := by
  simp [Obj.mapSeq]
theorem Inv.lst {pins : List (Addr × Obj)} {σ : St} {H : Hp} {s : Shared} {p : Addr} {xs : List V} (I : Inv X pins σ H s) (h : H p = some (.lst xs)) :
    ∃ (its : List Value) (n : Nat), Vals xs its ∧ s.heap.get? p = some { cls := .type "list", data := .seq its.toArray n } ∧ xs.length ≤ sizeLine := by
  obtain ⟨z, its, n, r, e⟩ := I.hok p _ h
  exact ⟨its, n, r, e, z⟩
/-- the list at p is written by an update of its object -/
theorem Inv.lstUpd {pins : List (Addr × Obj)} {σ : St} {H : Hp} {s : Shared} {p : Addr} {xs ys : List V} {its its' : List Value} {n n' : Nat} {f : Obj → Obj} (I : Inv X pins σ H s) (h : H p = some (.lst xs))
    (ho : s.heap.get? p = some { cls := .type "list", data := .seq its.toArray n }) (hf : f { cls := .type "list", data := .seq its.toArray n } = { cls := .type "list", data := .seq its'.toArray n' }) (r : Vals ys its') (hz : ys.length ≤ sizeLine) (t : Nat) :
    Inv X pins σ (upd H p (.lst ys)) { s with heap := s.heap.update p f, toks := t } := by
  have e : (s.heap.update p f).get? p = some { cls := .type "list", data := .seq its'.toArray n' } := by
    rw [Heap.get?_update_self f ho (by rw [hf] <;> rfl), hf]
  refine I.write (x := p) (e := p) (by rw [h]; trivial) (.inl rfl) (fun b u hb q => (Heap.get?_update_other _ _ (Ne.symm hb)).trans q) ⟨_, e⟩ ?_
  exact ⟨hz, its', n', r, e⟩
def rSetL : V → V → V → Hp → (Hp → Prop) → Prop := fun o i v H Q => ∃ p xs k j, o = .ref p ∧ i = .int k ∧ H p = some (.lst xs) ∧ ixN xs.length k = some j ∧ Q (upd H p (.lst (xs.set j v)))
theorem set_list : PSet X rSetL := by
  intro pins s σ H o i v ov iv u Q I ro ri rv h
  obtain ⟨p, xs, k, j, rfl, rfl, hp, hj, q⟩ := h
  cases ro
  obtain ⟨t, rfl⟩ := ri
  obtain ⟨its, n, r, ho, hz⟩ := I.lst hp
  obtain ⟨h1, h2, h3, h4⟩ := ixN_seq hj
  have hl := r.length
  have hn := line63
  have I' : Inv X pins σ (upd H p (.lst (xs.set j v))) { s with heap := s.heap.update p (Obj.mapSeq (·.setIfInBounds j u)) } :=
    I.lstUpd hp ho (mapSeq_set its n j u) (r.set rv j) (by rw [List.length_set]; exact hz) s.toks
  by_cases h0 : 0 ≤ k
  · have hk : k.toNat = j := by
      rw [seqIndex_of h0 h4] at h1
      exact Option.some.inj h1
    exact PySem.W.ki_setAt ho h0 (by omega) (by rw [List.size_toArray, ← hl]; exact h4) (by rw [hk]; exact ⟨_, I', q⟩)
  · have hk : (k + (its.toArray.size : Int)).toNat = j := by
      rw [seqIndex_neg (by omega) h3] at h1
      rw [List.size_toArray, ← hl]
      exact Option.some.inj h1
    exact PySem.W.ki_setBack ho (by omega) (by rw [List.size_toArray, ← hl]; exact h3) (by omega) (by rw [hk]; exact ⟨_, I', q⟩)

/-! ### slices -/
theorem slice_bounds (lo hi : Option Int) (n : Nat) : (sliceBounds lo hi none n).1 = ((HT.sIx n 0 lo : Nat) : Int) ∧ (sliceBounds lo hi none n).2.1 = ((HT.sIx n n hi : Nat) : Int) ∧ (sliceBounds lo hi none n).2.2 = 1 := by
  refine ⟨?_, ?_, rfl⟩
  · cases lo with
    | none => simp [sliceBounds, HT.sIx]
    | some i =>
      simp only [sliceBounds, HT.sIx, Option.getD_none, show (1 : Int) > 0 by decide, if_true]
      by_cases h : i < 0
      · simp only [h, if_true] <;> omega
      · simp only [h, if_false] <;> omega
  · cases hi with
    | none => simp [sliceBounds, HT.sIx]
    | some i =>
      simp only [sliceBounds, HT.sIx, Option.getD_none, show (1 : Int) > 0 by decide, if_true]
      by_cases h : i < 0
      · simp only [h, if_true] <;> omega
      · simp only [h, if_false] <;> omega
theorem slicePick_cut (its : List Value) (lo hi : Option Int) : slicePick its.toArray lo hi none = ((its.drop (HT.sIx its.length 0 lo)).take (HT.sIx its.length its.length hi - HT.sIx its.length 0 lo)).toArray := by
  obtain ⟨h1, h2, h3⟩ := slice_bounds lo hi its.toArray.size
  unfold slicePick
  rw [h1, h2, h3]
  simp only [sliceRange_one, pick_run, List.size_toArray] <;> rfl
/-- xs[lo:hi] of a list: a new list -/
def rSlL (K : PySem.W.Frag) : V → Option Int → Option Int → Hp → VK → Prop := fun x lo hi H Q => ∃ a xs, x = .ref a ∧ SqL K H a xs ∧ ∀ p, H p = none → Q (.ref p) (upd H p (.lst (cutV xs lo hi)))
theorem sl_list : SlR X (rSlL X.K) := by
  intro pins s σ H x v vl vu lo hi sl Q I rx hs pl pu h
  obtain ⟨a, xs, rfl, hx, q⟩ := h
  cases rx
  obtain ⟨its, r, ht, hz⟩ := I.list hx
  have hlen := r.length
  refine ⟨"list", _, slot_list_getitem.lookup, ht.isList.typeIs, ?_⟩
  refine wpAny_getItem_list_slice ht.isList hs pl pu .none (by simp) ?_ (by rw [List.size_toArray] <;> omega)
  rw [slicePick_cut, ← hlen]
  refine ⟨.ref s.heap.objs.size, _, I.laid (t' := s.toks) (o := .lst (cutV xs lo hi)) (fun b ob q => Heap.get?_push_of_some _ q) (Nat.le_refl _) ?_, rfl, q _ (I.hok.fresh (Nat.le_refl _))⟩
  exact ⟨Nat.le_trans (cutV_length xs lo hi) hz, _, 0, (r.drop (HT.sIx xs.length 0 lo)).take (HT.sIx xs.length xs.length hi - HT.sIx xs.length 0 lo), Heap.get?_push_size _ rfl⟩

/-! ### in, not in: flat items -/
def flatV : V → Bool
  | .non => true
  | .bl _ => true
  | .int _ => true
  | .str _ => true
  | _ => false
/-- == of flat values -/
def eqV : V → V → Bool
  | .non, .non => true
  | .bl a, .bl b => a == b
  | .bl a, .int b => (if a then 1 else 0) == b
  | .int a, .bl b => a == (if b then 1 else 0)
  | .int a, .int b => a == b
  | .str a, .str b => a == b
  | _, _ => false
theorem eqAt_V {A : Around} {s : Shared} {y x : V} {u v : Value} (ry : RelV y u) (rx : RelV x v) (fy : flatV y = true) (fx : flatV x = true) : SeqAt.EqAt A s u v (eqV y x) := by
  cases y with
  | non =>
    cases ry
    cases x with
    | non => cases rx; exact SeqAt.EqAt.same _
    | bl b => cases rx; exact SeqAt.EqAt.none_bool b
    | int b => obtain ⟨t, rfl⟩ := rx; exact SeqAt.EqAt.none_int b t
    | str b => obtain ⟨t, rfl⟩ := rx; exact SeqAt.EqAt.none_str b t
    | _ => exact absurd (show false = true from fx) Bool.false_ne_true
  | bl a =>
    cases ry
    cases x with
    | non => cases rx; exact SeqAt.EqAt.bool_none a
    | bl b => cases rx; exact SeqAt.EqAt.bool_bool a b
    | int b => obtain ⟨t, rfl⟩ := rx; exact SeqAt.EqAt.bool_int a b t
    | str b => obtain ⟨t, rfl⟩ := rx; exact SeqAt.EqAt.bool_str a b t
    | _ => exact absurd (show false = true from fx) Bool.false_ne_true
  | int a =>
    obtain ⟨t', rfl⟩ := ry
    cases x with
    | non => cases rx; exact SeqAt.EqAt.int_none a t'
    | bl b => cases rx; exact SeqAt.EqAt.int_bool a t' b
    | int b => obtain ⟨t, rfl⟩ := rx; exact SeqAt.EqAt.int_int a t' b t
    | str b => obtain ⟨t, rfl⟩ := rx; exact SeqAt.EqAt.int_str a t' b t
    | _ => exact absurd (show false = true from fx) Bool.false_ne_true
  | str a =>
    obtain ⟨t', rfl⟩ := ry
    cases x with
    | non => cases rx; exact SeqAt.EqAt.str_none a t'
    | bl b => cases rx; exact SeqAt.EqAt.str_bool a t' b
    | int b => obtain ⟨t, rfl⟩ := rx; exact SeqAt.EqAt.str_int a t' b t
    | str b => obtain ⟨t, rfl⟩ := rx; exact SeqAt.EqAt.str_str a t' b t
    | _ => exact absurd (show false = true from fx) Bool.false_ne_true
  | _ => exact absurd (show false = true from fy) Bool.false_ne_true
/-- the items' answers, read off the values (a value's own answer does not lean on its token) -/
def eqU (x : V) (u : Value) : Bool := match u with
  | .none => eqV .non x
  | .bool b => eqV (.bl b) x
  | .int i _ => eqV (.int i) x
  | .str z _ => eqV (.str z) x
  | _ => false
theorem eqU_of {x y : V} {u : Value} (r : RelV y u) (f : flatV y = true) : eqU x u = eqV y x := by
  cases y with
  | non => cases r; rfl
  | bl b => cases r; rfl
  | int i => obtain ⟨t, rfl⟩ := r; rfl
  | str z => obtain ⟨t, rfl⟩ := r; rfl
  | _ => exact absurd (show false = true from f) Bool.false_ne_true

theorem mem_eqAt {A : Around} {s : Shared} {x : V} {v : Value} (rx : RelV x v) (fx : flatV x = true) : ∀ {xs : List V} {us : List Value}, Vals xs us → xs.all flatV = true → ∀ u ∈ us, SeqAt.EqAt A s u v (eqU x u)
  | _, _, .nil, _ => fun u hu => by cases hu
  | y :: xs, u :: us, .cons r t, f => fun u' hu => by
    rw [List.all_cons, Bool.and_eq_true] at f
    rcases List.mem_cons.mp hu with rfl | hu
    · rw [eqU_of r f.1]; exact eqAt_V r rx f.1 fx
    · exact mem_eqAt rx fx t f.2 u' hu

/-! ### len, list(x), tuple(x) of any list or tuple that is read -/
theorem call_len_seq : CallR X (.builtin "len") (fun xs H Q => ∃ p ys, xs = [.ref p] ∧ (SqL X.K H p ys ∨ SqT X.K H p ys) ∧ Q (.int ys.length) H) := by
  intro pins s σ H xs us Q I r h
  obtain ⟨p, ys, rfl, hq, q⟩ := h
  obtain ⟨u, rfl, rx⟩ := vals1 r
  cases rx
  have hn := line63
  rcases hq with hq | hq
  · obtain ⟨its, r', pl, hz⟩ := I.list hq
    have hlen := r'.length
    exact Calls.call_len_list pl.isList (by simp only [List.size_toArray] <;> omega) ⟨.int ys.length, H, I.tok _, ⟨s.toks + 1, by rw [List.size_toArray, hlen]⟩, q⟩
  · obtain ⟨its, r', pl, hz⟩ := I.tuple hq
    have hlen := r'.length
    exact len_tuple pl (by simp only [List.size_toArray] <;> omega) ⟨.int ys.length, H, I.tok _, ⟨s.toks + 1, by rw [List.size_toArray, hlen]⟩, q⟩

theorem call_list_of : CallR X (.type "list") (fun xs H Q => ∃ p ys, xs = [.ref p] ∧ (SqL X.K H p ys ∨ SqT X.K H p ys) ∧ ∀ l, H l = none → Q (.ref l) (upd H l (.lst ys))) := by
  intro pins s σ H xs us Q I r h
  obtain ⟨p, ys, rfl, hq, q⟩ := h
  obtain ⟨u, rfl, rx⟩ := vals1 r
  cases rx
  have fin : ∀ (its : List Value), Vals ys its → ys.length ≤ sizeLine → ∀ (h' : Heap) (c' : Nat), (∀ b o', s.heap.get? b = some o' → h'.get? b = some o') →
      h'.get? s.heap.objs.size = some { cls := .type "list", dict := none, data := .seq its.toArray c', slots := #[] } → EP X pins σ Q (.ref s.heap.objs.size) { s with heap := h' } := fun its r' hz h' c' kp e =>
    ⟨.ref s.heap.objs.size, _, I.laid (t' := s.toks) kp (Nat.le_refl _) (show ObjOk X.prog X.w _ h' _ (.lst ys) from ⟨hz, its, c', r', e⟩), rfl, q _ (I.hok.fresh (Nat.le_refl _))⟩
  rcases hq with hq | hq
  · obtain ⟨its, r', pl, hz⟩ := I.list hq
    have hlen := r'.length
    obtain ⟨o, ho, hc, n, hd⟩ := pl.isList
    exact call_list_seq p (.inl rfl) ho hc hd (fun h' c' kp e => fin its r' hz h' c' kp e) (by simp only [List.size_toArray] <;> omega)
  · obtain ⟨its, r', pl, hz⟩ := I.tuple hq
    have hlen := r'.length
    obtain ⟨o, ho, hc, n, hd⟩ := pl
    exact call_list_seq p (.inr rfl) ho hc hd (fun h' c' kp e => fin its r' hz h' c' kp e) (by simp only [List.size_toArray] <;> omega)
theorem call_tuple_of : CallR X (.type "tuple") (fun xs H Q => ∃ p ys, xs = [.ref p] ∧ ((SqL X.K H p ys ∧ ∀ l, H l = none → Q (.ref l) (upd H l (.tup ys))) ∨ (SqT X.K H p ys ∧ Q (.ref p) H))) := by
  intro pins s σ H xs us Q I r h
  obtain ⟨p, ys, rfl, h⟩ := h
  obtain ⟨u, rfl, rx⟩ := vals1 r
  cases rx
  rcases h with ⟨hq, q⟩ | ⟨hq, q⟩
  · obtain ⟨its, r', pl, hz⟩ := I.list hq
    have hlen := r'.length
    refine call_tuple_list pl.isList (fun h' kp => ?_) (by simp only [List.size_toArray] <;> omega)
    have I1 : Inv X pins σ H { s with heap := h' } := I.kept (t' := s.toks) kp
    have I2 : Inv X pins σ (upd H h'.objs.size (.tup ys)) { s with heap := h'.push { cls := .type "tuple", data := .seq its.toArray } } :=
      I1.laid (t' := s.toks) (fun b o e => Heap.get?_push_of_some _ e) (Nat.le_refl _) (show ObjOk X.prog X.w _ _ _ (.tup ys) from ⟨hz, its, r', IsTup.new _ _⟩)
    exact ⟨.ref h'.objs.size, _, I2, rfl, q _ (I1.hok.fresh (Nat.le_refl _))⟩
  · obtain ⟨its, r', pl, hz⟩ := I.tuple hq
    exact call_tuple_same pl ⟨.ref p, H, I, rfl, q⟩

/-! ### the call of a builtin's method: o.m(..) -/
/-- the value is of that builtin type -/
def tyV (K : PySem.W.Frag) (T : String) (x : V) (H : Hp) : Prop := match x with
  | .str _ => T = "str"
  | .int _ => T = "int"
  | .ref p => (T = "list" ∧ ∃ xs, SqL K H p xs) ∨ (T = "tuple" ∧ ∃ o, K.lookup p = some o ∧ o.cls = .type "tuple" ∧ o.dict = none) ∨
      (T = "dict" ∧ ((∃ kvs, H p = some (.dK kvs)) ∨ ∃ kvs, H p = some (.dT kvs))) ∨ (T = "set" ∧ ∃ S n, H p = some (.set S n))
  | _ => False
theorem tyV_is {pins : List (Addr × Obj)} {σ : St} {H : Hp} {s : Shared} {T : String} {x : V} {v : Value} (I : Inv X pins σ H s) (r : RelV x v) (ty : tyV X.K T x H) :
    s.TypeIs v T ∧ ∀ a, v = .ref a → ∃ ob, s.heap.get? a = some ob ∧ ob.dict = none := by
  cases x with
  | str z =>
    obtain ⟨t, rfl⟩ := r
    cases (show T = "str" from ty)
    exact ⟨typeIs_str s z t, fun _ e => nomatch e⟩
  | int i =>
    obtain ⟨t, rfl⟩ := r
    cases (show T = "int" from ty)
    exact ⟨typeIs_int s i t, fun _ e => nomatch e⟩
  | ref p =>
    cases r
    rcases ty with ⟨rfl, xs, hq⟩ | ⟨rfl, o, hk, hc, hd⟩ | ⟨rfl, hk⟩ | ⟨rfl, S, n, hk⟩
    · obtain ⟨its, _, pl, _⟩ := I.list hq
      refine ⟨pl.isList.typeIs, fun a e => ?_⟩
      cases e
      obtain ⟨o, n, e, c, hd, _⟩ := pl
      exact ⟨o, e, hd⟩
    · refine ⟨⟨o, I.kIn p o hk, hc⟩, fun a e => ?_⟩
      cases e
      exact ⟨o, I.kIn _ o hk, hd⟩
    · have z : ∃ o, s.heap.get? p = some o ∧ o.ExactDict := by
        rcases hk with ⟨kvs, hk⟩ | ⟨kvs, hk⟩
        · obtain ⟨_, _, _, _, o, _, _, e, ex, _⟩ := I.hok p _ hk
          exact ⟨o, e, ex⟩
        · obtain ⟨_, _, _, _, o, _, _, e, ex, _⟩ := I.hok p _ hk
          exact ⟨o, e, ex⟩
      obtain ⟨o, e, ex⟩ := z
      refine ⟨⟨o, e, ex.1⟩, fun a e2 => ?_⟩
      cases e2
      exact ⟨o, e, ex.2.1⟩
    · obtain ⟨o, _, _, _, e, ex, _⟩ := I.hok p _ hk
      refine ⟨⟨o, e, ex.1⟩, fun a e2 => ?_⟩
      cases e2
      exact ⟨o, e, ex.2.1⟩
  | _ => exact False.elim ty

def tBM (K : PySem.W.Frag) (T : String) (r : V → List V → Hp → VK → Prop) (to : TE) (t : TA) : TE := fun σ H Q => to σ H fun x H1 => tyV K T x H1 ∧ t σ H1 fun xs H2 => r x xs H2 Q
variable {o e : Expr} {es : List Expr} {to : TE} {t : TA} {name : Str} {apos cpos : Pos} {T id : String} {r : V → List V → Hp → VK → Prop}

theorem pe_bm (pa : PlainAttrs T) (slot : Slot T name id) (hty : typeOf (.builtin id) = pure (.type "method_descriptor")) (hm : MtR X id r) (ho : PE X o to) (ha : PA X (e :: es) t)
    (hbase : attributeBase o name X.env (eval o X.env) = eval o X.env := by rfl)
    (hfew : ((backTo cpos (starEach (e :: es) X.env)).all (fun x => !x.1) && (backToKw cpos (keywordEach [] X.env)).all (fun x => x.1.isSome)
      && decide ((e :: es).length + ([] : List Keyword).length + (if ([] : List Keyword).isEmpty then 0 else 1) < 30)) = true := by rfl)
    (hline : (apos.endLine == cpos.line) = true := by rfl) (hs : starEach (e :: es) X.env = (false, eval e X.env) :: starEach es X.env := by rfl) (hplain : (backTo cpos (starEach es X.env)).any (·.1) = false := by rfl) :
    PE X (.Call (.Attribute o name apos) (e :: es) [] cpos) (tBM X.K T r to t) := by
  intro pins s σ H Q I h
  refine wpAny_Call_method_late hbase hfew hline rfl (thn (ho pins s σ H _ I h) fun v s1 ⟨x, H1, I1, r1, ty, q1⟩ => ?_)
  obtain ⟨h1, h2⟩ := tyV_is I1 r1 ty
  refine ⟨T, id, pa, slot, hty, h1, h2, ?_⟩
  have hA := ha cpos pins s1 σ H1 _ I1 q1
  rw [hs] at hA ⊢
  refine Calls.callWith_builtin (by show (false || (backTo cpos (starEach es X.env)).any (·.1)) = false; rw [hplain] <;> rfl) (Calls.evalArgs_plain ?_)
  exact thn hA fun us s2 ⟨vs, H2, I2, r2, q2⟩ => hm pins s2 σ H2 x vs v us Q I2 r1 r2 q2
/- xs.append(e), list.index on a module's tuple .. are MtR facts of 06m -/
end
end L2

namespace L2
open PySem PySem.Spec PyProof.Rows

def MtM (X : Cx) (id : String) (r : V → List V → Hp → VK → Prop) : Prop :=
  ∀ (pins : List (Addr × Obj)) (s : Shared) (σ : St) (H : Hp) (x : V) (xs : List V) (v : Value) (us : List Value) (Q : VK), Inv X pins σ H s → RelV x v → Vals xs us → r x xs H Q →
    wpAny (model X.prog X.w) X.A (call (.builtin id) (v :: us)) (EP X pins σ Q) X.xe s

/-! ### lists of values -/
theorem Vals.one : ∀ {x : V} {us : List Value}, Vals [x] us → ∃ u, us = [u] ∧ RelV x u
  | _, _, .cons r .nil => ⟨_, rfl, r⟩

theorem Vals.rep {xs : List V} {us : List Value} (h : Vals xs us) : ∀ k : Nat, Vals (List.replicate k xs).flatten (List.replicate k us).flatten
  | 0 => .nil
  | k + 1 => by
    rw [List.replicate_succ, List.replicate_succ, List.flatten_cons, List.flatten_cons]
    exact Vals.append h (Vals.rep h k)

theorem foldl_rep (its : List Value) : ∀ (k : Nat) (acc : List Value),
    List.foldl (fun x1 x2 => x1 ++ x2) acc.toArray (List.replicate k its.toArray) = (acc ++ (List.replicate k its).flatten).toArray
  | 0, acc => by simp
  | k + 1, acc => by
    have e : acc.toArray ++ its.toArray = (acc ++ its).toArray := by simp
    have e2 : (acc ++ its) ++ (List.replicate k its).flatten = acc ++ (List.replicate (k + 1) its).flatten := by
      rw [List.replicate_succ, List.flatten_cons, List.append_assoc]
    rw [← e2, ← foldl_rep its k (acc ++ its), ← e, List.replicate_succ, List.foldl_cons]

section
variable {X : Cx} {pins : List (Addr × Obj)} {σ : St} {H : Hp} {s : Shared} {l b : Addr} {xs ys zs : List V}

/-! ### the two steps: a tracked list is rewritten, a new list is laid -/
theorem Inv.lset {its its' : List Value} {n : Nat} {f : Array Value → Array Value} {t' : Nat} (I : Inv X pins σ H s) (hH : H l = some (.lst xs))
    (e : s.heap.get? l = some { cls := .type "list", data := .seq its.toArray n }) (hf : f its.toArray = its'.toArray) (hv : Vals ys its') (hz : ys.length ≤ sizeLine) :
    Inv X pins σ (upd H l (.lst ys)) { s with heap := s.heap.update l (Obj.mapSeq f), toks := t' } := by
  have q := PySem.IsL.update e f
  rw [hf] at q
  refine I.write (x := l) (e := l) (by rw [hH]; exact trivial) (.inl rfl) (fun b' u hb hu => (Heap.get?_update_other s.heap (Obj.mapSeq f) (Ne.symm hb)).trans hu) ⟨_, q⟩ ?_
  exact ⟨hz, its', _, hv, q⟩
theorem Inv.lnew {its : List Value} {t' : Nat} (I : Inv X pins σ H s) (hv : Vals ys its) (hz : ys.length ≤ sizeLine) :
    Inv X pins σ (upd H s.heap.objs.size (.lst ys)) { s with heap := s.heap.push { cls := .type "list", data := .seq its.toArray }, toks := t' } :=
  I.laid (fun _ _ q => Heap.get?_push_of_some _ q) (Nat.le_refl _) ⟨hz, its, 0, hv, Heap.get?_push_size _ rfl⟩
theorem Inv.fresh (I : Inv X pins σ H s) : H s.heap.objs.size = none := I.hok.fresh (Nat.le_refl _)
theorem Inv.lstM (I : Inv X pins σ H s) (hH : H l = some (.lst xs)) : xs.length ≤ sizeLine ∧ ∃ (its : List Value) (n : Nat), Vals xs its ∧ xs.length = its.length ∧ s.heap.get? l = some { cls := .type "list", data := .seq its.toArray n } := by
  obtain ⟨z, its, n, r, e⟩ := I.hok l _ hH
  exact ⟨z, its, n, r, r.length, e⟩

theorem notLongL {n : Nat} (h : n ≤ sizeLine) : Builtin.List.listTooLong n = false := by
  unfold Builtin.List.listTooLong
  exact decide_eq_false (by omega)
end

section
variable {X : Cx}

/-! ### methods -/
def rAppend : V → List V → Hp → VK → Prop := fun x vs H Q => ∃ l xs y, x = .ref l ∧ vs = [y] ∧ H l = some (.lst xs) ∧ xs.length < sizeLine ∧ Q .non (upd H l (.lst (xs ++ [y])))
theorem mt_append : MtM X "list.append" rAppend := by
  intro pins s σ H x vs v us Q I rx rv h
  obtain ⟨l, xs, y, rfl, rfl, hH, hz, q⟩ := h
  cases rx
  obtain ⟨u, rfl, ru⟩ := rv.one
  obtain ⟨z, its, n, r, hl, e⟩ := I.lstM hH
  refine call_meets F.slot_list_append ⟨_, e, rfl⟩ F.entry_list_append (F.args_list_append_2 _ _) (PySem.list_append l its.toArray n u (by rw [List.size_toArray]; omega)) ⟨e, ?_⟩
  refine ⟨.non, _, I.lset (its' := its ++ [u]) hH e (by simp) (r.append (.cons ru .nil)) ?_, rfl, q⟩
  rw [List.length_append, List.length_singleton]
  omega

/-! ### list + list, list += list, list * int -/

/-- a list times an int (a negative one is nothing) -/
def rRep : R2 := fun x y H Q => ∃ l k xs, x = .ref l ∧ y = .int k ∧ H l = some (.lst xs) ∧ -(2 ^ 63) ≤ k ∧ k < 2 ^ 63 ∧ xs.length * k.toNat ≤ sizeLine ∧
  ∀ p, H p = none → Q (.ref p) (upd H p (.lst (List.replicate k.toNat xs).flatten))
theorem len_rep {α : Type} (xs : List α) (k : Nat) : (List.replicate k xs).flatten.length = k * xs.length := by
  induction k with
  | zero => simp
  | succ k ih => rw [List.replicate_succ, List.flatten_cons, List.length_append, ih, Nat.succ_mul, Nat.add_comm]
theorem op_rep : OpR X (binaryOp .Mult) rRep := by
  intro pins s σ H x y v u Q I rx ry h
  obtain ⟨l, k, xs, rfl, rfl, hH, h1, h2, hz, q⟩ := h
  cases rx
  obtain ⟨t, rfl⟩ := ry
  obtain ⟨z, its, n, r, hl, e⟩ := I.lstM hH
  have hlen : its.toArray.size * k.toNat ≤ sizeLine := by rw [List.size_toArray, ← hl]; exact hz
  have hcap : ¬ its.toArray.size * k.toNat > (2 ^ 63 - 1) / 8 := by
    have : (sizeLine : Nat) ≤ (2 ^ 63 - 1) / 8 := by decide
    omega
  have hfit : ¬ (!Builtin.List.listFitsIndex k) = true := by
    rw [fitsIndex_both h1 h2]
    exact Bool.false_ne_true
  have hlong : ¬ Builtin.List.listTooLong (its.toArray.size * k.toNat) = true := by
    rw [notLongL hlen]
    exact Bool.false_ne_true
  have hnew : List.foldl (fun x1 x2 => x1 ++ x2) #[] (List.replicate (if its.toArray.isEmpty = true then 0 else k.toNat) its.toArray) = (List.replicate k.toNat its).flatten.toArray := by
    have f0 : ∀ m : Nat, List.foldl (fun x1 x2 => x1 ++ x2) #[] (List.replicate m its.toArray) = (List.replicate m its).flatten.toArray := fun m => by
      have := foldl_rep its m []
      rw [List.nil_append] at this
      exact this
    rw [f0]
    cases its with
    | nil => simp
    | cons a r' => rw [if_neg (by simp)]
  refine wpAny_binaryOp_repeat_ref (T := "list") (U := "int") (by decide) ⟨_, e, rfl⟩ (fun s' => typeIs_int s' k t) noFill_list_mul F.fills_int_mul F.slot_int_rmul repeat_list F.slot_int_index.lookup
    (call_meets F.slot_int_rmul (typeIs_int s k t) F.entry_int_rmul (F.args_int_rmul_2 _ _) (int___rmul___int_list k t l its.toArray n)
      ⟨e, rfl, ⟨_, e, rfl⟩, call_meets F.slot_list_mul ⟨_, e, rfl⟩ F.entry_list_mul (F.args_list_mul_2 _ _) (AutoListH.list___mul___list_int_3 l its.toArray n k t hfit hcap hlong) ⟨e, ?_⟩⟩)
  rw [hnew]
  exact ⟨.ref _, _, I.lnew (t' := s.toks) (r.rep k.toNat) (by rw [len_rep, Nat.mul_comm]; exact hz), rfl, q _ I.fresh⟩

/-! ### del xs[i] -/

end

/-! ### xs[a:b] = ys -/
section
variable {prog : Program} {w : World} {A : Around} {E : Value → Shared → Prop} {s : Shared}

end

section
variable {X : Cx}

end
end L2

namespace L2
open PySem PySem.Spec PyProof.Rows

theorem Vals.ints : ∀ {ns : List Int} {us : List Value}, Vals (ns.map V.int) us → IntsAre us ns
  | [], us, h => by
    rw [List.map_nil] at h
    cases h
    exact IntsAre.nil
  | n :: ns, us, h => by
    rw [List.map_cons] at h
    cases h with
    | cons r t =>
      obtain ⟨k, rfl⟩ := r
      exact IntsAre.cons n k (Vals.ints t)
theorem vals_of_ints : ∀ {us : List Value} {ns : List Int}, IntsAre us ns → Vals (ns.map V.int) us
  | _, _, .nil => by rw [List.map_nil]; exact Paired.nil
  | _, _, .cons n t h => by rw [List.map_cons]; exact Paired.cons (show RelV (V.int n) (Value.int n t) from ⟨t, rfl⟩) (vals_of_ints h)

theorem Vals.ref1 {a : Addr} {us : List Value} (r : Vals [V.ref a] us) : us = [Value.ref a] := by
  cases r with
  | cons r t =>
    cases t
    cases r
    rfl

/-! ### the library's walks over a list of ints, kept objects alone -/
section
variable {prog : Program} {w : World} {A : Around} {E : Value → Shared → Prop} {s : Shared} {l : Addr} {its : List Value} {ns : List Int} {Q : Value → Shared → Prop}

end

/-! ### the calls, by values (CallR of 03t; MtR of 06l) -/
section
variable {X : Cx}

/-! sorted, sort (fewer than 64 items: the library's own bound) -/

theorem small64 {n : Nat} (h : n < 64) : n ≤ sizeLine := by rw [sizeLine_eq]; omega

end

/-! ### list.index, flat items -/
section
variable {X : Cx}

theorem flat_at {ys : List V} (f : ys.all flatV = true) {j : Nat} {z : V} (h : ys[j]? = some z) : flatV z = true := List.all_eq_true.mp f z (List.mem_of_getElem? h)

end

/-! ### type(x) of an own instance; is, is not of a module's class -/
section
variable {X : Cx}

end

/-! ### any(xs), all(xs) of a list of bools -/

section
variable {X : Cx}

end

/-! ### == and != of data at any depth: none, bools, ints, texts, lists, tuples -/
mutual
inductive Dp (K : PySem.W.Frag) (H : Hp) : V → PyData → Prop
  | non : Dp K H .non .none
  | bl (b : Bool) : Dp K H (.bl b) (.bool b)
  | int (i : Int) : Dp K H (.int i) (.int i)
  | str (x : Str) : Dp K H (.str x) (.str x)
  | lst {a : Addr} {xs : List V} {ds : List PyData} : SqL K H a xs → DpAll K H xs ds → Dp K H (.ref a) (.list ds)
  | tup {a : Addr} {xs : List V} {ds : List PyData} : SqT K H a xs → DpAll K H xs ds → Dp K H (.ref a) (.tuple ds)
inductive DpAll (K : PySem.W.Frag) (H : Hp) : List V → List PyData → Prop
  | nil : DpAll K H [] []
  | cons {v : V} {vs : List V} {d : PyData} {ds : List PyData} : Dp K H v d → DpAll K H vs ds → DpAll K H (v :: vs) (d :: ds)
end
section
variable {X : Cx} {pins : List (Addr × Obj)} {σ : St} {H : Hp} {s : Shared}
mutual
theorem Dp.reads (I : Inv X pins σ H s) : ∀ (d : PyData) (v : V) (u : Value), Dp X.K H v d → RelV v u → ∃ as, Reads s.heap u d as
  | .none, _, _, h, r => by
    cases h
    cases r
    exact ⟨_, Reads.none⟩
  | .bool b, _, _, h, r => by
    cases h
    cases r
    exact ⟨_, Reads.bool b⟩
  | .int i, _, _, h, r => by
    cases h
    obtain ⟨t, rfl⟩ := r
    exact ⟨_, Reads.int i t⟩
  | .str x, _, _, h, r => by
    cases h
    obtain ⟨t, rfl⟩ := r
    exact ⟨_, Reads.str x t⟩
  | .list ds, _, _, h, r => by
    cases h with
    | lst hs ha =>
      cases r
      obtain ⟨its, rv, ⟨o, n, ho, hc, _, hd⟩, _⟩ := I.list hs
      obtain ⟨as, hr⟩ := Dp.readsAll I ds _ its ha rv
      exact ⟨_, Reads.list ho hc hd hr⟩
  | .tuple ds, _, _, h, r => by
    cases h with
    | tup hs ha =>
      cases r
      obtain ⟨its, rv, ⟨o, ho, hc, n, hd⟩, _⟩ := I.tuple hs
      obtain ⟨as, hr⟩ := Dp.readsAll I ds _ its ha rv
      exact ⟨_, Reads.tuple ho hc hd hr⟩
  | .dict _, _, _, h, _ => by cases h
theorem Dp.readsAll (I : Inv X pins σ H s) : ∀ (ds : List PyData) (vs : List V) (us : List Value), DpAll X.K H vs ds → Vals vs us → ∃ as, ReadsAll s.heap us ds as
  | [], _, _, h, r => by
    cases h
    cases r
    exact ⟨_, ReadsAll.nil⟩
  | d :: ds, _, _, h, r => by
    cases h with
    | cons h1 h2 =>
      cases r with
      | cons r1 r2 =>
        obtain ⟨as, q1⟩ := Dp.reads I d _ _ h1 r1
        obtain ⟨bs, q2⟩ := Dp.readsAll I ds _ _ h2 r2
        exact ⟨_, ReadsAll.cons q1 q2⟩
end
end
section
variable {X : Cx}
def rEqD (K : PySem.W.Frag) : R2 := fun x y H Q => ∃ d e, Dp K H x d ∧ Dp K H y e ∧ SeqAt.shaped d = true ∧ SeqAt.shaped e = true ∧ Q (.bl (PyData.eqv d e)) H

theorem op_eqD (hu : X.A.units + 64 < cLine) : OpR X (compareOp .Eq) (rEqD X.K) := by
  intro pins s σ H x y v u Q I rx ry h
  obtain ⟨d, e, hd, he, sd, se, q⟩ := h
  obtain ⟨as, r1⟩ := Dp.reads I d x v hd rx
  obtain ⟨bs, r2⟩ := Dp.reads I e y u he ry
  exact SeqAt.compareEq_shaped r1 r2 sd se hu ⟨.bl _, H, I, rfl, q⟩

end
end L2

namespace L2
open PySem PySem.Spec PyProof.Rows
abbrev CellAt (h : Heap) (c : Addr) (v : Option Value) : Prop := h.IsCell c v
def relS (scope sc : Scope) : Scope :=
  { scope with names := scope.names.map fun (n, k) => if (k == .free && sc.kind == .function && sc.names.lookup n == some .cell) then (n, .cell) else (n, k) }

def cloFrom (cells : List (Str × Addr)) : List (Str × NameKind) → List (Str × Addr) → List (Str × Addr)
  | [], acc => acc
  | (n, k) :: r, acc => if k == .free then cloFrom cells r ((n, (cells.lookup n).getD 0) :: acc) else cloFrom cells r acc

theorem closure_loop (env : Env) (f : Str × NameKind → List (Str × Addr) → Sem (ForInStep (List (Str × Addr))))
    (hf : ∀ n k c, f (n, k) c = if k == .free then (do let a ← cellOf env n; pure (.yield ((n, a) :: c))) else pure (.yield c)) :
    ∀ (names : List (Str × NameKind)) (acc : List (Str × Addr)), (∀ y ∈ names, y.2 = .free → ∃ c, env.cells.lookup y.1 = some c) → forIn names acc f = pure (cloFrom env.cells names acc)
  | [], acc, _ => by rw [List.forIn_nil]; rfl
  | (n, k) :: r, acc, h => by
    rw [List.forIn_cons, hf]
    have ih := fun acc => closure_loop env f hf r acc fun y hy => h y (List.mem_cons_of_mem _ hy)
    unfold cloFrom
    by_cases hk : (k == NameKind.free) = true
    · rw [if_pos hk, if_pos hk]
      obtain ⟨c, hc⟩ := h (n, k) List.mem_cons_self (by simpa using hk)
      have e : cellOf env n = pure c := by unfold cellOf; rw [hc]
      rw [e]
      have e2 : (env.cells.lookup n).getD 0 = c := by rw [hc]; rfl
      rw [e2]
      exact ih _
    · rw [if_neg hk, if_neg hk]
      exact ih _
theorem closure_ok {scope : Scope} {env : Env} (h : ∀ y ∈ scope.names, y.2 = .free → ∃ c, env.cells.lookup y.1 = some c) : closureFor scope env = pure (cloFrom env.cells scope.names []) := by
  simp only [closureFor]
  rw [closure_loop env _ (fun n k c => rfl) scope.names [] h]
  rfl

theorem mem_lookup {α : Type} : ∀ {l : List (Str × α)} {n : Str} {c : α}, (n, c) ∈ l → ∃ c', l.lookup n = some c'
  | (k, v) :: r, n, c, h => by
    rw [List.lookup_cons]
    cases hb : n == k with
    | true => exact ⟨_, rfl⟩
    | false =>
      rcases List.mem_cons.mp h with e | h
      · cases e; simp at hb
      · exact mem_lookup h

theorem cloFrom_mem {cells : List (Str × Addr)} : ∀ {names : List (Str × NameKind)} {acc : List (Str × Addr)} {n : Str} {c : Addr}, (n, c) ∈ cloFrom cells names acc → (n, c) ∈ acc ∨ ((n, .free) ∈ names ∧ c = (cells.lookup n).getD 0)
  | [], _, _, _, h => .inl h
  | (m, k) :: r, acc, n, c, h => by
    unfold cloFrom at h
    split at h
    · rename_i hk
      have hk : k = .free := by simpa using hk
      rcases cloFrom_mem h with h | ⟨h1, h2⟩
      · rcases List.mem_cons.mp h with e | h
        · cases e; exact .inr ⟨hk ▸ List.mem_cons_self, rfl⟩
        · exact .inl h
      · exact .inr ⟨List.mem_cons_of_mem _ h1, h2⟩
    · rcases cloFrom_mem h with h | ⟨h1, h2⟩
      · exact .inl h
      · exact .inr ⟨List.mem_cons_of_mem _ h1, h2⟩
theorem cloFrom_acc {cells : List (Str × Addr)} : ∀ {names : List (Str × NameKind)} {acc : List (Str × Addr)} {p : Str × Addr}, p ∈ acc → p ∈ cloFrom cells names acc
  | [], _, _, h => h
  | (m, k) :: r, acc, p, h => by
    unfold cloFrom
    split
    · exact cloFrom_acc (List.mem_cons_of_mem _ h)
    · exact cloFrom_acc h
theorem cloFrom_has {cells : List (Str × Addr)} : ∀ {names : List (Str × NameKind)} {acc : List (Str × Addr)} {n : Str}, (n, .free) ∈ names → (n, (cells.lookup n).getD 0) ∈ cloFrom cells names acc
  | (m, k) :: r, acc, n, h => by
    unfold cloFrom
    rcases List.mem_cons.mp h with e | h
    · cases e
      exact cloFrom_acc List.mem_cons_self
    · split
      · exact cloFrom_has h
      · exact cloFrom_has h

theorem cells_mem : ∀ {names : List (Str × NameKind)} {h : Heap} {acc : List (Str × Addr)} {x : Str} {c : Addr}, (x, c) ∈ cellsFrom h.objs.size names acc →
    (x, c) ∈ acc ∨ ((x, .cell) ∈ names ∧ h.objs.size ≤ c ∧ CellAt (pushCells h names) c none)
  | [], _, _, _, _, h => .inl h
  | (n, k) :: r, h, acc, x, c, hm => by
    unfold cellsFrom at hm
    unfold pushCells
    split at hm
    · rename_i hk
      rw [if_pos hk]
      have hk : k = .cell := by simpa using hk
      rw [← Heap.size_push h { cls := .type "cell", data := .cell none }] at hm
      rcases cells_mem hm with hm | ⟨h1, h2, h3⟩
      · rcases List.mem_cons.mp hm with e | hm
        · cases e
          exact .inr ⟨hk ▸ List.mem_cons_self, Nat.le_refl _, _, pushCells_keeps r _ _ _ (Heap.get?_push_size _ rfl), rfl⟩
        · exact .inl hm
      · rw [Heap.size_push] at h2
        exact .inr ⟨List.mem_cons_of_mem _ h1, Nat.le_of_succ_le h2, h3⟩
    · rename_i hk
      rw [if_neg hk]
      rcases cells_mem hm with hm | ⟨h1, h2, h3⟩
      · exact .inl hm
      · exact .inr ⟨List.mem_cons_of_mem _ h1, h2, h3⟩
theorem cells_acc : ∀ {names : List (Str × NameKind)} {n : Nat} {acc : List (Str × Addr)} {p : Str × Addr}, p ∈ acc → p ∈ cellsFrom n names acc
  | [], _, _, _, h => h
  | (m, k) :: r, n, acc, p, h => by
    unfold cellsFrom
    split
    · exact cells_acc (List.mem_cons_of_mem _ h)
    · exact cells_acc h
theorem cells_has : ∀ {names : List (Str × NameKind)} {n : Nat} {acc : List (Str × Addr)} {x : Str}, (x, .cell) ∈ names → ∃ c, (x, c) ∈ cellsFrom n names acc
  | (m, k) :: r, n, acc, x, h => by
    unfold cellsFrom
    rcases List.mem_cons.mp h with e | h
    · cases e
      exact ⟨n, cells_acc List.mem_cons_self⟩
    · split
      · exact cells_has h
      · exact cells_has h
theorem cells_inj : ∀ {names : List (Str × NameKind)} {h : Heap} {acc : List (Str × Addr)} {x y : Str} {c : Addr}, (∀ p ∈ acc, p.2 < h.objs.size) → (∀ x y c, (x, c) ∈ acc → (y, c) ∈ acc → x = y) →
    (x, c) ∈ cellsFrom h.objs.size names acc → (y, c) ∈ cellsFrom h.objs.size names acc → x = y
  | [], _, _, _, _, _, _, hi, h1, h2 => hi _ _ _ h1 h2
  | (n, k) :: r, h, acc, x, y, c, hl, hi, h1, h2 => by
    unfold cellsFrom at h1 h2
    split at h1
    · rename_i hk
      rw [if_pos hk] at h2
      rw [← Heap.size_push h { cls := .type "cell", data := .cell none }] at h1 h2
      refine cells_inj (h := h.push _) (fun p hp => ?_) (fun x y c a b => ?_) h1 h2
      · rw [Heap.size_push]
        rcases List.mem_cons.mp hp with rfl | hp
        · exact Nat.lt_succ_self _
        · exact Nat.lt_succ_of_lt (hl p hp)
      · rcases List.mem_cons.mp a with e | a <;> rcases List.mem_cons.mp b with e' | b
        · cases e; cases e'; rfl
        · cases e; exact absurd (hl _ b) (Nat.lt_irrefl _)
        · cases e'; exact absurd (hl _ a) (Nat.lt_irrefl _)
        · exact hi _ _ _ a b
    · rename_i hk
      rw [if_neg hk] at h2
      exact cells_inj hl hi h1 h2

theorem newEnv_comp {M : Model} {A : Around} {E : Value → Shared → Prop} {s : Shared} {scope : Scope} {globals : Addr} {closure : List (Str × Addr)} {qual : Str} {func : Option Addr} {code : Value} {around : Env} {builtins : Addr} {Q : Env → Shared → Prop}
    (h : Q (newEnv scope s.heap.objs.size globals (cellsFrom (s.heap.objs.size + 1) scope.names closure) qual func code (some around) builtins)
      { s with heap := pushCells (s.heap.push { cls := .type "dict", data := .dict #[] }) scope.names }) :
    wpAny M A (newFunctionEnv scope globals closure [] qual func code (some around) builtins) Q E s := by
  simp only [newFunctionEnv, Option.isSome_some, if_true]
  refine wpAny_bind (wpAny_alloc ?_)
  refine wpAny_bind (wpAny_layCells _ (fun n k c => rfl) scope.names closure _ _ ?_)
  rw [show ({ s with heap := s.heap.push { cls := .type "dict", data := .dict #[] } } : Shared).heap.objs.size = s.heap.objs.size + 1 from Heap.size_push ..]
  rw [List.forIn_nil]
  exact wpAny_bind (wpAny_pure (wpAny_pure h))

/-- every name of the written scope, in the scope that runs -/
theorem lookup_relS {sc : Scope} : ∀ {names : List (Str × NameKind)} {x : Str} {k : NameKind},
    (names.map fun (n, k) => if (k == NameKind.free && sc.kind == .function && sc.names.lookup n == some .cell) then (n, NameKind.cell) else (n, k)).lookup x = some k →
    ∃ k', names.lookup x = some k' ∧ (k = k' ∨ (k' = .free ∧ k = .cell))
  | [], _, _, h => by simp at h
  | (n, k₀) :: r, x, k, h => by
    have ih := @lookup_relS sc r x k
    have h' : List.lookup x ((if (k₀ == NameKind.free && sc.kind == .function && sc.names.lookup n == some .cell) = true then (n, NameKind.cell) else (n, k₀)) :: (r.map _)) = some k := h
    cases hx : x == n with
    | true =>
      simp only [List.lookup_cons, hx]
      by_cases hc : (k₀ == NameKind.free && sc.kind == .function && sc.names.lookup n == some .cell) = true
      · rw [if_pos hc] at h'
        simp only [List.lookup_cons, hx] at h'
        cases h'
        simp only [Bool.and_eq_true, beq_iff_eq] at hc
        exact ⟨k₀, rfl, .inr ⟨hc.1.1, rfl⟩⟩
      · rw [if_neg hc] at h'
        simp only [List.lookup_cons, hx] at h'
        cases h'
        exact ⟨_, rfl, .inl rfl⟩
    | false =>
      simp only [List.lookup_cons, hx]
      by_cases hc : (k₀ == NameKind.free && sc.kind == .function && sc.names.lookup n == some .cell) = true
      · rw [if_pos hc] at h'
        simp only [List.lookup_cons, hx] at h'
        exact ih h'
      · rw [if_neg hc] at h'
        simp only [List.lookup_cons, hx] at h'
        exact ih h'

/-- the names of a comprehension's block: its own (with their places in N), or captured -/
structure BlkOk (N : List Str) (sc scope : Scope) (own : List (Str × Nat)) : Prop where
  kind : scope.kind = .function
  uniq : ∀ y ∈ scope.names, scope.names.lookup y.1 = some y.2
  ix : ∀ p ∈ own, N[p.2]? = some p.1
  free : ∀ y ∈ scope.names, y.2 = .free → sc.names.lookup y.1 = some .cell ∨ sc.names.lookup y.1 = some .free
  own : ∀ y ∈ scope.names, y.2 = .local ∨ y.2 = .cell → y.1 ∈ own.map (·.1) ∨ y.1 ∉ N
/-- the slots of the block's own names forgotten -/
def wipe (σ : St) : List Nat → St
  | [] => σ
  | v :: vs => (wipe σ vs).set v none
theorem wipe_length (σ : St) : ∀ vs : List Nat, (wipe σ vs).length = σ.length
  | [] => rfl
  | v :: vs => by unfold wipe; rw [List.length_set, wipe_length σ vs]
theorem wipe_some {σ : St} {i : Nat} {x : V} : ∀ {vs : List Nat}, (wipe σ vs)[i]? = some (some x) → σ[i]? = some (some x) ∧ i ∉ vs
  | [], h => ⟨h, by simp⟩
  | v :: vs, h => by
    unfold wipe at h
    by_cases hi : v = i
    · subst hi
      by_cases hv : v < (wipe σ vs).length
      · rw [List.getElem?_set_self hv] at h; cases h
      · rw [List.getElem?_eq_none (by simpa using hv)] at h; cases h
    · rw [List.getElem?_set_ne hi] at h
      obtain ⟨h1, h2⟩ := wipe_some h
      exact ⟨h1, by simp only [List.mem_cons, not_or]; exact ⟨fun e => hi e.symm, h2⟩⟩

/-- the context of a block that starts at s, its iterator's objects at fp -/
abbrev Cx.blk (X : Cx) (s : Shared) (H : Hp) (scope : Scope) (cenv : Env) (fp : List Addr) : Cx := { X with s_0 := s, H_0 := H, env := cenv, outer := X.stack, ex := fp, fn := fun x => scope.names.lookup x == some .cell, pn := [], xe := fun _ _ => False }
section
variable {X : Cx} {pins : List (Addr × Obj)} {σ : St} {H : Hp} {s : Shared}
theorem block_start {scope : Scope} {own : List (Str × Nat)} {fp : List Addr} (I : Inv X pins σ H s) (ok : BlkOk X.N X.env.scope scope own) (hN : X.N.Nodup) (hfp : ∀ b ∈ fp, FpOk X pins H b ∧ b < s.heap.objs.size) :
    Inv (X.blk s H scope (compEnvC scope (cellsFrom (s.heap.objs.size + 1) scope.names (cloFrom X.env.cells scope.names [])) s.heap.objs.size X.env) fp) [] (wipe σ (own.map (·.2))) H { s with heap := pushCells (s.heap.push { cls := .type "dict", data := .dict #[] }) scope.names } := by
  have hfree : ∀ y ∈ scope.names, y.2 = .free → ∃ c, X.env.cells.lookup y.1 = some c := fun y hy e => by
    rcases ok.free y hy e with k | k
    · exact I.ok.has _ (.inl k)
    · exact I.ok.has _ (.inr k)
  generalize hcenv : compEnvC scope (cellsFrom (s.heap.objs.size + 1) scope.names (cloFrom X.env.cells scope.names [])) s.heap.objs.size X.env = cenv
  have kp : ∀ b o, s.heap.get? b = some o → (pushCells (s.heap.push { cls := .type "dict", data := .dict #[] }) scope.names).get? b = some o := fun b o e => pushCells_keeps _ _ _ _ (Heap.get?_push_of_some _ e)
  have hL : cenv.locals = s.heap.objs.size := by rw [← hcenv]; rfl
  have hcl : cenv.cells = cellsFrom (s.heap.objs.size + 1) scope.names (cloFrom X.env.cells scope.names []) := by rw [← hcenv]; rfl
  have hsc : cenv.scope = relS scope X.env.scope := by rw [← hcenv]; rfl
  rw [← Heap.size_push s.heap { cls := .type "dict", data := .dict #[] }] at hcl
  have cm : ∀ {y c}, (y, c) ∈ cloFrom X.env.cells scope.names [] → X.env.cells.lookup y = some c ∧ c < s.heap.objs.size := fun {y c} hm => by
    rcases cloFrom_mem hm with hm | ⟨h1, rfl⟩
    · cases hm
    · obtain ⟨c, hc⟩ := hfree _ h1 rfl
      rw [hc]
      obtain ⟨w, z⟩ := I.cell _ _ hc
      exact ⟨rfl, z.lt⟩
  have mem : ∀ {y c}, cenv.cells.lookup y = some c → (X.env.cells.lookup y = some c ∧ c < s.heap.objs.size) ∨ (s.heap.objs.size + 1 ≤ c ∧ CellAt (pushCells (s.heap.push { cls := .type "dict", data := .dict #[] }) scope.names) c none) := fun {y c} e => by
    rw [hcl] at e
    rcases cells_mem (PySem.mem_of_lookup e) with hm | ⟨_, h2, h3⟩
    · exact .inl (cm hm)
    · rw [Heap.size_push] at h2; exact .inr ⟨h2, h3⟩
  have look : ∀ {y}, scope.names.lookup y = some .free → ∃ c, cenv.cells.lookup y = some c ∧ X.env.cells.lookup y = some c := fun {y} hl => by
    have hy : (y, NameKind.free) ∈ scope.names := PySem.mem_of_lookup hl
    obtain ⟨c', e'⟩ := mem_lookup (cells_acc (names := scope.names) (n := (s.heap.push { cls := .type "dict", data := .dict #[] }).objs.size) (cloFrom_has (cells := X.env.cells) (acc := []) hy))
    rw [← hcl] at e'
    refine ⟨c', e', ?_⟩
    rw [hcl] at e'
    rcases cells_mem (PySem.mem_of_lookup e') with hm | ⟨h1, _, _⟩
    · exact (cm hm).1
    · have := ok.uniq _ h1
      rw [hl] at this; cases this
  have okB : (X.blk s H scope cenv fp).Ok := by
    refine ⟨I.ok.mod, by show cenv.scope.kind = _; rw [hsc]; exact ok.kind, by show cenv.globals = _; rw [← hcenv]; exact I.ok.glob, by show cenv.builtins = _; rw [← hcenv]; exact I.ok.blt, by show s.heap.objs.size ≤ cenv.locals; rw [hL]; exact Nat.le_refl _,
      fun y z c e1 e2 => ?_, fun y hy => ?_, fun y c z e => ?_, I.ok.hd, I.ok.frames, .inl rfl, fun b hb => ⟨?_, fun y c e z => ?_⟩, I.bs, Nat.le_trans I.ok.bsz I.sz, fun b o e hb => ?_, fun b hb z => ?_, I.stack, I.stkFree⟩
    · have e1 : cenv.cells.lookup y = some c := e1
      have e2 : cenv.cells.lookup z = some c := e2
      rw [hcl] at e1 e2
      refine cells_inj (fun p hp => ?_) (fun y z c a b => I.ok.inj y z c (cm a).1 (cm b).1) (PySem.mem_of_lookup e1) (PySem.mem_of_lookup e2)
      rw [Heap.size_push]
      exact Nat.lt_succ_of_lt (cm (y := p.1) (c := p.2) hp).2
    · show ∃ c, cenv.cells.lookup y = some c
      have key : ∀ k, cenv.kindOf y = some k → (k = .cell ∨ k = .free) → ∃ c, cenv.cells.lookup y = some c := fun k hk hk' => by
        unfold Env.kindOf at hk
        rw [hsc] at hk
        obtain ⟨k', e, r⟩ := lookup_relS hk
        have : k' = .cell ∨ k' = .free := by
          rcases r with rfl | ⟨rfl, _⟩
          · exact hk'
          · exact .inr rfl
        rcases this with rfl | rfl
        · obtain ⟨c, hm⟩ := cells_has (n := (s.heap.push { cls := .type "dict", data := .dict #[] }).objs.size) (acc := cloFrom X.env.cells scope.names []) (PySem.mem_of_lookup e)
          obtain ⟨c', e'⟩ := mem_lookup hm
          exact ⟨c', by rw [hcl]; exact e'⟩
        · obtain ⟨c, h1, _⟩ := look e
          exact ⟨c, h1⟩
      rcases hy with hy | hy
      · exact key _ hy (.inl rfl)
      · exact key _ hy (.inr rfl)
    · have z : (scope.names.lookup y == some NameKind.cell) = true := z
      have z : scope.names.lookup y = some .cell := by simpa using z
      have e : cenv.cells.lookup y = some c := e
      rw [hcl] at e
      rcases cells_mem (PySem.mem_of_lookup e) with hm | ⟨_, h2, _⟩
      · rcases cloFrom_mem hm with hm | ⟨h1, _⟩
        · cases hm
        · have q := ok.uniq _ h1
          rw [z] at q; cases q
      · rw [Heap.size_push] at h2
        exact Nat.le_of_succ_le h2
    · show b ≠ cenv.locals
      rw [hL]; exact Nat.ne_of_lt (hfp b hb).2
    · have e : cenv.cells.lookup y = some c := e
      rcases mem e with ⟨h1, _⟩ | ⟨h1, _⟩
      · exact (hfp b hb).1.2.2.2.2.1 y c h1 z
      · have h2 : s.heap.objs.size + 1 ≤ b := by rw [← z]; exact h1
        exact absurd (Nat.lt_of_lt_of_le (hfp b hb).2 (Nat.le_of_succ_le h2)) (Nat.lt_irrefl _)
    · rcases (hfp b hb).1.2.2.2.1 with z | z
      · exact I.ok.noex b o e z
      · exact absurd (Nat.lt_of_lt_of_le (Heap.lt_size e) (Nat.le_trans I.ok.bsz z)) (Nat.lt_irrefl _)
    · rcases List.mem_cons.mp (I.stkSub b z) with z | z
      · exact (hfp b hb).1.2.1 z
      · exact (hfp b hb).1.2.2.1 z
  refine ⟨okB, rfl, I.bare, Un.kept kp, ⟨fun _ => none, ?_, fun i y av e1 e2 e3 => ?_⟩, fun y c e => ?_, ?_, fun y c e => ?_, fun p hp => ?_, I.hok.kept kp, by rw [wipe_length]; exact I.len⟩
  · show Heap.Ns _ cenv.locals _
    rw [hL]
    exact Heap.Ns.keeps (Heap.Ns.new ..) fun b o e => pushCells_keeps _ _ _ _ e
  · obtain ⟨e2, hne⟩ := wipe_some e2
    have hfr : scope.names.lookup y = some .free ∧ (cenv.kindOf y = some .cell ∨ cenv.kindOf y = some .free) := by
      have key : ∀ k, cenv.scope.names.lookup y = some k → k = .local ∨ k = .cell ∨ k = .free → scope.names.lookup y = some .free ∧ (cenv.kindOf y = some .cell ∨ cenv.kindOf y = some .free) := fun k hk hk' => by
        have hk0 := hk
        rw [hsc] at hk
        obtain ⟨k', e, r⟩ := lookup_relS hk
        have no : ¬ (k' = .local ∨ k' = .cell) := fun hh => by
          rcases ok.own _ (PySem.mem_of_lookup e) hh with e' | e'
          · obtain ⟨p, hp, hpy⟩ := List.mem_map.mp e'
            have e3 := ok.ix p hp
            have : p.1 = y := hpy
            rw [this] at e3
            exact hne (List.mem_map.mpr ⟨p, hp, nodup_ix hN e3 e1⟩)
          · exact e' (List.mem_of_getElem? e1)
        rcases r with rfl | ⟨rfl, rfl⟩
        · rcases hk' with rfl | rfl | rfl
          · exact absurd (.inl rfl) no
          · exact absurd (.inr rfl) no
          · exact ⟨e, .inr hk0⟩
        · exact ⟨e, .inl hk0⟩
      have e3 : Vis cenv.scope y := e3
      rcases e3 with e3 | e3 | e3
      · exact key _ e3 (.inl rfl)
      · exact key _ e3 (.inr (.inl rfl))
      · exact key _ e3 (.inr (.inr rfl))
    obtain ⟨m, hn, hl⟩ := I.loc
    have hvis : Vis X.env.scope y := (ok.free _ (PySem.mem_of_lookup hfr.1) rfl).elim (fun k => .inr (.inl k)) (fun k => .inr (.inr k))
    obtain ⟨w, r, q⟩ := hl i y av e1 e2 hvis
    refine ⟨w, r, .inr ⟨hfr.2, ?_⟩⟩
    obtain ⟨c, h1, h2⟩ := look hfr.1
    rcases q with ⟨k, _⟩ | ⟨_, c', e', z⟩
    · have k : X.env.scope.names.lookup y = some .local := k
      rcases ok.free _ (PySem.mem_of_lookup hfr.1) rfl with k' | k' <;> rw [show X.env.scope.names.lookup y = _ from k'] at k <;> cases k
    · rw [h2] at e'; cases e'
      exact ⟨c, h1, z.keeps kp⟩
  · have e : cenv.cells.lookup y = some c := e
    rcases mem e with ⟨h1, _⟩ | ⟨_, z⟩
    · obtain ⟨w, z⟩ := I.cell y c h1
      exact ⟨w, z.keeps kp⟩
    · exact ⟨_, z⟩
  · show H cenv.locals = none
    rw [hL]; exact I.hok.fresh (Nat.le_refl _)
  · have e : cenv.cells.lookup y = some c := e
    rcases mem e with ⟨h1, _⟩ | ⟨h1, _⟩
    · exact I.freeC y c h1
    · exact I.hok.fresh (Nat.le_of_succ_le h1)
  · exact absurd (show p ∈ ([] : List (Addr × Obj)) ++ [] from hp) (by simp)

/-- an item appended to a tracked list -/
theorem app_ok {E : Value → Shared → Prop} {D : Addr} {xs : List V} {y : V} {v : Value} {Q : Value → Shared → Prop} (I : Inv X pins σ H s) (hD : H D = some (.lst xs)) (hz : xs.length < sizeLine) (r : RelV y v)
    (h : ∀ s', Inv X pins σ (upd H D (.lst (xs ++ [y]))) s' → Q .none s') : wpAny (model X.prog X.w) X.A (call (.builtin "list.append") [.ref D, v]) Q E s := by
  obtain ⟨hz', its, n, ri, e⟩ := I.hok D _ hD
  have hl := ri.length
  refine append_at (hsz := by rw [List.size_toArray]; omega) e fun h' sb ho' => ?_
  refine h { s with heap := h' } (I.write (t' := s.toks) (by rw [hD]; trivial) (.inl rfl) (fun b u hb q => (sb.2 b hb).trans q) ⟨_, ho'⟩ ⟨by rw [List.length_append]; exact hz, its ++ [v], n + 1, ri.append (.cons r .nil), ?_⟩)
  rw [ho']
  simp

/-- a clause's tests -/
def PTs (X : Cx) (ifs : List Expr) (t : TT) : Prop :=
  ∀ (pins : List (Addr × Obj)) (s : Shared) (σ : St) (H : Hp) (Q : Bool → Hp → Prop), Inv X pins σ H s → t σ H Q →
    wpAny (model X.prog X.w) X.A (forIn ifs true fun c r => if r = true then do let ok ← isTrue c X.env (eval c X.env); pure (ForInStep.yield ok) else pure (ForInStep.yield r)) (TP X pins σ Q) X.xe s
def tYes : TT := fun _ H Q => Q true H
theorem pts_nil : PTs X [] tYes := fun _ _ _ H _ I h => wpAny_tests_nil ⟨H, I, h⟩
theorem pts_one {c : Expr} {t : TT} (h : PT X c t) : PTs X [c] t := fun pins s σ H Q I hw => wpAny_tests_one (h pins s σ H Q I hw)
end

theorem thnF {α : Type} {t : Sem α} {Q Q' : α → Shared → Prop} {M : Model} {A : Around} {E : Value → Shared → Prop} {s : Shared} (h : wpAny M A t Q (fun _ _ => False) s) (hQ : ∀ a s, Q a s → Q' a s) : wpAny M A t Q' E s := wpAny_mono h hQ fun _ _ z => False.elim z

/-- the loop of a list comprehension's block, the target of any form (codeAny_compLoop_tests asks a target that no tuple goes to; statement and proof follow it, PyProof/CompMap.lean:41-61, with the step letOwnedTupleGo kept) -/
theorem compLoop_any {prog : Program} {w : World} {A : Around} {R : Result → Shared → Prop} {s : Shared} {elt target iter : Expr} {ifs : List Expr} {scope : Scope} {pos : Pos} {it acc : Value} {env : Env} (I : Nat → Shared → Prop)
    (turn : ∀ n s, I n s → wpAny (model prog w) A (pyNext it) (fun r s₁ => match r with
      | none => R (.ok .next) s₁
      | some v => wpAny (model prog w) A (letOwnedTupleGo target it v) (fun _ s₁' => wpAny (model prog w) A (assign target env v) (fun _ s₂ =>
          wpAny (model prog w) A (forIn ifs true fun c r => if r = true then do let ok ← isTrue c env (eval c env); pure (ForInStep.yield ok) else pure (ForInStep.yield r)) (fun ok s₃ =>
            if ok = true then wpAny (model prog w) A (eval elt env) (fun x s₄ =>
              wpAny (model prog w) A (call (.builtin "list.append") [acc, x]) (fun _ s₅ => ∃ m, m < n ∧ I m s₅) (notedBy (model prog w) A env fun e s' => R (.error e) s') s₄) (notedBy (model prog w) A env fun e s' => R (.error e) s') s₃
            else ∃ m, m < n ∧ I m s₃) (notedBy (model prog w) A env fun e s' => R (.error e) s') s₂) (notedBy (model prog w) A env fun e s' => R (.error e) s') s₁') (notedBy (model prog w) A env fun e s' => R (.error e) s') s₁) (notedBy (model prog w) A env fun e s' => R (.error e) s') s)
    (n : Nat) (h : I n s) :
    codeAny (model prog w) A (.compLoop (.ListComp elt [⟨target, iter, ifs, 0⟩] scope pos) 0 it acc env) R s := by
  refine codeAny_loop rfl I (fun n s hI => ?_) n h
  show wpAny _ A ((compTurn (.ListComp elt [⟨target, iter, ifs, 0⟩] scope pos) 0 it acc env).onRaise (fun x => do noteFrame x env; theTreesLotGoes x)) _ _ s
  refine wpAny_noted ?_
  rw [compTurn_list]
  refine wpAny_bind (wpAny_standAt (wpAny_bind (wpAny_mono (turn n s hI) (fun r s₁ h₁ => ?_) fun _ _ h' => h')))
  cases r with
  | none => exact wpAny_pure h₁
  | some v =>
    refine wpAny_bind (wpAny_mono h₁ (fun _ s₁' h₁' => ?_) fun _ _ h' => h')
    refine wpAny_bind (wpAny_mono h₁' (fun _ s₂ h₂ => wpAny_bind (wpAny_mono h₂ (fun ok s₃ h₃ => ?_) fun _ _ h' => h')) fun _ _ h' => h')
    cases ok with
    | false => exact wpAny_pure ⟨rfl, h₃⟩
    | true =>
      exact wpAny_bind (wpAny_bind (wpAny_mono h₃ (fun x s₄ h₄ => wpAny_bind (wpAny_mono h₄ (fun _ s₅ h₅ => wpAny_pure (wpAny_pure ⟨rfl, h₅⟩)) fun _ _ h' => h')) fun _ _ h' => h'))

section
variable {X : Cx}
/-- [elt for target in iter if ..]: D the new list; W by the turn and a measure, Nx what a turn is to reach -/
def tLc (wi : TI) (g : TG) (tt : TT) (te : TE) (vs : List Nat) : TE := fun σ H Q => wi σ H fun J H1 => ∀ D, H1 D = none → ∃ W : Nat → Nat → Hp → Prop, (∃ m, W 0 m (upd H1 D (.lst []))) ∧ ∀ i m H, W i m H →
  (J.stop i H ∧ Q (.ref D) H) ∨ (J.go i H ∧ ∃ Nx : Hp → Prop, (∀ H', Nx H' → ∃ m', m' < m ∧ W (i + 1) m' H') ∧ ∀ x H', J.yld i H x H' → g x (wipe σ vs) H' fun σ2 H2 => wipe σ2 vs = wipe σ vs ∧ tt σ2 H2 fun b H3 =>
    if b = true then te σ2 H3 fun y H4 => ∃ acc, H4 D = some (.lst acc) ∧ acc.length < sizeLine ∧ Nx (upd H4 D (.lst (acc ++ [y]))) else Nx H3)
theorem lc_core {pins : List (Addr × Obj)} {s : Shared} {σ : St} {H : Hp} {Q : VK} {elt tg iter : Expr} {ifs : List Expr} {scope : Scope} {own : List (Str × Nat)} {pos pos' : Pos} {wi : TI} {g : TG} {tt : TT} {te : TE} {use : Option (Value → Sem Unit)} {Qf : Value → Shared → Prop}
    (hc : X.calm = true) (hN : X.N.Nodup) (I : Inv X pins σ H s) (hi : PI X tg iter wi) (ok : BlkOk X.N X.env.scope scope own)
    (hg : ∀ (s : Shared) (H : Hp) (C : Addr) (cl : List (Str × Addr)) (fp : List Addr), PG (X.blk s H scope (compEnvC scope cl C X.env) fp) tg g) (ht : ∀ (s : Shared) (H : Hp) (C : Addr) (cl : List (Str × Addr)) (fp : List Addr), PTs (X.blk s H scope (compEnvC scope cl C X.env) fp) ifs tt)
    (he : ∀ (s : Shared) (H : Hp) (C : Addr) (cl : List (Str × Addr)) (fp : List Addr), PE (X.blk s H scope (compEnvC scope cl C X.env) fp) elt te) (hs : ∀ x, foldedSetIterable iter X.env x = pure x)
    (h : tLc wi g tt te (own.map (·.2)) σ H Q)
    (hRR : ∀ D C s' m H', Inv X pins σ H' s' → Q (.ref D) H' → s'.heap.Ns C m → FpOk X pins H' C → compPost (model X.prog X.w) X.A X.xe use Qf (.ref D) C (.ok .next) s') :
    wpAny (model X.prog X.w) X.A (comprehension (.ListComp elt [⟨tg, iter, ifs, 0⟩] scope pos) scope X.env pos' (newList []) false (eval iter X.env) use) Qf X.xe s := by
  have hfree : ∀ y ∈ scope.names, y.2 = .free → ∃ c, X.env.cells.lookup y.1 = some c := fun y hy e => by
    rcases ok.free y hy e with k | k
    · exact I.ok.has _ (.inl k)
    · exact I.ok.has _ (.inr k)
  refine wpAny_comprehension_free (use := use) rfl hs (closure_ok hfree) ok.kind (fun y hy e => by rw [ok.uniq y hy, e])
    (thn (hi pins s σ H _ I h) fun xv s1 hx => thn hx fun itv s2 h2 => ?_)
  obtain ⟨it, fp, tn, J, H2, e, I2, T, st2, f2, q⟩ := h2
  subst e
  refine wpAny_newObj_type (newEnv_comp ?_) (by show 0 ≤ sizeLine; decide)
  generalize hD : s2.heap.objs.size = D
  have hDn : H2 D = none := I2.hok.fresh (Nat.le_of_eq hD)
  obtain ⟨W, ⟨m0, w0⟩, turn⟩ := q D hDn
  -- the new list
  generalize hs3 : ({ s2 with heap := s2.heap.push { cls := .type "list", data := .seq ([] : List Value).toArray } } : Shared) = s3
  have I3 : Inv X pins σ (upd H2 D (.lst [])) s3 := by
    rw [← hs3]
    refine I2.laid (t' := s2.toks) (fun b o e => Heap.get?_push_of_some _ e) (Nat.le_of_eq hD) ⟨Nat.zero_le _, [], 0, .nil, ?_⟩
    rw [← hD]
    exact Heap.get?_push_size _ rfl
  have h3 : s3.heap = s2.heap.push { cls := .type "list", data := .seq ([] : List Value).toArray } := by rw [← hs3]
  have sz : ∀ b ∈ fp, b < s2.heap.objs.size := fun b hb => by
    obtain ⟨o, e, _⟩ := T.obj _ _ st2 b hb
    exact Heap.lt_size e
  have f3 : ∀ b ∈ fp, FpOk X pins (upd H2 D (.lst [])) b ∧ b < s3.heap.objs.size := fun b hb => by
    have hlt := sz b hb
    refine ⟨⟨?_, (f2 b hb).2⟩, by rw [h3, Heap.size_push]; exact Nat.lt_succ_of_lt hlt⟩
    rw [upd_ne (by rw [← hD]; exact Nat.ne_of_lt hlt)]
    exact (f2 b hb).1
  have st3 : tn 0 s3.heap := T.keep _ _ _ st2 fun b _ o e => by rw [h3]; exact Heap.get?_push_of_some _ e
  have I4 := block_start I3 ok hN f3
  have pg := hg s3 (upd H2 D (.lst [])) s3.heap.objs.size (cellsFrom (s3.heap.objs.size + 1) scope.names (cloFrom X.env.cells scope.names [])) fp
  have pt := ht s3 (upd H2 D (.lst [])) s3.heap.objs.size (cellsFrom (s3.heap.objs.size + 1) scope.names (cloFrom X.env.cells scope.names [])) fp
  have pe := he s3 (upd H2 D (.lst [])) s3.heap.objs.size (cellsFrom (s3.heap.objs.size + 1) scope.names (cloFrom X.env.cells scope.names [])) fp
  show codeAny _ _ (.compStart (.ListComp elt [⟨tg, iter, ifs, 0⟩] scope pos) 0 (.ref it) (.ref D) (compEnvC scope (cellsFrom (s3.heap.objs.size + 1) scope.names (cloFrom X.env.cells scope.names [])) s3.heap.objs.size X.env)) (compPost (model X.prog X.w) X.A X.xe use Qf (.ref D) s3.heap.objs.size) { s3 with heap := pushCells (s3.heap.push { cls := .type "dict", data := .dict #[] }) scope.names }
  have nfp : ∀ b ∈ fp, (upd H2 D (.lst [])) b = none := fun b hb => (f3 b hb).1.1
  generalize hce : compEnvC scope (cellsFrom (s3.heap.objs.size + 1) scope.names (cloFrom X.env.cells scope.names [])) s3.heap.objs.size X.env = ce at I4 pg pt pe ⊢
  have cL : ce.locals = s3.heap.objs.size := by subst hce; rfl
  generalize hH3 : upd H2 D (.lst []) = H3 at I3 I4 pg pt pe w0 nfp f3
  generalize hs4 : ({ s3 with heap := pushCells (s3.heap.push { cls := .type "dict", data := .dict #[] }) scope.names } : Shared) = s4 at I4 ⊢
  have st4 : tn 0 s4.heap := T.keep _ _ _ st3 fun b _ o e => by rw [← hs4]; exact pushCells_keeps _ _ _ _ (Heap.get?_push_of_some _ e)
  have stat : ∀ {σ' : St} {H' : Hp} {s' : Shared}, Inv (X.blk s3 H3 scope ce fp) [] σ' H' s' → (∀ b ∈ fp, H' b = none) → ∀ b ∈ fp, FpOk (X.blk s3 H3 scope ce fp) [] H' b := fun {σ' H' s'} I' hn b hb =>
    ⟨hn b hb, (I'.ok.exf b hb).1, I'.ok.exfs b hb, .inl hb, fun x c e => (I'.ok.exf b hb).2 x c e, fun p hp => absurd (show p ∈ ([] : List (Addr × Obj)) ++ [] from hp) (by simp)⟩
  have loop : codeAny (model X.prog X.w) X.A (.compLoop (.ListComp elt [⟨tg, iter, ifs, 0⟩] scope pos) 0 (.ref it) (.ref D) ce) (compPost (model X.prog X.w) X.A X.xe use Qf (.ref D) s3.heap.objs.size) s4 := by
    refine compLoop_any (fun n s' => ∃ i H', Inv (X.blk s3 H3 scope ce fp) [] (wipe σ (own.map (·.2))) H' s' ∧ tn i s'.heap ∧ (∀ b ∈ fp, H' b = none) ∧ W i n H') ?_ m0 ⟨0, H3, I4, st4, nfp, w0⟩
    rintro n s5 ⟨i, H5, I5, st5, n5, w5⟩
    rcases turn i n H5 w5 with ⟨stop, qq⟩ | ⟨go, Nx, hNx, step⟩
    · have td := T.done (X.blk s3 H3 scope ce fp) rfl rfl rfl hc i [] s5 _ H5 (fun _ _ => False) I5 (stat I5 n5) st5 stop
      refine thnF td fun r s6 ⟨hr, I6⟩ => ?_
      subst hr
      -- back in the def's context
      have I7 : Inv X pins σ H5 s6 := I3.call' (ch := fp) I6.os I6.base I6.hok I6.bare fun b hb => ⟨(f3 b hb).1.2.2.2.1, (f3 b hb).1.2.1, (f3 b hb).1.2.2.2.2.1, (f3 b hb).1.2.2.2.2.2⟩
      have nC : H5 s3.heap.objs.size = none := by
        have z : H5 ce.locals = none := I6.free
        rw [cL] at z
        exact z
      obtain ⟨m, hn, _⟩ := I6.loc
      have hn : s6.heap.Ns ce.locals m := hn
      rw [cL] at hn
      exact hRR D s3.heap.objs.size s6 m H5 I7 qq hn (I3.fpOk (Nat.le_refl _) nC)
    · have ti := T.item (X.blk s3 H3 scope ce fp) rfl rfl rfl hc i [] s5 _ H5 (fun _ _ => False) I5 (stat I5 n5) st5 go
      refine thnF ti fun r s6 ⟨u, hr, h6⟩ => ?_
      subst hr
      refine thnF h6 fun _ s7 ⟨x, H7, I7, r7, y7, st7, n7⟩ => ?_
      have I7' := I7.pinned (stat I7 n7) (T.obj _ _ st7)
      refine thnF (pg _ s7 _ H7 x u _ I7' r7 (step x H7 y7)) fun _ s8 ⟨σ8, H8, I8, hw8, q8⟩ => ?_
      refine thnF (pt _ s8 σ8 H8 _ I8 q8) fun b s9 ⟨H9, I9, q9⟩ => ?_
      -- the turn's end
      have fin : ∀ {s' : Shared} {H' : Hp}, Inv (X.blk s3 H3 scope ce fp) ([] ++ pinsAt fp s7.heap) σ8 H' s' → Nx H' → ∃ m, m < n ∧ ∃ i H', Inv (X.blk s3 H3 scope ce fp) [] (wipe σ (own.map (·.2))) H' s' ∧ tn i s'.heap ∧ (∀ b ∈ fp, H' b = none) ∧ W i m H' := fun {s' H'} I' nx => by
        obtain ⟨m', hm, w'⟩ := hNx H' nx
        have pin' : ∀ b ∈ fp, ∀ o, s7.heap.get? b = some o → s'.heap.get? b = some o ∧ H' b = none := fun b hb o e =>
          let z := I'.pin (b, o) (List.mem_append_right _ (List.mem_append_right _ (mem_pinsAt hb e)))
          ⟨z.1, z.2.1⟩
        have hl : (wipe σ (own.map (·.2))).length = σ8.length := by rw [← hw8, wipe_length]
        refine ⟨m', hm, i + 1, H', (I'.unpinned (pins := [])).weak hl (fun j v e => ?_), T.keep _ _ _ st7 fun b hb o e => (pin' b hb o e).1, fun b hb => ?_, w'⟩
        · rw [← hw8] at e
          exact (wipe_some e).1
        · obtain ⟨o, e, _⟩ := T.obj _ _ st7 b hb
          exact (pin' b hb o e).2
      cases b with
      | false =>
        simp only [Bool.false_eq_true, if_false] at q9 ⊢
        exact fin I9 q9
      | true =>
        simp only [if_true] at q9 ⊢
        refine thnF (pe _ s9 σ8 H9 _ I9 q9) fun z s10 ⟨yv, H10, I10, r10, acc, hD10, hz10, nx⟩ => ?_
        exact app_ok (X := X.blk s3 H3 scope ce fp) I10 hD10 hz10 r10 fun s11 I11 => fin I11 nx
  exact codeAny_compStart_list loop (T.self X.A 0 _ _ _ st4 loop)
/-- as a value -/
theorem pe_lc {elt tg iter : Expr} {ifs : List Expr} {scope : Scope} {own : List (Str × Nat)} {pos : Pos} {wi : TI} {g : TG} {tt : TT} {te : TE} (hc : X.calm = true) (hN : X.N.Nodup) (hi : PI X tg iter wi) (ok : BlkOk X.N X.env.scope scope own)
    (hg : ∀ (s : Shared) (H : Hp) (C : Addr) (cl : List (Str × Addr)) (fp : List Addr), PG (X.blk s H scope (compEnvC scope cl C X.env) fp) tg g) (ht : ∀ (s : Shared) (H : Hp) (C : Addr) (cl : List (Str × Addr)) (fp : List Addr), PTs (X.blk s H scope (compEnvC scope cl C X.env) fp) ifs tt)
    (he : ∀ (s : Shared) (H : Hp) (C : Addr) (cl : List (Str × Addr)) (fp : List Addr), PE (X.blk s H scope (compEnvC scope cl C X.env) fp) elt te) (hs : ∀ x, foldedSetIterable iter X.env x = pure x := by intro _; rfl) :
    PE X (.ListComp elt [⟨tg, iter, ifs, 0⟩] scope pos) (tLc wi g tt te (own.map (·.2))) := by
  intro pins s σ H Q I h
  rw [eval_ListComp]
  refine lc_core hc hN I hi ok hg ht he hs h fun D C s' m H' I' q hn f => ⟨m, hn, fun h'' sb => ?_⟩
  obtain ⟨f0, f1, f2, f3, f4, f5⟩ := f
  exact ⟨.ref D, H', I'.turned (t' := s'.toks) (fun b o hb e => (sb.2 b hb).trans e) f0 f1 f3 f4 f5, rfl, q⟩
/-- name = [..] on one line, the name a local -/
theorem ps_setLc {i : Nat} {y : Str} {py : Pos} {elt tg iter : Expr} {ifs : List Expr} {scope : Scope} {own : List (Str × Nat)} {pos spos : Pos} {wi : TI} {g : TG} {tt : TT} {te : TE} (hc : X.calm = true) (hN : X.N.Nodup) (hy : X.N[i]? = some y) (hyl : X.env.scope.names.lookup y = some .local)
    (hsw : swapsWith (.ListComp elt [⟨tg, iter, ifs, 0⟩] scope pos) (some (.Name y py)) spos.line X.env = pure true) (hi : PI X tg iter wi) (ok : BlkOk X.N X.env.scope scope own)
    (hg : ∀ (s : Shared) (H : Hp) (C : Addr) (cl : List (Str × Addr)) (fp : List Addr), PG (X.blk s H scope (compEnvC scope cl C X.env) fp) tg g) (ht : ∀ (s : Shared) (H : Hp) (C : Addr) (cl : List (Str × Addr)) (fp : List Addr), PTs (X.blk s H scope (compEnvC scope cl C X.env) fp) ifs tt)
    (he : ∀ (s : Shared) (H : Hp) (C : Addr) (cl : List (Str × Addr)) (fp : List Addr), PE (X.blk s H scope (compEnvC scope cl C X.env) fp) elt te) (hs : ∀ x, foldedSetIterable iter X.env x = pure x := by intro _; rfl) :
    PS X (.Assign [.Name y py] (.ListComp elt [⟨tg, iter, ifs, 0⟩] scope pos) spos) (tAsg (tLc wi g tt te (own.map (·.2))) (gName i)) := by
  intro pins s σ H D I h
  rw [exec_Assign_Name_used _ _ _ _ hsw]
  refine wpAny_bind (wpAny_standAt (wpAny_bind ?_))
  show wpAny _ X.A (do let _ ← comprehension (.ListComp elt [⟨tg, iter, ifs, 0⟩] scope pos) scope X.env (firstIterPos [⟨tg, iter, ifs, 0⟩] pos) (newList []) false (eval iter X.env) (some (assign (.Name y py) X.env))) _ _ s
  have h : tLc wi g tt te (own.map (·.2)) σ H (fun x H1 => gName i x σ H1 D.nx) := h
  refine wpAny_bind (thn (lc_core (Qf := fun _ s' => SP X pins D .next s') hc hN I hi ok hg ht he hs h fun L C s' m H' I' q hn f => ?_) fun _ s' hq => wpAny_pure (wpAny_pure hq))
  show wpAny _ _ (assign (.Name y py) X.env (.ref L)) _ _ _
  refine wpAny_assign_Name (store_ok2 (v := V.ref L) I' hN hy (.inl hyl) rfl (fun s2 I2 ⟨a, sb, ha⟩ => ?_) (.inr hyl))
  obtain ⟨f0, f1, f2, f3, f4, f5⟩ := f
  have haC : C ≠ a := by
    rcases ha with z | z
    · rw [z]; exact f1
    · exact fun e => f4 y a z e.symm
  refine ⟨m, hn.sameBut sb haC, fun h3 sb3 => ?_⟩
  exact ⟨_, H', I2.turned (t' := s2.toks) (fun b o hb e => (sb3.2 b hb).trans e) f0 f1 f3 f4 f5, q⟩
theorem sw_true {elt : Expr} {gs : List Comprehension} {scope : Scope} {pos py : Pos} {y : Str} {l : Nat} {env : Env} (hk : env.scope.kind = .function) (hy : env.scope.names.lookup y = some .local) (hl : (py.line == pos.line) = true)
    (ha : (scope.names.any fun (n, k) => n == y && (k == .local || k == .cell)) = false) : swapsWith (.ListComp elt gs scope pos) (some (.Name y py)) l env = pure true := by
  have ky : env.kindOf y = some .local := hy
  have hb : env.blockKind = .function := by unfold Env.blockKind; rw [hk]; rfl
  unfold swapsWith
  simp only [hb, ky, ha, Expr.pos, hl]
  rfl
end

/-! ### the forms one uses -/
/-- over a range: Pv by the turn and the heap (the new list at D within) -/
theorem lc_range {lo : Int} {n : Nat} {g : TG} {tt : TT} {te : TE} {vs : List Nat} {σ : St} {H1 : Hp} {D : Addr} {Qd : Hp → Prop} (Pv : Nat → Hp → Prop) (h0 : Pv 0 (upd H1 D (.lst [])))
    (hs : ∀ i H, i < n → Pv i H → g (.int (lo + i)) (wipe σ vs) H fun σ2 H2 => wipe σ2 vs = wipe σ vs ∧ tt σ2 H2 fun b H3 =>
      if b = true then te σ2 H3 fun y H4 => ∃ acc, H4 D = some (.lst acc) ∧ acc.length < sizeLine ∧ Pv (i + 1) (upd H4 D (.lst (acc ++ [y]))) else Pv (i + 1) H3) (hd : ∀ H, Pv n H → Qd H) :
    ∃ W : Nat → Nat → Hp → Prop, (∃ m, W 0 m (upd H1 D (.lst []))) ∧ ∀ i m H, W i m H →
      ((Itr lo n).stop i H ∧ Qd H) ∨ ((Itr lo n).go i H ∧ ∃ Nx : Hp → Prop, (∀ H', Nx H' → ∃ m', m' < m ∧ W (i + 1) m' H') ∧ ∀ x H', (Itr lo n).yld i H x H' → g x (wipe σ vs) H' fun σ2 H2 => wipe σ2 vs = wipe σ vs ∧ tt σ2 H2 fun b H3 =>
        if b = true then te σ2 H3 fun y H4 => ∃ acc, H4 D = some (.lst acc) ∧ acc.length < sizeLine ∧ Nx (upd H4 D (.lst (acc ++ [y]))) else Nx H3) := by
  refine ⟨fun i m H => m = n - i ∧ i ≤ n ∧ Pv i H, ⟨n, by simp, Nat.zero_le _, h0⟩, ?_⟩
  rintro i m H ⟨rfl, hi, p⟩
  by_cases hlt : i < n
  · refine .inr ⟨hlt, Pv (i + 1), fun H' p' => ⟨n - (i + 1), by omega, rfl, hlt, p'⟩, fun x H' y => ?_⟩
    obtain ⟨e, y⟩ := y
    subst e y
    exact hs i _ hlt p
  · have e : i = n := by omega
    subst e
    exact .inl ⟨Nat.le_refl _, hd H p⟩
/-- over a list that the block leaves as it is -/
theorem lc_list {K : PySem.W.Frag} {a : Addr} {xs : List V} {g : TG} {tt : TT} {te : TE} {vs : List Nat} {σ : St} {H1 : Hp} {D : Addr} {Qd : Hp → Prop} (Pv : Nat → Hp → Prop) (h0 : Pv 0 (upd H1 D (.lst []))) (hl : ∀ i H, i ≤ xs.length → Pv i H → SqL K H a xs)
    (hs : ∀ i x H, xs[i]? = some x → Pv i H → g x (wipe σ vs) H fun σ2 H2 => wipe σ2 vs = wipe σ vs ∧ tt σ2 H2 fun b H3 =>
      if b = true then te σ2 H3 fun y H4 => ∃ acc, H4 D = some (.lst acc) ∧ acc.length < sizeLine ∧ Pv (i + 1) (upd H4 D (.lst (acc ++ [y]))) else Pv (i + 1) H3) (hd : ∀ H, Pv xs.length H → Qd H) :
    ∃ W : Nat → Nat → Hp → Prop, (∃ m, W 0 m (upd H1 D (.lst []))) ∧ ∀ i m H, W i m H →
      ((Itl K a).stop i H ∧ Qd H) ∨ ((Itl K a).go i H ∧ ∃ Nx : Hp → Prop, (∀ H', Nx H' → ∃ m', m' < m ∧ W (i + 1) m' H') ∧ ∀ x H', (Itl K a).yld i H x H' → g x (wipe σ vs) H' fun σ2 H2 => wipe σ2 vs = wipe σ vs ∧ tt σ2 H2 fun b H3 =>
        if b = true then te σ2 H3 fun y H4 => ∃ acc, H4 D = some (.lst acc) ∧ acc.length < sizeLine ∧ Nx (upd H4 D (.lst (acc ++ [y]))) else Nx H3) := by
  refine ⟨fun i m H => m = xs.length - i ∧ i ≤ xs.length ∧ Pv i H, ⟨xs.length, by simp, Nat.zero_le _, h0⟩, ?_⟩
  rintro i m H ⟨rfl, hi, p⟩
  have q := hl i H hi p
  by_cases hlt : i < xs.length
  · refine .inr ⟨⟨xs, xs[i], q, by simp [hlt]⟩, Pv (i + 1), fun H' p' => ⟨xs.length - (i + 1), by omega, rfl, hlt, p'⟩, fun x H' y => ?_⟩
    obtain ⟨e, y⟩ := y
    subst e
    exact hs i x _ (y xs q) p
  · have e : i = xs.length := by omega
    subst e
    exact .inl ⟨⟨xs, q, Nat.le_refl _⟩, hd H p⟩

def blkC (N : List Str) (sc scope : Scope) (own : List (Str × Nat)) : Bool :=
  (match scope.kind with | .function => true | _ => false) && (scope.names.all fun y => decide (scope.names.lookup y.1 = some y.2)) && (own.all fun p => decide (N[p.2]? = some p.1)) &&
    (scope.names.all fun y => match y.2 with
      | .free => (match sc.names.lookup y.1 with | some .cell => true | some .free => true | _ => false)
      | .local => decide (y.1 ∈ own.map (·.1)) || decide (y.1 ∉ N)
      | .cell => decide (y.1 ∈ own.map (·.1)) || decide (y.1 ∉ N)
      | _ => true)
theorem blkOk_by {N : List Str} {sc scope : Scope} {own : List (Str × Nat)} (h : blkC N sc scope own = true) : BlkOk N sc scope own := by
  unfold blkC at h
  simp only [Bool.and_eq_true, List.all_eq_true, decide_eq_true_eq] at h
  obtain ⟨⟨⟨h1, h2⟩, h3⟩, h4⟩ := h
  refine ⟨?_, h2, h3, fun y hy e => ?_, fun y hy e => ?_⟩
  · split at h1
    · assumption
    · cases h1
  · have q := h4 y hy
    simp only [e] at q
    split at q <;> first | exact .inl (by assumption) | exact .inr (by assumption) | cases q
  · have q := h4 y hy
    rcases e with e | e <;> (simp only [e, Bool.or_eq_true, decide_eq_true_eq] at q; exact q)
end L2

namespace L2
open PySem PySem.Spec PyProof.Rows

section
variable {prog : Program} {w : World} {A : Around} {R : Result → Shared → Prop} {s : Shared} {elt t0 i0 t1 i1 : Expr} {ifs0 ifs1 : List Expr} {scope : Scope} {pos : Pos} {it acc : Value} {env : Env}

end

section
variable {X : Cx}

end
end L2

namespace L2
open PySem PySem.Spec PyProof.Rows

/-! ### lists of pairs as tables -/
section
variable {κ : Type} [DecidableEq κ]

end

/-! ### a tracked dict, its keys ints and texts or tuples of these -/

section
variable {P : Program} {w : World} {H : Hp} {h : Heap} {a : Addr}

end

section
variable {X : Cx} {pins : List (Addr × Obj)} {σ : St} {H : Hp} {s : Shared} {a : Addr} {y v : V} {u r : Value} {o : Option V} {A : Around} {E : Value → Shared → Prop}

end

section
variable {X : Cx} {pins : List (Addr × Obj)} {σ : St} {H : Hp} {s : Shared} {a : Addr} {kvs : List (Key × V)} {k : Key} {u : Value} {A : Around} {E : Value → Shared → Prop}

end

/-! ### readings and rules -/

section
variable {X : Cx} {o i e value : Expr} {pos pos' tpos : Pos} {td ty tv : TE}

end

/-! ### displays -/

section
variable {X : Cx} {pos : Pos}

end

/-! ### methods -/

section
variable {X : Cx} {pins : List (Addr × Obj)} {σ : St} {H : Hp} {s : Shared} {a : Addr} {y d : V} {u r : Value} {o : Option V} {A : Around} {E : Value → Shared → Prop}

end

section
variable {X : Cx} {o e f : Expr} {apos cpos : Pos} {td ty tx : TE}

end

/-! ### dict(d): a copy -/
section
variable {X : Cx} {pins : List (Addr × Obj)} {σ : St} {H : Hp} {s : Shared} {a : Addr} {kvs : List (Key × V)} {A : Around} {E : Value → Shared → Prop}

end

section
variable {X : Cx} {pins : List (Addr × Obj)} {σ : St} {H : Hp} {s : Shared} {a : Addr} {y : V} {u : Value} {A : Around} {E : Value → Shared → Prop}

end
end L2

namespace L2
open PySem PySem.Spec PyProof.Rows

section
variable {prog : Program} {w : World} {A : Around} {E : Value → Shared → Prop}

end

section
variable {X : Cx}

end
end L2

namespace L2
open PySem PySem.Spec PyProof.Rows

section
variable {X : Cx} {pins : List (Addr × Obj)} {σ : St} {H : Hp} {s : Shared} {h' : Heap}

/-! ### locking a thing while a statement runs -/

end

section
variable {X : Cx}

/-! ### one iterator just laid -/

end

/-! ### range with a step -/

section
variable {X : Cx} {tg : Expr}

end

/-! ### reversed(list) -/

section
variable {X : Cx} {tg : Expr}

end

/-! ### a str -/

/-! ### a dict's keys: any dict's entries -/
section
variable {prog : Program} {w : World} {A : Around} {E : Value → Shared → Prop} {s : Shared}

end

/-! ### a locked dict -/

section
variable {X : Cx} {pins : List (Addr × Obj)} {σ : St} {H : Hp} {s : Shared} {d : Addr} {o : Obj}

end

section
variable {P : Program} {w : World} {K : PySem.W.Frag} {tg : Expr} {d : Addr} {o : Obj} {es : Array DictEntry} {ep : Nat}

end

/-! ### for k in d, d.keys(), d.values(), d.items() -/

section
variable {X : Cx} {tg e : Expr} {td : TE} {apos cpos : Pos}

end

/-! ### enumerate(list) -/

/-! ### zip(list, list) -/

end L2

section 
namespace Bits
open PySem PyProof.Rows

end Bits
end 

section 
namespace TL
open PySem PySem.Builtin PySem.Builtin.Str PySem.StrLaws

/-! ### the list functions -/

/-! ### the model's split and partition are these -/

/-! ### computing spl and par -/

/-! ### digits -/

/-! ### words: x.split() -/

end TL
end 

namespace L2
open PySem PySem.Spec PyProof.Rows

section
variable {X : Cx} {pins : List (Addr × Obj)} {σ : St} {H : Hp} {s : Shared} {Q : VK}

end

section
variable {X : Cx}

/-! ### of a text alone -/

/-! ### of a text and a text -/

end

section
variable {X : Cx} {o e : Expr} {to te : TE}

end
end L2

namespace L2
open PySem PySem.Spec PyProof.Rows

section
variable {X : Cx}

end

/-! ### slices of a text -/

end L2

namespace Att
open PySem PySem.W PySem.Calls PyProof.Rows

/-! ### the script -/

/-! ### the attachment: holds_open's last premise (the goal 'hc' behind k_head) from a wpAny of the law's body -/

/-! ### rules over ANY heap (no ledger) from facts about the written part K: the library's own take a ledger (News) for what they write -/
section
variable {prog : Program} {w : World} {A : Around} {E : Value → Shared → Prop} {s : Shared} {K : Frag}

/-! the whole heap as the ledger: makes every rule that writes through a ledger a rule over any heap -/

end
end Att

namespace L2
open PySem PySem.Spec PyProof.Rows

end L2

namespace L2
open PySem PySem.Spec PyProof.Rows

end L2

/- THE LAST THEOREM (shape; LID, My.* are yours):
   My.Adr: a structure of the addresses that your layer names (classes, functions); My.Txt K t: a structure (Prop) of the equations over K;
   My.txt_mk : {K} {implicit addresses ..} (e1 : nsIn K mainGlobals "law" = some (some (.ref f))) (e2 : K.lookup f = some ⟨oc, od, .func (fnOf "law" "law" params body scope dV kV doc pm an cdv ct), sl⟩) (e3 : codeIn K cdv "law" = true) .. : ∃ t, My.Txt K t

set_option maxRecDepth 100000 in
set_option maxHeartbeats 0 in
theorem PySem.Challenge.cw_LID_holds : PySem.Challenge.rw_LID.Holds := by
  w_on; o_law; k_head; (case hw => w_witness2)
  k_fill
  refine L2.walk_of (l := PySem.Challenge.rw_LID) (n := 63) (k := 40) (x := "script") (CX := fun w => ..) (sp := fun _ => My.sp_law) rfl (by decide) rfl ⟨rfl, by decide, by decide⟩ (fun w h Y => PySem.W.kIn_of Y) ?F ?S ?C
  case F =>
    intro w mg fa h KX G hmg
    have T : ∃ t, My.Txt (L2.KOf KX) t := by
      dsimp only [L2.KOf]                          -- K must stand as «<heap const> w.params» for k_is
      refine' My.txt_mk ?e1 ?e2 ?e3 ..
      (case e1 => PySem.W.k_is)                    -- in the order: a name -> its address -> its object -> its parts
      (case e2 => PySem.W.k_is)
      ..
    obtain ⟨t, T⟩ := T
    have e0 := hmg.symm.trans (PySem.W.mg_of KX G T.law)
    cases e0                                       -- fa is the law's own address
    exact ⟨_, fun s u => .of_eq rfl, fun base kb nb => My.law_fn T kb nb⟩     -- if «.of_eq rfl» comes too early: refine' ⟨_, ?b, fun base kb nb => My.law_fn T kb nb⟩; exact fun s u => .of_eq rfl
  case S => exact fun w H a ns hl hO hS => ..
  case C => exact ..
(the tactic k_is has no namespace: write k_is) -/

/-! SHORT WORDS over the layer: a def of the text, its body, what a loop and a test want. -/
namespace L2
open PySem PySem.Spec PyProof.Rows

/-! ### the text by places -/

def defArgs (s : Stmt) : Arguments := match s with
  | .FunctionDef _ a _ _ _ _ _ _ _ _ => a
  | _ => { posonlyargs := [], args := [], vararg := none, kwonlyargs := [], kw_defaults := [], kwarg := none, defaults := [] }
def defBody (s : Stmt) : List Stmt := match s with
  | .FunctionDef _ _ b _ _ _ _ _ _ _ => b
  | _ => []
def defScope (s : Stmt) : Scope := match s with
  | .FunctionDef _ _ _ _ _ _ sc _ _ _ => sc
  | _ => { kind := .function, names := [], isGenerator := false, isCoroutine := false }

/-! ### no exception leaves a def -/
abbrev CX0 : CXT := fun _ _ _ _ _ _ => False
abbrev E0 : XK := fun _ _ _ => False
theorem pass0 {X : Cx} : Passes CX0 X E0 := fun _ _ _ _ _ _ _ h => h.elim

/-! ### a def (or method) of the text as it stands behind the top -/
structure Fun (K : PySem.W.Frag) (x qual : Str) (st : Stmt) (f : Addr) (fd : FuncData) : Prop where
  ex : ∃ (oc : Value) (od : Option Addr) (kV doc pm : Value) (an : Option Addr) (cdv ct : Value) (osl : Array (Option Value)),
    fd = PySem.W.fnOf x qual (defArgs st) (defBody st) (defScope st) .none kV doc pm an cdv ct ∧ K.lookup f = some ⟨oc, od, .func fd, osl⟩ ∧ PySem.W.codeIn K cdv qual = true
  kp : PySem.W.keepIn K (.ref f) = true
section
variable {P : Program} {w : World} {K : PySem.W.Frag} {mg : Str → Option Value} {base : Heap}
/-- THE RULE for a def: its body as a term of rules, and the reading of that term -/
theorem Fun.ok {x qual : Str} {st : Stmt} {f : Addr} {fd : FuncData} {N ps : List Str} {k : Nat} {sp : Sp} (F : Fun K x qual st f fd) (S : FnScope N ps (defScope st)) (len : ∀ vs H Q E, sp vs H Q E → vs.length = ps.length)
    (hbody : ∀ (cdv : Value) (A : Around) (outer : List Env) (s : Shared) (H : Hp) (vs : List V) (Q : VK) (E : XK), Room k (A.deeper (envOfC qual (defScope st) s.heap.objs.size f cdv)) → sp vs H Q E →
      ∃ t, PSs (cxOf CX0 P w K mg base N qual (defScope st) f cdv A outer s H E).nox (defBody st) t ∧ t { nx := fun _ H' => Q .non H', rt := Q } (start N vs) H) : FnOk P w K mg base CX0 (k + 1) f fd ps sp := by
  obtain ⟨oc, od, kV, doc, pm, an, cdv, ct, osl, rfl, lk, hcd⟩ := F.ex
  refine fn_of lk hcd S len fun A outer s H vs Q E hr hsp => ?_
  obtain ⟨t, h, q⟩ := hbody cdv A outer s H vs Q E hr hsp
  exact ⟨t, h.nox, q⟩
/-- how its arguments bind (no defaults): h is «fun _ _ _ _ _ _ us hl => match us, hl with | [_, _], _ => rfl», one _ a parameter -/
theorem Fun.binds {x qual : Str} {st : Stmt} {f : Addr} {fd : FuncData} {ps : List Str} (F : Fun K x qual st f fd)
    (h : ∀ (kV doc pm : Value) (an : Option Addr) (cdv ct : Value) (us : List Value), us.length = ps.length → bindArgs (PySem.W.fnOf x qual (defArgs st) (defBody st) (defScope st) .none kV doc pm an cdv ct) ⟨us, []⟩ = pure (ps.zip us)) : Binds K fd ps [] := by
  obtain ⟨oc, od, kV, doc, pm, an, cdv, ct, osl, rfl, lk, hcd⟩ := F.ex
  exact .all (h kV doc pm an cdv ct)
theorem fun_mk {x qual : Str} {st : Stmt} {f : Addr} {oc : Value} {od an : Option Addr} {osl : Array (Option Value)} {kV doc pm cdv ct : Value} (l : K.lookup f = some ⟨oc, od, .func (PySem.W.fnOf x qual (defArgs st) (defBody st) (defScope st) .none kV doc pm an cdv ct), osl⟩)
    (c : PySem.W.codeIn K cdv qual = true) (k : PySem.W.keepIn K (.ref f) = true) : Fun K x qual st f (PySem.W.fnOf x qual (defArgs st) (defBody st) (defScope st) .none kV doc pm an cdv ct) := ⟨⟨oc, od, kV, doc, pm, an, cdv, ct, osl, rfl, l, c⟩, k⟩
end

theorem small1000 {n : Nat} (h : n ≤ 1000) : n < sizeLine := Nat.lt_of_le_of_lt h (by decide)

/-! ### expressions in short: the name that stands in the i-th slot -/
section
variable {X : Cx}
theorem pv (i : Nat) {x : Str} {pos : Pos} (hN : X.N[i]? = some x := by rfl) (hv : Vis X.env.scope x := by first | exact Or.inl rfl | exact Or.inr (Or.inl rfl) | exact Or.inr (Or.inr rfl)) (hd : (x == ("__debug__" : Str)) = false := by decide)
    (hcd : (x == ("__classdict__" : Str)) = false := by decide) : PE X (.Name x pos) (tVar i) := pe_var hN hv hd hcd

end

/-! ### tests -/
theorem iteF {A B : Prop} (h : B) : if false = true then A else B := by
  rw [if_neg Bool.false_ne_true]
  exact h
theorem iteT {A B : Prop} (h : A) : if true = true then A else B := by
  rw [if_pos rfl]
  exact h
theorem ite2 {c A B : Prop} [Decidable c] (h1 : c → A) (h2 : ¬ c → B) : if c then A else B := by
  by_cases h : c
  · rw [if_pos h]
    exact h1 h
  · rw [if_neg h]
    exact h2 h

/-! ### heaps -/
/-- all that was tracked is as it was -/
def Same (H H' : Hp) : Prop := ∀ b o, H b = some o → H' b = some o
theorem Same.refl (H : Hp) : Same H H := fun _ _ h => h
theorem Same.trans {H H1 H2 : Hp} (a : Same H H1) (b : Same H1 H2) : Same H H2 := fun c o h => b c o (a c o h)
theorem Same.free {H H' : Hp} (e : Same H H') {l : Addr} (h : H' l = Option.none) : H l = Option.none := by
  cases q : H l with
  | none => rfl
  | some o =>
    rw [e l o q] at h
    cases h
theorem Same.seq {K : PySem.W.Frag} {H H' : Hp} {a : Addr} {xs : List V} (e : Same H H') (h : SqL K H a xs) : SqL K H' a xs := by
  rcases h with (h | ⟨o, h⟩) | h
  · exact .inl (.inl (e _ _ h))
  · exact .inl (.inr ⟨o, e _ _ h⟩)
  · exact .inr h

/-! ### a dict's pairs: keys that differ -/
section
variable {κ : Type} [DecidableEq κ]

end
/-! ### lists -/
theorem at_of {xs : List V} {z : Int} {j : Nat} {v : V} (e : z = (j : Int)) (h : xs[j]? = some v) : atI xs z = some v := by
  rw [e]
  exact atI_nat h

end L2

section
set_option Elab.async false
set_option linter.all false
set_option maxRecDepth 100000
set_option maxHeartbeats 2000000
namespace L2
open PySem PySem.Spec PyProof.Rows
open PySem.W (WData Codec OpenSpec Well WellAll ReadsW ReadsAllW)
/-! ### an answer as data -/
mutual
/-- x stands for the datum d, lists and tuples all the way -/
inductive Dw (K : PySem.W.Frag) (H : Hp) : V → WData → Prop
  | non : Dw K H .non .none
  | bl (b : Bool) : Dw K H (.bl b) (.bool b)
  | int (i : Int) : Dw K H (.int i) (.int i)
  | str (x : Str) : Dw K H (.str x) (.str x)
  | byt (b : Array UInt8) : Dw K H (.byt b) (.bytes b.toList)
  | lst {a : Addr} {xs : List V} {ds : List WData} : SqL K H a xs → DwAll K H xs ds → Dw K H (.ref a) (.list ds)
  | tup {a : Addr} {xs : List V} {ds : List WData} : SqT K H a xs → DwAll K H xs ds → Dw K H (.ref a) (.tuple ds)
inductive DwAll (K : PySem.W.Frag) (H : Hp) : List V → List WData → Prop
  | nil : DwAll K H [] []
  | cons {v : V} {vs : List V} {d : WData} {ds : List WData} : Dw K H v d → DwAll K H vs ds → DwAll K H (v :: vs) (d :: ds)
end
theorem dw_ints {K : PySem.W.Frag} {H : Hp} : ∀ ns : List Int, DwAll K H (ns.map V.int) (ns.map WData.int)
  | [] => .nil
  | n :: r => .cons (.int n) (dw_ints r)
theorem ints_dw {K : PySem.W.Frag} {H : Hp} : ∀ (ns : List Int) (xs : List V), DwAll K H xs (ns.map WData.int) → xs = ns.map V.int
  | [], xs, h => by
    cases h
    rfl
  | n :: r, xs, h => by
    cases h with
    | cons h1 h2 =>
      cases h1
      rw [ints_dw r _ h2] <;> rfl
section
variable {P : Program} {w : World} {K : PySem.W.Frag} {H : Hp} {h : Heap} {R : PySem.W.WRecords} {cl : Str → Option Addr}
theorem sqL_at {a : Addr} {xs : List V} (hok : HOk P w H h) (KX : K.In h) (q : SqL K H a xs) : ∃ (its : List Value) (o : Obj) (n : Nat), Vals xs its ∧ h.get? a = some o ∧ o.cls = .type "list" ∧ o.data = .seq its.toArray n := by
  rcases q with q | ⟨o, its, n, e, hc, _, hd, _, hv⟩
  · obtain ⟨_, its, n, hv, e⟩ := (show ObjOk P w H h a (.lst xs) from q.ok hok)
    exact ⟨its, _, n, hv, e, rfl, rfl⟩
  · exact ⟨its.toList, o, n, hv, KX _ _ e, hc, by simp [hd]⟩
theorem sqT_at {a : Addr} {xs : List V} (hok : HOk P w H h) (KX : K.In h) (q : SqT K H a xs) : ∃ (its : List Value) (o : Obj) (n : Nat), Vals xs its ∧ h.get? a = some o ∧ o.cls = .type "tuple" ∧ o.data = .seq its.toArray n := by
  rcases q with q | ⟨o, its, n, e, hc, hd, _, hv⟩
  · obtain ⟨_, its, hv, o, e, hc, n, hd⟩ := (show ObjOk P w H h a (.tup xs) from q.ok hok)
    exact ⟨its, o, n, hv, e, hc, hd⟩
  · exact ⟨its.toList, o, n, hv, KX _ _ e, hc, by simp [hd]⟩
mutual
theorem Dw.reads (hok : HOk P w H h) (KX : K.In h) : ∀ (d : WData) (v : V) (u : Value), Dw K H v d → RelV v u → ∃ as, ReadsW R cl h u d as
  | .none, _, _, x, r => by
    cases x
    cases r
    exact ⟨_, ReadsW.none⟩
  | .bool b, _, _, x, r => by
    cases x
    cases r
    exact ⟨_, ReadsW.bool b⟩
  | .int i, _, _, x, r => by
    cases x
    obtain ⟨t, rfl⟩ := r
    exact ⟨_, ReadsW.int i t⟩
  | .str s, _, _, x, r => by
    cases x
    obtain ⟨t, rfl⟩ := r
    exact ⟨_, ReadsW.str s t⟩
  | .bytes b, _, _, x, r => by
    cases x
    obtain ⟨t, rfl⟩ := r
    exact ⟨_, ReadsW.bytes _ t⟩
  | .list ds, _, _, x, r => by
    cases x with
    | lst hs ha =>
      cases r
      obtain ⟨its, o, n, rv, ho, hc, hd⟩ := sqL_at hok KX hs
      obtain ⟨as, hr⟩ := Dw.readsAll hok KX ds _ its ha rv
      exact ⟨_, ReadsW.list ho hc hd hr⟩
  | .tuple ds, _, _, x, r => by
    cases x with
    | tup hs ha =>
      cases r
      obtain ⟨its, o, n, rv, ho, hc, hd⟩ := sqT_at hok KX hs
      obtain ⟨as, hr⟩ := Dw.readsAll hok KX ds _ its ha rv
      exact ⟨_, ReadsW.tuple ho hc hd hr⟩
  | .float _, _, _, x, _ => by cases x
  | .dict _, _, _, x, _ => by cases x
  | .bytearray _, _, _, x, _ => by cases x
  | .set _, _, _, x, _ => by cases x
  | .frozenset _, _, _, x, _ => by cases x
  | .obj _ _, _, _, x, _ => by cases x
theorem Dw.readsAll (hok : HOk P w H h) (KX : K.In h) : ∀ (ds : List WData) (vs : List V) (us : List Value), DwAll K H vs ds → Vals vs us → ∃ as, ReadsAllW R cl h us ds as
  | [], _, _, x, r => by
    cases x
    cases r
    exact ⟨_, ReadsAllW.nil⟩
  | d :: ds, _, _, x, r => by
    cases x with
    | cons h1 h2 =>
      cases r with
      | cons r1 r2 =>
        obtain ⟨as, q1⟩ := Dw.reads hok KX d _ _ h1 r1
        obtain ⟨bs, q2⟩ := Dw.readsAll hok KX ds _ _ h2 r2
        exact ⟨_, ReadsAllW.cons q1 q2⟩
end
end
/-! ### the arguments -/
mutual
/-- data that a codec tells -/
def plW : WData → Bool
  | .none => true
  | .bool _ => true
  | .int _ => true
  | .str _ => true
  | .bytes _ => true
  | .list xs => plWs xs
  | .tuple xs => plWs xs
  | _ => false
def plWs : List WData → Bool
  | [] => true
  | x :: r => plW x && plWs r
end
theorem plWs_map {α : Type} {f : α → WData} (h : ∀ a, plW (f a) = true) : ∀ l : List α, plWs (l.map f) = true
  | [] => rfl
  | x :: r => by
    show (plW (f x) && plWs (r.map f)) = true
    rw [h x, plWs_map h r] <;> rfl
theorem pl_enc : ∀ (c : Codec) (a : c.denote), plW (c.enc a) = true
  | .unit, _ => rfl
  | .bool, _ => rfl
  | .int _ _, _ => rfl
  | .nat _ _, _ => rfl
  | .u8, _ => rfl
  | .bytes _ _, _ => rfl
  | .text _ _ _ _, _ => rfl
  | .list _ _ c, a => plWs_map (fun x => pl_enc c x) a
  | .pair c d, a => by
    show (plW (c.enc a.1) && (plW (d.enc a.2) && true)) = true
    rw [pl_enc c a.1, pl_enc d a.2] <;> rfl
  | .triple c d e, a => by
    show (plW (c.enc a.1) && (plW (d.enc a.2.1) && (plW (e.enc a.2.2) && true))) = true
    rw [pl_enc c a.1, pl_enc d a.2.1, pl_enc e a.2.2] <;> rfl
  | .option c, none => rfl
  | .option c, some x => pl_enc c x
theorem pl_encAll : ∀ (cs : List Codec) (a : Codec.denoteAll cs), plWs (Codec.encAll cs a) = true
  | [], _ => rfl
  | c :: cs, a => by
    show (plW (c.enc a.1) && plWs (Codec.encAll cs a.2)) = true
    rw [pl_enc c a.1, pl_encAll cs a.2] <;> rfl
theorem weight_mem : ∀ {xs : List WData} {d : WData}, d ∈ xs → d.weight ≤ WData.weightAll xs
  | [], d, h => absurd h (by simp)
  | x :: r, d, h => by
    show d.weight ≤ x.weight + 1 + WData.weightAll r
    rcases List.mem_cons.mp h with e | m
    · rw [e]
      omega
    · have z := weight_mem m
      omega
def toV : Value → V
  | .none => .non
  | .bool b => .bl b
  | .int i _ => .int i
  | .str x _ => .str x
  | .bytes b _ => .byt b
  | .ref a => .ref a
  | _ => .non
/-- a value of the arguments, its objects among A -/
def OkU (A : List Addr) : Value → Prop
  | .none => True
  | .bool _ => True
  | .int _ _ => True
  | .str _ _ => True
  | .bytes _ _ => True
  | .ref a => a ∈ A
  | _ => False
theorem OkU.mono {A B : List Addr} (h : ∀ a ∈ A, a ∈ B) : ∀ {u : Value}, OkU A u → OkU B u := fun {u} x => by
  cases u with
  | ref a => exact h a x
  | none => trivial
  | bool b => trivial
  | int i t => trivial
  | str s t => trivial
  | bytes b t => trivial
  | _ => exact False.elim x
theorem relV_toV {A : List Addr} {u : Value} (x : OkU A u) : RelV (toV u) u := by
  cases u with
  | ref a => rfl
  | none => rfl
  | bool b => rfl
  | int i t => exact ⟨t, rfl⟩
  | str s t => exact ⟨t, rfl⟩
  | bytes b t => exact ⟨t, rfl⟩
  | _ => exact False.elim x
theorem vals_toV {A : List Addr} : ∀ {vs : List Value}, (∀ u ∈ vs, OkU A u) → Vals (vs.map toV) vs
  | [], _ => .nil
  | u :: r, h => .cons (relV_toV (h u (List.mem_cons_self ..))) (vals_toV fun x hx => h x (List.mem_cons_of_mem _ hx))
/-- an object of the arguments -/
def ArgOb (h : Heap) (A : List Addr) (a : Addr) : Prop := ∃ vs : List Value, vs.length ≤ sizeLine ∧ (∀ u ∈ vs, OkU A u) ∧
  (h.get? a = some { cls := .type "list", data := .seq vs.toArray } ∨ h.get? a = some { cls := .type "tuple", data := .seq vs.toArray })
theorem ArgOb.mono {h : Heap} {A B : List Addr} {a : Addr} (k : ∀ a ∈ A, a ∈ B) (x : ArgOb h A a) : ArgOb h B a := by
  obtain ⟨vs, h1, h2, h3⟩ := x
  exact ⟨vs, h1, fun u hu => (h2 u hu).mono k, h3⟩
theorem wellAll_len {P : Params} {h : Heap} : ∀ {vs : List Value} {ds : List WData}, WellAll P h vs ds → vs.length = ds.length
  | _, _, .nil => rfl
  | _, _, .cons _ b => by
    show _ + 1 = _ + 1
    rw [wellAll_len b]
theorem well_list {P : Params} {h : Heap} {v : Value} {ds : List WData} (x : Well P h v (.list ds)) : ∃ (a : Addr) (vs : List Value), v = .ref a ∧ h.get? a = some { cls := .type "list", data := .seq vs.toArray } ∧ WellAll P h vs ds := by
  cases x with
  | list ho hall => exact ⟨_, _, rfl, ho, hall⟩
theorem well_tuple {P : Params} {h : Heap} {v : Value} {ds : List WData} (x : Well P h v (.tuple ds)) : ∃ (a : Addr) (vs : List Value), v = .ref a ∧ h.get? a = some { cls := .type "tuple", data := .seq vs.toArray } ∧ WellAll P h vs ds := by
  cases x with
  | tuple ho hall => exact ⟨_, _, rfl, ho, hall⟩
theorem well_cons {P : Params} {h : Heap} {us : List Value} {d : WData} {ds : List WData} (x : WellAll P h us (d :: ds)) : ∃ (v : Value) (vs : List Value), us = v :: vs ∧ Well P h v d ∧ WellAll P h vs ds := by
  cases x with
  | cons a b => exact ⟨_, _, rfl, a, b⟩
theorem line_of {n : Nat} (h : n ≤ 1048576) : n ≤ sizeLine := Nat.le_trans h (by decide)
section
variable {P : Params} {h : Heap}
mutual
theorem area_one : ∀ (d : WData) (v : Value), Well P h v d → plW d = true → d.weight ≤ 1048576 → ∃ A : List Addr, OkU A v ∧ ∀ a ∈ A, ArgOb h A a
  | .none, _, x, _, _ => by
    cases x
    exact ⟨[], trivial, fun a m => absurd m (by simp)⟩
  | .bool b, _, x, _, _ => by
    cases x
    exact ⟨[], trivial, fun a m => absurd m (by simp)⟩
  | .int i, _, x, _, _ => by
    cases x
    exact ⟨[], trivial, fun a m => absurd m (by simp)⟩
  | .str s, _, x, _, _ => by
    cases x
    exact ⟨[], trivial, fun a m => absurd m (by simp)⟩
  | .bytes b, _, x, _, _ => by
    cases x
    exact ⟨[], trivial, fun a m => absurd m (by simp)⟩
  | .list ds, _, x, p, z => by
    obtain ⟨a, vs, rfl, ho, hall⟩ := well_list x
    have z2 : WData.weightAll ds ≤ 1048576 := z
    obtain ⟨A, h1, h2⟩ := area_all ds _ hall p fun d hd => Nat.le_trans (weight_mem hd) z2
    have k : ∀ b ∈ A, b ∈ a :: A := fun b hb => List.mem_cons_of_mem _ hb
    refine ⟨a :: A, List.mem_cons_self .., fun b hb => ?_⟩
    rcases List.mem_cons.mp hb with e | m
    · rw [e]
      exact ⟨vs, line_of (by rw [wellAll_len hall]; exact Nat.le_trans (PySem.W.length_le_weightAllW ds) z2), fun u hu => (h1 u hu).mono k, .inl ho⟩
    · exact (h2 b m).mono k
  | .tuple ds, _, x, p, z => by
    obtain ⟨a, vs, rfl, ho, hall⟩ := well_tuple x
    have z2 : WData.weightAll ds ≤ 1048576 := z
    obtain ⟨A, h1, h2⟩ := area_all ds _ hall p fun d hd => Nat.le_trans (weight_mem hd) z2
    have k : ∀ b ∈ A, b ∈ a :: A := fun b hb => List.mem_cons_of_mem _ hb
    refine ⟨a :: A, List.mem_cons_self .., fun b hb => ?_⟩
    rcases List.mem_cons.mp hb with e | m
    · rw [e]
      exact ⟨vs, line_of (by rw [wellAll_len hall]; exact Nat.le_trans (PySem.W.length_le_weightAllW ds) z2), fun u hu => (h1 u hu).mono k, .inr ho⟩
    · exact (h2 b m).mono k
  | .float _, _, _, p, _ => Bool.noConfusion (show false = true from p)
  | .dict _, _, _, p, _ => Bool.noConfusion (show false = true from p)
  | .bytearray _, _, _, p, _ => Bool.noConfusion (show false = true from p)
  | .set _, _, _, p, _ => Bool.noConfusion (show false = true from p)
  | .frozenset _, _, _, p, _ => Bool.noConfusion (show false = true from p)
  | .obj _ _, _, _, p, _ => Bool.noConfusion (show false = true from p)
theorem area_all : ∀ (ds : List WData) (vs : List Value), WellAll P h vs ds → plWs ds = true → (∀ d ∈ ds, d.weight ≤ 1048576) → ∃ A : List Addr, (∀ u ∈ vs, OkU A u) ∧ ∀ a ∈ A, ArgOb h A a
  | [], _, x, _, _ => by
    cases x
    exact ⟨[], fun u m => absurd m (by simp), fun a m => absurd m (by simp)⟩
  | d :: ds, _, x, p, z => by
    obtain ⟨v, vs, rfl, x1, x2⟩ := well_cons x
    have q : plW d = true ∧ plWs ds = true := Bool.and_eq_true_iff.mp p
    obtain ⟨A, a1, a2⟩ := area_one d v x1 q.1 (z d (List.mem_cons_self ..))
    obtain ⟨B, b1, b2⟩ := area_all ds vs x2 q.2 fun e he => z e (List.mem_cons_of_mem _ he)
    have kA : ∀ b ∈ A, b ∈ A ++ B := fun b hb => List.mem_append.mpr (.inl hb)
    have kB : ∀ b ∈ B, b ∈ A ++ B := fun b hb => List.mem_append.mpr (.inr hb)
    refine ⟨A ++ B, fun u hu => ?_, fun b hb => ?_⟩
    · rcases List.mem_cons.mp hu with e | m
      · rw [e]
        exact a1.mono kA
      · exact (b1 u m).mono kB
    · rcases List.mem_append.mp hb with m | m
      · exact (a2 b m).mono kA
      · exact (b2 b m).mono kB
end
end
/-- what is tracked of an argument's object -/
def hoOf (o : Obj) : Option HO := match o.data with
  | .seq vs _ => if (o.cls == Value.type "list") = true then some (.frz o (.lst (vs.toList.map toV))) else some (.frz o (.tup (vs.toList.map toV)))
  | _ => none
def argH (K : PySem.W.Frag) (h : Heap) (A : List Addr) : Hp := fun b => if b ∈ A then (if (K.lookup b).isNone = true then (h.get? b).bind hoOf else none) else none
/-- nothing is tracked but what is known to the object -/
def OnlyF (H : Hp) : Prop := ∀ b, H b = none ∨ ∃ o u, H b = some (.frz o u)
theorem hoOf_lst (vs : List Value) : hoOf { cls := .type "list", data := .seq vs.toArray } = some (.frz { cls := .type "list", data := .seq vs.toArray } (.lst (vs.map toV))) := by
  show (if (Value.type "list" == Value.type "list") = true then some (HO.frz { cls := .type "list", data := .seq vs.toArray } (.lst (vs.toArray.toList.map toV))) else some (HO.frz { cls := .type "list", data := .seq vs.toArray } (.tup (vs.toArray.toList.map toV)))) = _
  rw [if_pos (beq_self_eq_true _)]
theorem hoOf_tup (vs : List Value) : hoOf { cls := .type "tuple", data := .seq vs.toArray } = some (.frz { cls := .type "tuple", data := .seq vs.toArray } (.tup (vs.map toV))) := by
  show (if (Value.type "tuple" == Value.type "list") = true then some (HO.frz { cls := .type "tuple", data := .seq vs.toArray } (.lst (vs.toArray.toList.map toV))) else some (HO.frz { cls := .type "tuple", data := .seq vs.toArray } (.tup (vs.toArray.toList.map toV)))) = _
  rw [if_neg (by decide)]
section
variable {P : Program} {w : World} {K : PySem.W.Frag} {h : Heap} {A : List Addr}
theorem argH_at {b : Addr} {o : Obj} (hb : b ∈ A) (hk : K.lookup b = none) (e : h.get? b = some o) : argH K h A b = hoOf o := by
  unfold argH
  rw [if_pos hb, hk, if_pos (show (none : Option Obj).isNone = true from rfl), e] <;> rfl
theorem of_argH {b : Addr} {u : HO} (q : argH K h A b = some u) : b ∈ A ∧ K.lookup b = none := by
  unfold argH at q
  by_cases hb : b ∈ A
  · rw [if_pos hb] at q
    cases hk : K.lookup b with
    | none => exact ⟨hb, rfl⟩
    | some o =>
      rw [hk, if_neg (by simp)] at q
      cases q
  · rw [if_neg hb] at q
    cases q
/-- what stands tracked -/
theorem argH_is (ar : ∀ a ∈ A, ArgOb h A a) {b : Addr} {u : HO} (q : argH K h A b = some u) : K.lookup b = none ∧ ∃ vs : List Value, vs.length ≤ sizeLine ∧ (∀ u ∈ vs, OkU A u) ∧
    ((h.get? b = some { cls := .type "list", data := .seq vs.toArray } ∧ u = .frz { cls := .type "list", data := .seq vs.toArray } (.lst (vs.map toV))) ∨
     (h.get? b = some { cls := .type "tuple", data := .seq vs.toArray } ∧ u = .frz { cls := .type "tuple", data := .seq vs.toArray } (.tup (vs.map toV)))) := by
  obtain ⟨hb, hk⟩ := of_argH q
  obtain ⟨vs, h1, h2, h3⟩ := ar b hb
  refine ⟨hk, vs, h1, h2, ?_⟩
  rcases h3 with e | e
  · rw [argH_at hb hk e, hoOf_lst] at q
    exact .inl ⟨e, (Option.some.inj q).symm⟩
  · rw [argH_at hb hk e, hoOf_tup] at q
    exact .inr ⟨e, (Option.some.inj q).symm⟩
theorem argH_only (ar : ∀ a ∈ A, ArgOb h A a) : OnlyF (argH K h A) := fun b => by
  cases q : argH K h A b with
  | none => exact .inl rfl
  | some u =>
    obtain ⟨_, vs, _, _, ⟨_, e⟩ | ⟨_, e⟩⟩ := argH_is ar q
    · exact .inr ⟨_, _, by rw [e]⟩
    · exact .inr ⟨_, _, by rw [e]⟩
theorem argH_ok (ar : ∀ a ∈ A, ArgOb h A a) : HOk P w (argH K h A) h := fun b u q => by
  obtain ⟨_, vs, h1, h2, ⟨e, rfl⟩ | ⟨e, rfl⟩⟩ := argH_is ar q
  · exact ⟨e, by rw [List.length_map]; exact h1, vs, _, vals_toV h2, e⟩
  · exact ⟨e, by rw [List.length_map]; exact h1, vs, vals_toV h2, _, e, rfl, _, rfl⟩
theorem seq_inj {c c' : Value} {vs us : List Value} (e : (some { cls := c, data := .seq vs.toArray } : Option Obj) = some { cls := c', data := .seq us.toArray }) : c = c' ∧ vs = us := by
  have e1 := Option.some.inj e
  have e2 : c = c' := congrArg Obj.cls e1
  have e3 : Data.seq vs.toArray = Data.seq us.toArray := congrArg Obj.data e1
  injection e3 with e4
  refine ⟨e2, ?_⟩
  have e5 := congrArg Array.toList e4
  simpa using e5
/-- a list argument -/
theorem argL (KX : K.In h) (ar : ∀ a ∈ A, ArgOb h A a) {a : Addr} {vs : List Value} (ha : a ∈ A) (e : h.get? a = some { cls := .type "list", data := .seq vs.toArray }) : (∀ u ∈ vs, OkU A u) ∧ SqL K (argH K h A) a (vs.map toV) := by
  obtain ⟨us, h1, h2, h3⟩ := ar a ha
  have hu : us = vs := by
    rcases h3 with q | q
    · rw [e] at q
      exact (seq_inj q).2.symm
    · rw [e] at q
      exact absurd (Value.type.inj (seq_inj q).1) (by decide)
  subst hu
  refine ⟨h2, ?_⟩
  cases hk : K.lookup a with
  | none => exact .inl (.inr ⟨_, by rw [argH_at ha hk e, hoOf_lst]⟩)
  | some o =>
    have e2 := KX a o hk
    rw [e] at e2
    obtain rfl := Option.some.inj e2
    exact .inr ⟨_, us.toArray, _, hk, rfl, rfl, rfl, by rw [List.size_toArray]; exact h1, by simpa using vals_toV h2⟩
theorem argT (KX : K.In h) (ar : ∀ a ∈ A, ArgOb h A a) {a : Addr} {vs : List Value} (ha : a ∈ A) (e : h.get? a = some { cls := .type "tuple", data := .seq vs.toArray }) : (∀ u ∈ vs, OkU A u) ∧ SqT K (argH K h A) a (vs.map toV) := by
  obtain ⟨us, h1, h2, h3⟩ := ar a ha
  have hu : us = vs := by
    rcases h3 with q | q
    · rw [e] at q
      exact absurd (Value.type.inj (seq_inj q).1) (by decide)
    · rw [e] at q
      exact (seq_inj q).2.symm
  subst hu
  refine ⟨h2, ?_⟩
  cases hk : K.lookup a with
  | none => exact .inl (.inr ⟨_, by rw [argH_at ha hk e, hoOf_tup]⟩)
  | some o =>
    have e2 := KX a o hk
    rw [e] at e2
    obtain rfl := Option.some.inj e2
    exact .inr ⟨_, us.toArray, _, hk, rfl, rfl, by rw [List.size_toArray]; exact h1, by simpa using vals_toV h2⟩
mutual
theorem dw_one {Pm : Params} (KX : K.In h) (ar : ∀ a ∈ A, ArgOb h A a) : ∀ (d : WData) (v : Value), Well Pm h v d → plW d = true → OkU A v → Dw K (argH K h A) (toV v) d
  | .none, _, x, _, _ => by
    cases x
    exact .non
  | .bool b, _, x, _, _ => by
    cases x
    exact .bl b
  | .int i, _, x, _, _ => by
    cases x
    exact .int i
  | .str s, _, x, _, _ => by
    cases x
    exact .str s
  | .bytes b, _, x, _, _ => by
    cases x
    have z := Dw.byt (K := K) (H := argH K h A) b.toArray
    exact z
  | .list ds, _, x, p, hu => by
    obtain ⟨a, vs, rfl, ho, hall⟩ := well_list x
    obtain ⟨h2, hs⟩ := argL KX ar hu ho
    exact .lst hs (dw_all KX ar ds _ hall p h2)
  | .tuple ds, _, x, p, hu => by
    obtain ⟨a, vs, rfl, ho, hall⟩ := well_tuple x
    obtain ⟨h2, hs⟩ := argT KX ar hu ho
    exact .tup hs (dw_all KX ar ds _ hall p h2)
  | .float _, _, _, p, _ => Bool.noConfusion (show false = true from p)
  | .dict _, _, _, p, _ => Bool.noConfusion (show false = true from p)
  | .bytearray _, _, _, p, _ => Bool.noConfusion (show false = true from p)
  | .set _, _, _, p, _ => Bool.noConfusion (show false = true from p)
  | .frozenset _, _, _, p, _ => Bool.noConfusion (show false = true from p)
  | .obj _ _, _, _, p, _ => Bool.noConfusion (show false = true from p)
theorem dw_all {Pm : Params} (KX : K.In h) (ar : ∀ a ∈ A, ArgOb h A a) : ∀ (ds : List WData) (vs : List Value), WellAll Pm h vs ds → plWs ds = true → (∀ u ∈ vs, OkU A u) → DwAll K (argH K h A) (vs.map toV) ds
  | [], _, x, _, _ => by
    cases x
    exact .nil
  | d :: ds, _, x, p, hu => by
    obtain ⟨v, vs, rfl, x1, x2⟩ := well_cons x
    have q : plW d = true ∧ plWs ds = true := Bool.and_eq_true_iff.mp p
    exact .cons (dw_one KX ar d v x1 q.1 (hu _ (List.mem_cons_self ..))) (dw_all KX ar ds vs x2 q.2 fun u m => hu u (List.mem_cons_of_mem _ m))
end
end
/-! ### the call -/
theorem spec_call {P : Program} {w : World} {K : PySem.W.Frag} {mg mb : Str → Option Value} {CX : CXT} {k : Nat} {fa : Addr} {fd : FuncData} {ps : List Str} {sp : Sp} {s₁ : Shared} {vals : List Value} {ds : List WData} {R : PySem.W.WRecords} {cl : Str → Option Addr} {d0 : WData}
    (KX : K.In s₁.heap) (hns : s₁.heap.Ns mainGlobals mg) (hb : s₁.heap.Ns builtinsNs mb) (hbb : ∀ x : Str, x ≠ "__name__" → mb x = bootBuiltins x) (hlim : s₁.heap.NoLimit) (hg : s₁.gens = #[])
    (hwl : WellAll w.params s₁.heap vals ds) (hpl : plWs ds = true) (hwt : ∀ d ∈ ds, d.weight ≤ 1048576) (hr : Room k callerA)
    (F : ∀ base : Heap, K.In base → base.Ns mainGlobals mg → FnOk P w K mg base CX k fa fd ps sp) (hbind : ∀ (s : Shared) (us : List Value), us.length = ps.length → BindsTo s fd ⟨us, []⟩ (ps.zip us)) (hlen : ds.length = ps.length)
    (hsp : ∀ (H : Hp) (xs : List V), OnlyF H → DwAll K H xs ds → sp xs H (fun v H' => Dw K H' v d0) fun _ _ _ => False)
    (hCX : ∀ H e s', CX [] H s₁ (fun _ _ _ => False) e s' → False) :
    codeAny (model P w) callerA (.call (.ref fa) ⟨vals, []⟩) (fun r s' => ∃ u as, r = .ok (.ret u) ∧ ReadsW R cl s'.heap u d0 as ∧ OldK s₁.heap s'.heap ∧ s'.os = s₁.os ∧ AllBare s'.gens) s₁ := by
  obtain ⟨A, ho, ar⟩ := area_all ds vals hwl hpl hwt
  have hO : OnlyF (argH K s₁.heap A) := argH_only ar
  have hok : HOk P w (argH K s₁.heap A) s₁.heap := argH_ok ar
  have hS := dw_all KX ar ds vals hwl hpl ho
  have hV := vals_toV ho
  have hK : ∀ b u, argH K s₁.heap A b = some u → K.lookup b = none := fun b u q => (argH_is ar q).1
  have noA : ∀ {b : Addr} {o : Obj} {es : Array DictEntry} {ep : Nat}, s₁.heap.get? b = some o → o.data = .dict es ep → argH K s₁.heap A b = none := fun {b o es ep} e d => by
    cases q : argH K s₁.heap A b with
    | none => rfl
    | some u =>
      obtain ⟨_, vs, _, _, ⟨e2, _⟩ | ⟨e2, _⟩⟩ := argH_is ar q
      · rw [e2] at e
        cases e
        have d' : Data.seq vs.toArray _ = Data.dict es ep := d
        cases d'
      · rw [e2] at e
        cases e
        have d' : Data.seq vs.toArray _ = Data.dict es ep := d
        cases d'
  generalize argH K s₁.heap A = H at hO hok hS hK noA
  have base_of : ∀ {b : Addr} {o : Obj}, s₁.heap.get? b = some o → H b = none → (hidT s₁.heap H).get? b = some o := fun e n => hidT_get e n
  have nsK : ∀ {b : Addr} {m : Str → Option Value}, s₁.heap.Ns b m → (hidT s₁.heap H).Ns b m := fun {b m} ⟨o, es, ep, e, d, r⟩ => ⟨o, es, ep, base_of e (noA e d), d, r⟩
  have nK : ∀ b o, K.lookup b = some o → H b = none := fun b o e => by
    cases q : H b with
    | none => rfl
    | some u =>
      rw [hK b u q] at e
      cases e
  have hKb : K.In (hidT s₁.heap H) := fun b o e => base_of (KX b o e) (nK b o e)
  have hM : Mod K mg (hidT s₁.heap H) := ⟨hKb, nsK hns, ⟨mb, nsK hb, hbb⟩, let ⟨mc, h1, h2⟩ := hlim; ⟨mc, nsK h1, h2⟩⟩
  have e0 : Env0 P w K mg (hidT s₁.heap H) callerA [] s₁ H := ⟨rfl, hM, fun b o e => of_hidT e, Nat.le_of_eq (hidT_size _ _), trivial, fun b hb => absurd (show b ∈ ([] : List Addr) from hb) (by simp), hok, .of_eq hg⟩
  have hl : vals.length = ps.length := by rw [wellAll_len hwl]; exact hlen
  refine codeAny_mono ((F _ hKb (nsK hns)).run callerA [] s₁ H ⟨vals, []⟩ vals (vals.map toV) _ _ hr e0 (hbind s₁ vals hl) hV (hsp H _ hO hS)) fun r s' x => ?_
  cases r with
  | error e => exact (hCX H e s' x).elim
  | ok fl =>
    cases fl with
    | next => exact False.elim x
    | brk => exact False.elim x
    | cont => exact False.elim x
    | ret u =>
      obtain ⟨v, H', os, bare, un, hok', r', q⟩ := x
      have kept : ∀ b o, s₁.heap.get? b = some o → s'.heap.get? b = some o := fun b o e => by
        cases q2 : H b with
        | none => exact un.keep b o e q2 (by intro z; exact absurd (show b ∈ ([] : List Addr) from z) (by simp)) (by simp)
        | some u2 =>
          rcases hO b with z | ⟨ob, u3, z⟩
          · rw [q2] at z
            cases z
          · have z2 := un.frzs b ob _ z
            obtain ⟨e1, _⟩ := hok b _ z
            obtain ⟨e2, _⟩ := hok' b _ z2
            rw [e] at e1
            cases e1
            exact e2
      have KX' : K.In s'.heap := fun b o e => kept b o (KX b o e)
      obtain ⟨as, hrd⟩ := Dw.reads (R := R) (cl := cl) hok' KX' d0 v u q r'
      exact ⟨u, as, rfl, hrd, OldK.of_keep kept, os, bare⟩
/-! ### the row -/
theorem layable_weight {ds : List WData} (h : WData.layableAll ds = true) : ∀ d ∈ ds, d.weight ≤ 1048576 := fun d hd =>
  (PySem.W.layableW_iff.mp (List.all_eq_true.mp h d hd)).2.2
theorem encAll_len : ∀ (cs : List Codec) (a : Codec.denoteAll cs), (Codec.encAll cs a).length = cs.length
  | [], _ => rfl
  | c :: cs, a => by
    show (Codec.encAll cs a.2).length + 1 = cs.length + 1
    rw [encAll_len cs a.2]
/-- the goal that k_headS leaves (case hc), from the promise of the row's def: whatever the arguments that the codecs let and the row asks for, the def gives what stands for enc (f ..) -/
theorem walk_spec {r : OpenSpec} {k : Nat} {q : Program} {loose : List Str} {XP : (Str → Option Value) → Heap → Prop} {YP : World → Heap → Prop} {d : DefRec} {K : Params → PySem.W.Frag} {CX : World → CXT} {ps : List Str} {sp : World → Sp}
    (hwell : r.wellSaid = true) (hdf : d.params.defaults = []) (hlen : r.args.length = ps.length) (hr : Room k callerA)
    (hY : ∀ (w : World) (h : Heap), YP w h → (K w.params).In h)
    (F : ∀ (w : World) (mg : Str → Option Value) (fa : Addr) (h : Heap), YP w h → (K w.params).In h → h.Ns mainGlobals mg → mg d.name = some (.ref fa) →
      ∃ fd : FuncData, (∀ (s : Shared) (us : List Value), us.length = ps.length → BindsTo s fd ⟨us, []⟩ (ps.zip us)) ∧
        ∀ base : Heap, (K w.params).In base → base.Ns mainGlobals mg → FnOk r.prog w (K w.params) mg base (CX w) k fa fd ps (sp w))
    (hsp : ∀ (w : World) (H : Hp) (xs : List V) (a : Codec.denoteAll r.args), OnlyF H → Codec.withinAll r.args a = true → Codec.app r.args r.asked a = true → DwAll (K w.params) H xs (Codec.encAll r.args a) →
      sp w xs H (fun v H' => Dw (K w.params) H' v (r.ret.enc (Codec.app r.args r.f a))) fun _ _ _ => False)
    (hCX : ∀ (w : World) (H : Hp) (s : Shared) (e : Value) (s' : Shared), CX w [] H s (fun _ _ _ => False) e s' → False) :
    PySem.W.WalkOS q loose XP YP r d [] (fun f vs => PySem.call f vs) := by
  intro w s_0 s₁ mg mb G Y fa o pm cd doc dV kV ho hd hcd hD hmg hg args vals as hpre hlay hrd hwl hlo
  obtain ⟨a, e1, e2⟩ := PySem.W.os_pre_some hpre
  obtain ⟨e3, hwi⟩ := Codec.encAll_of_decAll r.args args a e1
  subst e3
  have KX := hY w _ Y
  obtain ⟨fd, hb, hF⟩ := F w mg fa _ Y KX G.T.g hmg
  refine PySem.W.enter_call (codeAny_mono (spec_call (R := []) (cl := classAt s_0.heap) (d0 := r.ret.enc (Codec.app r.args r.f a)) KX G.T.g G.T.b G.T.builtins G.T.nolimit hg hwl (pl_encAll _ _) (layable_weight hlay) hr hF hb (by rw [encAll_len]; exact hlen)
    (fun H xs hO hS => hsp w H xs a hO hwi e2 hS) fun H e s' => hCX w H s₁ e s') fun r' s' hq => ?_)
  obtain ⟨u, as', rfl, h1, h2, h3, h4⟩ := hq
  exact ⟨.inl ⟨u, _, as', rfl, fun _ => rfl, h1, (OpenSpec.post_iff hwell hwi _ _).mpr rfl, fun z => Bool.noConfusion (show false = true from z)⟩, h2, h3, h4⟩
/-- the same where the promise hangs on the written part alone -/
theorem walk_specK {r : OpenSpec} {k : Nat} {q : Program} {loose : List Str} {XP : (Str → Option Value) → Heap → Prop} {YP : World → Heap → Prop} {d : DefRec} {K : Params → PySem.W.Frag} {CX : CXT} {ps : List Str} {sp : PySem.W.Frag → Sp}
    (hwell : r.wellSaid = true) (hdf : d.params.defaults = []) (hlen : r.args.length = ps.length) (hr : Room k callerA)
    (hY : ∀ (w : World) (h : Heap), YP w h → (K w.params).In h)
    (F : ∀ (w : World) (mg : Str → Option Value) (fa : Addr) (h : Heap), YP w h → (K w.params).In h → h.Ns mainGlobals mg → mg d.name = some (.ref fa) →
      ∃ fd : FuncData, (∀ (s : Shared) (us : List Value), us.length = ps.length → BindsTo s fd ⟨us, []⟩ (ps.zip us)) ∧
        ∀ base : Heap, (K w.params).In base → base.Ns mainGlobals mg → FnOk r.prog w (K w.params) mg base CX k fa fd ps (sp (K w.params)))
    (hsp : ∀ (K : PySem.W.Frag) (H : Hp) (xs : List V) (a : Codec.denoteAll r.args), OnlyF H → Codec.withinAll r.args a = true → Codec.app r.args r.asked a = true → DwAll K H xs (Codec.encAll r.args a) →
      sp K xs H (fun v H' => Dw K H' v (r.ret.enc (Codec.app r.args r.f a))) fun _ _ _ => False)
    (hCX : ∀ (H : Hp) (s : Shared) (e : Value) (s' : Shared), CX [] H s (fun _ _ _ => False) e s' → False) :
    PySem.W.WalkOS q loose XP YP r d [] (fun f vs => PySem.call f vs) :=
  walk_spec (K := K) (CX := fun _ => CX) (sp := fun w => sp (K w.params)) hwell hdf hlen hr hY F (fun w H xs a h1 h2 h3 h4 => hsp (K w.params) H xs a h1 h2 h3 h4) fun _ H s e s' => hCX H s e s'
end L2
-- rests on (row put in by the clerk, for the bench that shows a file only what it spells): KE.SpHead KE.OsShapes
end

set_option Elab.async false
set_option linter.all false
set_option maxRecDepth 100000
set_option maxHeartbeats 2000000
namespace JX
open PySem PySem.Spec PyProof.Rows PySem.SeqAt
/-! list.index from a place on -/
theorem list_index3At (l : Addr) (items : Array Value) (n : Nat) (dd : Option Addr) (sl : Array (Option Value)) (x : Value) (e : Value → Bool) (a : Nat) (t : Tok) (j : Nat) (hj : j < items.size) (hsmall : (j : Int) < 2 ^ 63 - 1) (haj : a ≤ j)
    (hit : e items[j] = true) (hno : ∀ m (hm : m < items.size), a ≤ m → m < j → e items[m] = false) :
    Meets (Builtin.«list.index» ⟨[.ref l, x, .int (a : Nat) t], []⟩)
      (fun A R s => s.heap.get? l = some { cls := .type "list", dict := dd, data := .seq items n, slots := sl } ∧ (∀ y, y ∈ items → EqAt A.in1 s y x (e y)) ∧ R (.ok (.ret (.int j s.toks))) { s with toks := s.toks + 1 }) := by
  intro prog w A R s h
  obtain ⟨hp, g, d, tk, os⟩ := s; obtain ⟨hl, he, h⟩ := h
  wp_walk using AutoSeq1.wpAny_loadPart' hl
  have a1 : ((fun i : Int => if i < 0 then max 0 (i + (items.size : Int)) else i) ((some (a : Int) : Option Int).getD 0)) = ((a : Nat) : Int) := by
    show (if (a : Int) < 0 then max 0 ((a : Int) + (items.size : Int)) else (a : Int)) = (a : Int)
    rw [if_neg (by omega)]
  have a2 : ((fun i : Int => if i < 0 then max 0 (i + (items.size : Int)) else i) ((none : Option Int).getD (2 ^ 63 - 1))) = 2 ^ 63 - 1 := by simp
  rw [a1, a2]
  exact ⟨plainId_quiet MeetsSeq.plain_index_loop _, codeAny_builtin MeetsSeq.entry_index_loop (by
    rw [Around.under_plainId MeetsSeq.plain_index_loop _]
    exact index_loopAt l items n dd sl x e (2 ^ 63 - 1) j hj hsmall hit _ a rfl haj (fun m hm h1 h2 => hno m hm h1 h2) prog w A R _ ⟨hl, he, h⟩)⟩
end JX
namespace L2
open PySem PySem.Spec PyProof.Rows
section
variable {X : Cx}
def rIndex3 (K : PySem.W.Frag) : V → List V → Hp → VK → Prop := fun x xs H Q => ∃ (a : Addr) (ns : List Int) (k : Int) (b j : Nat), x = V.ref a ∧ xs = [.int k, .int (b : Nat)] ∧ SqL K H a (ns.map V.int) ∧ b ≤ j ∧ ns[j]? = some k ∧
  (∀ (m : Nat) (z : Int), b ≤ m → m < j → ns[m]? = some z → z ≠ k) ∧ Q (.int (j : Nat)) H
theorem mt_index3 : MtR X "list.index" (rIndex3 X.K) := by
  intro pins s σ H x xs v us Q I rx rxs h
  obtain ⟨a, ns, k, b, j, rfl, rfl, hs, hbj, hz, hno, q⟩ := h
  cases rx
  cases rxs with
  | cons ry rt =>
    rename_i uy ut
    cases rt with
    | cons rb rt =>
    cases rt
    obtain ⟨tb, rfl⟩ := rb
    obtain ⟨its, rv, ⟨⟨cls, dd, data, sl⟩, n, ho, hc, hdn, hd⟩, hlen⟩ := I.list hs
    simp only at hc hd
    subst hc hd
    have hz' : (ns.map V.int)[j]? = some (V.int k) := by rw [List.getElem?_map, hz]; rfl
    obtain ⟨u, hu, ru⟩ := rv.get hz'
    obtain ⟨hjl, hje⟩ := List.getElem?_eq_some_iff.mp hu
    have hvl := rv.length
    have hj : j < its.toArray.size := by simpa using hjl
    have hsl := sizeLine_eq
    have fys : (ns.map V.int).all flatV = true := by
      rw [List.all_map]
      exact List.all_eq_true.mpr fun _ _ => rfl
    have fy : flatV (V.int k) = true := rfl
    refine call_meets PySem.F.slot_list_index ⟨_, ho, rfl⟩ PySem.F.entry_list_index (PySem.F.args_list_index_3 _ _ _)
      (JX.list_index3At a its.toArray n dd sl uy (eqU (V.int k)) b tb j hj (by omega) hbj ?_ ?_) ⟨ho, fun u' hu' => mem_eqAt ry fy rv fys u' (by simpa using hu'), ?_⟩
    · have e1 : its.toArray[j] = u := by simpa using hje
      rw [e1, eqU_of ru (flat_at fys hz')]
      simp [eqV]
    · intro m hm hbm hmj
      have hml : m < its.length := by simpa using hm
      have hmy : m < ns.length := by rw [List.length_map] at hvl; omega
      have hy' : (ns.map V.int)[m]? = some (V.int ns[m]) := by rw [List.getElem?_map, List.getElem?_eq_getElem hmy]; rfl
      obtain ⟨u2, hu2, ru2⟩ := rv.get hy'
      obtain ⟨_, hme⟩ := List.getElem?_eq_some_iff.mp hu2
      have e1 : its.toArray[m] = u2 := by simpa using hme
      rw [e1, eqU_of ru2 (flat_at fys hy')]
      have := hno m ns[m] hbm hmj (List.getElem?_eq_getElem hmy)
      simp [eqV, this]
    · exact ⟨.int (j : Nat), H, I.tok _, ⟨_, rfl⟩, q⟩
/-- xs[i], by values -/
def rGetL (K : PySem.W.Frag) : V → V → Hp → VK → Prop := fun o i H Q => ∃ p xs, ∃ j : Nat, ∃ v, o = .ref p ∧ i = .int (j : Nat) ∧ SqL K H p xs ∧ xs[j]? = some v ∧ Q v H
theorem get_list : PGet X (rGetL X.K) := by
  intro pins s σ H o i ov iv Q I ro ri h
  obtain ⟨p, xs, j, v, rfl, rfl, hq, hv, q⟩ := h
  cases ro
  obtain ⟨t, rfl⟩ := ri
  obtain ⟨its, r, pl, hz⟩ := I.list hq
  obtain ⟨w, ew, rw'⟩ := r.get hv
  have hl := r.length
  have hn := line63
  have hj : j < xs.length := (List.getElem?_eq_some_iff.mp hv).1
  exact wpAny_getItem_list pl.isList (by omega) (by omega) (by simpa using ew) ⟨v, H, I, rw', q⟩
/-- sorted(xs, reverse=True), ints -/
def tSortedR (K : PySem.W.Frag) (ta : TA) : TE := fun σ H Q => ta σ H fun vs H1 => ∃ (a : Addr) (ns : List Int), vs = [V.ref a] ∧ SqL K H1 a (ns.map V.int) ∧ ns.length < 64 ∧
  ∀ (ns' : List Int) (p : Addr), ns'.Perm ns → ns'.Pairwise (· ≥ ·) → H1 p = none → Q (.ref p) (upd H1 p (.lst (ns'.map V.int)))
theorem pe_sortedR {e : Expr} {ta : TA} {p pos kp cp : Pos} {j : Nat} (hg : Gl X "sorted") (hm : X.mg "sorted" = none) (ha : PA X [e] ta)
    (hs : starEach [e] X.env = [(false, eval e X.env)] := by rfl) : PE X (.Call (.Name "sorted" p) [e] [⟨some "reverse", .Constant (.bool true) j cp, kp⟩] pos) (tSortedR X.K ta) := by
  intro pins s σ H Q I h
  refine wpAny_Call_Name_kw (ld_blt I hg hm PyProof.Rows.boot_sorted ?_)
  refine callWith_kw (he := by rw [hs]; rfl) (hplain := by rw [hs]; rfl) (thn (ha pos pins s σ H _ I h) fun us s1 ⟨vs, H1, I1, r1, q1⟩ => ?_)
  · obtain ⟨a, ns, rfl, hq, h64, q⟩ := q1
    have hk : PK X [⟨some "reverse", .Constant (.bool true) j cp, kp⟩] (tCons (tC (.bl true)) tNil) := pk_cons pe_bl pk_nil
    refine thn (hk pos pins s1 σ H1 (fun zs H2 => zs = [.bl true] ∧ H2 = H1) I1 ⟨rfl, rfl⟩) fun ws s2 ⟨zs, H2, I2, r2, e1, e2⟩ => ?_
    subst e1 e2
    cases r2 with
    | cons rb rt =>
      cases rt
      cases rb
      obtain ⟨its, rv, hl, _⟩ := I2.list hq
      rw [Vals.ref1 r1]
      have hi := rv.ints
      refine PyProof.Rows.sorted_ints_rev (b := true) hl.isList hi (by rw [hi.length]; exact h64) fun out ns' h1 h2 h3 => ?_
      obtain ⟨ep, he'⟩ := PyProof.Rows.sortedAll_at s2.heap its out
      have hlen : (ns'.map V.int).length ≤ sizeLine := by rw [List.length_map, h2.length_eq]; exact small64 h64
      exact ⟨.ref _, upd _ (s2.heap.objs.size + 1) (.lst (ns'.map V.int)), I2.laid (t' := s2.toks) (fun _ _ => PyProof.Rows.sortedAll_old) (Nat.le_succ _) ⟨hlen, out.toList, ep, vals_of_ints h1, he'⟩, rfl, q ns' _ h2 h3 (I2.hok.fresh (Nat.le_succ _))⟩
end
end L2

/-! The mathematics: the specification's reading of a text, step by step, over lists of ints. -/
namespace Jm
open Jug

def by8 (t : List Int) : Bytes := t.map fun z => UInt8.ofNat z.toNat
def hI (z : Int) : Int := if 48 ≤ z ∧ z ≤ 57 then z - 48 else if 97 ≤ z ∧ z ≤ 102 then z - 97 + 10 else -1
def Ok8 (t : List Int) : Prop := ∀ z ∈ t, 0 ≤ z ∧ z ≤ 255

theorem Ok8.drop {t : List Int} (h : Ok8 t) (n : Nat) : Ok8 (t.drop n) := fun z hz => h z (List.mem_of_mem_drop hz)
theorem by8_nil : by8 [] = [] := rfl
theorem by8_cons (z : Int) (r : List Int) : by8 (z :: r) = UInt8.ofNat z.toNat :: by8 r := rfl
theorem by8_length (t : List Int) : (by8 t).length = t.length := by simp [by8]
theorem u8_toNat {z : Int} (h0 : 0 ≤ z) (h1 : z ≤ 255) : (UInt8.ofNat z.toNat).toNat = z.toNat := by
  rw [UInt8.toNat_ofNat']
  have : z.toNat < 256 := by omega
  omega
theorem u8_eq {z : Int} (h0 : 0 ≤ z) (h1 : z ≤ 255) (c : UInt8) : UInt8.ofNat z.toNat = c ↔ z = (c.toNat : Int) := by
  constructor
  · intro h
    have := congrArg UInt8.toNat h
    rw [u8_toNat h0 h1] at this
    omega
  · intro h
    apply UInt8.toNat_inj.mp
    rw [u8_toNat h0 h1]
    omega
theorem u8_93 {z : Int} (h0 : 0 ≤ z) (h1 : z ≤ 255) : UInt8.ofNat z.toNat = 93 ↔ z = 93 := u8_eq h0 h1 93
theorem u8_91 {z : Int} (h0 : 0 ≤ z) (h1 : z ≤ 255) : UInt8.ofNat z.toNat = 91 ↔ z = 91 := u8_eq h0 h1 91
theorem hI_lt (z : Int) : hI z < 16 := by unfold hI; split <;> (try split) <;> omega

theorem digitIn_none {z : Int} (h0 : 0 ≤ z) (h1 : z ≤ 255) (h : hI z < 0) : digitIn (UInt8.ofNat z.toNat) = none := by
  unfold digitIn
  rw [u8_toNat h0 h1]
  unfold hI at h
  split at h
  · omega
  · split at h
    · omega
    · rw [if_neg (by omega), if_neg (by omega)]
theorem digitIn_some {z : Int} (h0 : 0 ≤ z) (h1 : z ≤ 255) (h : 0 ≤ hI z) : digitIn (UInt8.ofNat z.toNat) = some (hI z).toNat := by
  unfold digitIn
  rw [u8_toNat h0 h1]
  unfold hI at h ⊢
  split at h
  · rename_i q
    rw [if_pos (by omega), if_pos q]
    congr 1
    omega
  · rename_i q
    split at h
    · rename_i q'
      rw [if_neg (by omega), if_pos (by omega), if_neg q, if_pos q']
      congr 1
      omega
    · omega
/-! handIn, a byte at a time -/
theorem hand_nil (p : Nat) (l : List Nat) : handIn p (by8 []) l = .error p := by simp [by8, handIn]
theorem hand_close (p : Nat) {z : Int} (r : List Int) (l : List Nat) (h : z = 93) : handIn p (by8 (z :: r)) l = if l.length < 2 then .error p else .ok (falling l, p + 1, by8 r) := by
  subst h
  rw [by8_cons]
  show handIn p ((93 : UInt8) :: by8 r) l = _
  rw [handIn, if_pos rfl]
theorem hand_bad (p : Nat) {z : Int} (r : List Int) (l : List Nat) (h0 : 0 ≤ z) (h1 : z ≤ 255) (h : z ≠ 93) (hb : 3 ≤ l.length ∨ hI z < 1) : handIn p (by8 (z :: r)) l = .error p := by
  rw [by8_cons, handIn, if_neg (fun e => h ((u8_93 h0 h1).mp e))]
  by_cases hn : hI z < 0
  · rw [digitIn_none h0 h1 hn]
  · rw [digitIn_some h0 h1 (by omega)]
    show (if (hI z).toNat = 0 ∨ ATONCE ≤ l.length then _ else _) = _
    rw [if_pos]
    show (hI z).toNat = 0 ∨ 3 ≤ l.length
    omega
theorem hand_go (p : Nat) {z : Int} (r : List Int) (l : List Nat) (h0 : 0 ≤ z) (h1 : z ≤ 255) (h : z ≠ 93) (hl : l.length < 3) (hb : 1 ≤ hI z) :
    handIn p (by8 (z :: r)) l = handIn (p + 1) (by8 r) (l ++ [(hI z).toNat]) := by
  rw [by8_cons, handIn, if_neg (fun e => h ((u8_93 h0 h1).mp e)), digitIn_some h0 h1 (by omega)]
  show (if (hI z).toNat = 0 ∨ ATONCE ≤ l.length then _ else _) = _
  rw [if_neg]
  show ¬((hI z).toNat = 0 ∨ 3 ≤ l.length)
  omega
def dg (z : Int) : Nat := (hI z).toNat
theorem hand_ok : ∀ (r : List Int) (p : Nat) (l : List Nat) (x : Beat) (q : Nat) (s : Bytes), Ok8 r → handIn p (by8 r) l = .ok (x, q, s) →
    ∃ ds rest, r = ds ++ 93 :: rest ∧ q = p + ds.length + 1 ∧ s = by8 rest ∧ x = falling (l ++ ds.map dg) ∧ (∀ z ∈ ds, 1 ≤ hI z ∧ z ≠ 93) ∧ 2 ≤ (l ++ ds.map dg).length ∧ ((l ++ ds.map dg).length ≤ max 3 l.length)
  | [], p, l, x, q, s, _, h => by rw [hand_nil] at h; cases h
  | z :: r, p, l, x, q, s, h8, h => by
    obtain ⟨h0, h1⟩ := h8 z (List.mem_cons_self)
    by_cases hz : z = 93
    · rw [hand_close p r l hz] at h
      split at h
      · cases h
      · rename_i hl
        cases h
        refine ⟨[], r, by rw [hz]; rfl, rfl, rfl, by simp, by simp, by simp; omega, by simp; omega⟩
    · by_cases hb : 3 ≤ l.length ∨ hI z < 1
      · rw [hand_bad p r l h0 h1 hz hb] at h
        cases h
      · rw [hand_go p r l h0 h1 hz (by omega) (by omega)] at h
        obtain ⟨ds, rest, e1, e2, e3, e4, e5, e6, e7⟩ := hand_ok r (p + 1) _ x q s (fun y hy => h8 y (List.mem_cons_of_mem _ hy)) h
        refine ⟨z :: ds, rest, by rw [e1]; rfl, by rw [e2, List.length_cons]; omega, e3, by rw [e4]; simp [dg], ?_, ?_, ?_⟩
        · intro y hy
          rcases List.mem_cons.mp hy with rfl | hy
          · exact ⟨by omega, hz⟩
          · exact e5 y hy
        · simp at e6 ⊢; omega
        · simp at e7 ⊢; omega
/-! one beat -/
def stepIn (p : Nat) : Bytes → Except Nat (Beat × Nat × Bytes)
  | [] => .error p
  | c :: r => if c = 91 then handIn (p + 1) r [] else match digitIn c with
    | none => .error p
    | some n => .ok (if n = 0 then [] else [n], p + 1, r)
theorem beats_nil (f p : Nat) (l : Pattern) : beatsIn (f + 1) p [] l = if l.isEmpty = true then .error p else .ok l := by rw [beatsIn]
theorem beats_long (f p : Nat) (c : UInt8) (r : Bytes) (l : Pattern) (h : 16 ≤ l.length) : beatsIn (f + 1) p (c :: r) l = .error p := by
  rw [beatsIn, if_pos (show LONG ≤ l.length from h)]
theorem beats_err (f p : Nat) (c : UInt8) (r : Bytes) (l : Pattern) (h : l.length < 16) {e : Nat} (hs : stepIn p (c :: r) = .error e) : beatsIn (f + 1) p (c :: r) l = .error e := by
  rw [beatsIn, if_neg (show ¬ LONG ≤ l.length by show ¬ 16 ≤ l.length; omega)]
  unfold stepIn at hs
  dsimp only at hs
  by_cases hc : c = 91
  · rw [if_pos hc] at hs ⊢
    rw [hs]
  · rw [if_neg hc] at hs ⊢
    cases hd : digitIn c with
    | none => rw [hd] at hs; cases hs; rfl
    | some n => rw [hd] at hs; cases hs
theorem beats_go (f p : Nat) (c : UInt8) (r : Bytes) (l : Pattern) (h : l.length < 16) {x : Beat} {q : Nat} {s : Bytes} (hs : stepIn p (c :: r) = .ok (x, q, s)) : beatsIn (f + 1) p (c :: r) l = beatsIn f q s (l ++ [x]) := by
  rw [beatsIn, if_neg (show ¬ LONG ≤ l.length by show ¬ 16 ≤ l.length; omega)]
  unfold stepIn at hs
  dsimp only at hs
  by_cases hc : c = 91
  · rw [if_pos hc] at hs ⊢
    rw [hs]
  · rw [if_neg hc] at hs ⊢
    cases hd : digitIn c with
    | none => rw [hd] at hs; cases hs
    | some n => rw [hd] at hs; cases hs; rfl
/-- a beat without a fault: its bytes -/
theorem step_ok {t : List Int} {p : Nat} {x : Beat} {q : Nat} {s : Bytes} (h8 : Ok8 t) (h : stepIn p (by8 t) = .ok (x, q, s)) :
    ∃ seg rest, t = seg ++ rest ∧ q = p + seg.length ∧ s = by8 rest ∧ 1 ≤ seg.length ∧ seg.length ≤ 5 ∧ x = falling (((seg.map hI).filter (fun z => decide (0 < z))).map Int.toNat) ∧
      (x.length ≤ 3 ∧ ∀ n ∈ ((seg.map hI).filter (fun z => decide (0 < z))), 1 ≤ n ∧ n ≤ 15) ∧
      (∀ z r, t = z :: r → (z = 91 → ∃ ds, seg = 91 :: ds ++ [93] ∧ ∀ y ∈ ds, y ≠ 93) ∧ (z ≠ 91 → seg.length = 1)) := by
  have pos15 : ∀ seg : List Int, ∀ n ∈ ((seg.map hI).filter (fun z => decide (0 < z))), 1 ≤ n ∧ n ≤ 15 := by
    intro seg n hn
    obtain ⟨hm, hp⟩ := List.mem_filter.mp hn
    obtain ⟨z, _, rfl⟩ := List.mem_map.mp hm
    have := hI_lt z
    have : 0 < hI z := of_decide_eq_true hp
    omega
  cases t with
  | nil => cases h
  | cons z r =>
    obtain ⟨h0, h1⟩ := h8 z (List.mem_cons_self)
    rw [by8_cons] at h
    unfold stepIn at h
    dsimp only at h
    by_cases hz : z = 91
    · rw [if_pos ((u8_91 h0 h1).mpr hz)] at h
      obtain ⟨ds, rest, e1, e2, e3, e4, e5, e6, e7⟩ := hand_ok r (p + 1) [] x q s (fun y hy => h8 y (List.mem_cons_of_mem _ hy)) h
      have hf : ∀ ds : List Int, (∀ z ∈ ds, 1 ≤ hI z ∧ z ≠ 93) → (((91 :: ds ++ [93]).map hI).filter (fun z => decide (0 < z))).map Int.toNat = ds.map dg := by
        intro ds hd
        have h91 : hI 91 = -1 := rfl
        have h93 : hI 93 = -1 := rfl
        rw [List.map_append, List.map_cons, List.filter_append, List.filter_cons, h91]
        simp only [List.map_cons, List.map_nil, h93]
        rw [if_neg (by decide)]
        have e2 : List.filter (fun z => decide (0 < z)) [(-1 : Int)] = [] := by decide
        rw [e2, List.append_nil]
        induction ds with
        | nil => rfl
        | cons d ds ih =>
          obtain ⟨hd1, _⟩ := hd d (List.mem_cons_self)
          rw [List.map_cons, List.filter_cons, if_pos (by simp; omega), List.map_cons, ih (fun z hz => hd z (List.mem_cons_of_mem _ hz))]
          rfl
      have hlen : ∀ (n : Nat) (l : List Nat), (putIn n l).length = l.length + 1 := by
        intro n l
        induction l with
        | nil => rfl
        | cons m r ih => unfold putIn; split <;> simp [ih]
      have hfl : ∀ l : List Nat, (falling l).length = l.length := by
        intro l
        induction l with
        | nil => rfl
        | cons m r ih => show (putIn m (falling r)).length = _; rw [hlen, ih]; rfl
      simp at e6 e7
      refine ⟨91 :: ds ++ [93], rest, by rw [e1, hz]; simp, by rw [e2]; simp; omega, e3, by simp, by simp; omega, ?_, ⟨?_, pos15 _⟩, ?_⟩
      · rw [hf ds e5, e4]; rfl
      · rw [e4, hfl]; simp; omega
      · intro z' r' e
        cases e
        exact ⟨fun _ => ⟨ds, rfl, fun y hy => (e5 y hy).2⟩, fun hne => absurd hz hne⟩
    · rw [if_neg (fun e => hz ((u8_91 h0 h1).mp e))] at h
      by_cases hn : hI z < 0
      · rw [digitIn_none h0 h1 hn] at h; cases h
      · rw [digitIn_some h0 h1 (by omega)] at h
        cases h
        refine ⟨[z], r, rfl, rfl, rfl, by simp, by simp, ?_, ⟨?_, pos15 _⟩, ?_⟩
        · simp only [List.map_cons, List.map_nil, List.filter_cons, List.filter_nil]
          by_cases hzz : (hI z).toNat = 0
          · rw [if_pos hzz, if_neg (by simp; omega)]; rfl
          · rw [if_neg hzz, if_pos (by simp; omega)]; rfl
        · split <;> simp
        · intro z' r' e
          cases e
          exact ⟨fun e => absurd e hz, fun _ => rfl⟩
/-- the reading, from a place on: l is what has been read -/
def At (t : List Int) (place : Nat) (l : Pattern) : Prop :=
  place ≤ t.length ∧ l.length ≤ 16 ∧ (place = 0 ↔ l = []) ∧ ∃ f, t.length - place < f ∧ read (by8 t) = beatsIn f place (by8 (t.drop place)) l
theorem At.start (t : List Int) : At t 0 [] := ⟨Nat.zero_le _, Nat.zero_le _, by simp, t.length + 1, by omega, by rw [List.drop_zero]; unfold Jug.read; rw [by8_length]⟩
theorem drop_cons {t : List Int} {p : Nat} (h : p < t.length) : ∃ z r, t.drop p = z :: r ∧ t[p]? = some z := ⟨t[p], t.drop (p + 1), List.drop_eq_getElem_cons h, List.getElem?_eq_getElem h⟩
theorem At.long {t : List Int} {p : Nat} {l : Pattern} (a : At t p l) (hp : p < t.length) (hl : l.length = 16) : read (by8 t) = .error p := by
  obtain ⟨_, _, _, f, hf, e⟩ := a
  obtain ⟨z, r, ed, _⟩ := drop_cons hp
  obtain ⟨f', rfl⟩ : ∃ f', f = f' + 1 := ⟨f - 1, by omega⟩
  rw [e, ed, by8_cons, beats_long _ _ _ _ _ (by omega)]
theorem At.err {t : List Int} {p e : Nat} {l : Pattern} (a : At t p l) (hp : p < t.length) (hl : l.length ≠ 16) (hs : stepIn p (by8 (t.drop p)) = .error e) : read (by8 t) = .error e := by
  obtain ⟨_, h16, _, f, hf, er⟩ := a
  obtain ⟨z, r, ed, _⟩ := drop_cons hp
  obtain ⟨f', rfl⟩ : ∃ f', f = f' + 1 := ⟨f - 1, by omega⟩
  rw [ed, by8_cons] at hs
  rw [er, ed, by8_cons, beats_err _ _ _ _ _ (by omega) hs]
theorem At.next {t : List Int} (h8 : Ok8 t) {p q : Nat} {x : Beat} {s : Bytes} {l : Pattern} (a : At t p l) (hp : p < t.length) (hl : l.length ≠ 16) (hs : stepIn p (by8 (t.drop p)) = .ok (x, q, s)) : At t q (l ++ [x]) ∧ p < q := by
  obtain ⟨_, h16, hz, f, hf, er⟩ := a
  obtain ⟨z, r, ed, _⟩ := drop_cons hp
  obtain ⟨f', rfl⟩ : ∃ f', f = f' + 1 := ⟨f - 1, by omega⟩
  obtain ⟨seg, rest, e1, e2, e3, e4, _⟩ := step_ok (h8.drop p) hs
  have hlen : (t.drop p).length = seg.length + rest.length := by rw [e1, List.length_append]
  rw [List.length_drop] at hlen
  have erest : t.drop q = rest := by
    rw [e2, ← List.drop_drop, e1, List.drop_left]
  rw [ed, by8_cons] at hs
  refine ⟨⟨by omega, by simp; omega, ⟨by omega, by simp⟩, f', by omega, ?_⟩, by omega⟩
  rw [er, ed, by8_cons, beats_go _ _ _ _ _ (by omega) hs, e3, erest]
theorem At.last {t : List Int} {l : Pattern} (a : At t t.length l) : read (by8 t) = if l = [] then .error t.length else .ok l := by
  obtain ⟨_, _, _, f, hf, er⟩ := a
  obtain ⟨f', rfl⟩ : ∃ f', f = f' + 1 := ⟨f - 1, by omega⟩
  rw [er, List.drop_length, by8_nil, beats_nil]
  cases l with
  | nil => rfl
  | cons a b => rfl
/-! patterns that are read -/

theorem putIn_mem {n y : Nat} : ∀ {l : List Nat}, y ∈ putIn n l ↔ y = n ∨ y ∈ l
  | [] => by simp [putIn]
  | m :: r => by
    unfold putIn
    split
    · simp
    · simp only [List.mem_cons, putIn_mem (l := r)]
      constructor
      · rintro (h | h | h) <;> simp [h]
      · rintro (h | h | h) <;> simp [h]
theorem putIn_sorted {n : Nat} : ∀ {l : List Nat}, l.Pairwise (· ≥ ·) → (putIn n l).Pairwise (· ≥ ·)
  | [], _ => by simp [putIn]
  | m :: r, h => by
    obtain ⟨h1, h2⟩ := List.pairwise_cons.mp h
    unfold putIn
    split
    · rename_i hlt
      refine List.pairwise_cons.mpr ⟨fun y hy => ?_, h⟩
      rcases List.mem_cons.mp hy with rfl | hy
      · show n ≥ y; omega
      · have := h1 y hy; show n ≥ y; omega
    · refine List.pairwise_cons.mpr ⟨fun y hy => ?_, putIn_sorted h2⟩
      rcases putIn_mem.mp hy with rfl | hy
      · show m ≥ y; omega
      · exact h1 y hy
theorem putIn_perm {n : Nat} : ∀ {l : List Nat}, (putIn n l).Perm (n :: l)
  | [] => List.Perm.refl _
  | m :: r => by
    unfold putIn
    split
    · exact List.Perm.refl _
    · exact ((putIn_perm (l := r)).cons m).trans (List.Perm.swap n m r)
theorem falling_sorted : ∀ l : List Nat, (falling l).Pairwise (· ≥ ·)
  | [] => List.Pairwise.nil
  | _ :: r => putIn_sorted (falling_sorted r)
theorem falling_perm : ∀ l : List Nat, (falling l).Perm l
  | [] => List.Perm.refl _
  | n :: r => (putIn_perm (n := n)).trans ((falling_perm r).cons n)
/-- two falling lists of the same numbers are one -/
theorem falling_one {a b : List Nat} (hp : a.Perm b) (ha : a.Pairwise (· ≥ ·)) (hb : b.Pairwise (· ≥ ·)) : a = b :=
  hp.eq_of_pairwise (le := fun x y => x ≥ y) (fun _ _ _ _ h1 h2 => Nat.le_antisymm h2 h1) ha hb
theorem falling_ints {ns ms : List Int} (h0 : ∀ n ∈ ns, 0 ≤ n) (hp : ms.Perm ns) (hs : ms.Pairwise (· ≥ ·)) : ms = (falling (ns.map Int.toNat)).map Int.ofNat := by
  have back : ∀ l : List Int, (∀ n ∈ l, 0 ≤ n) → l = (l.map Int.toNat).map Int.ofNat := by
    intro l hl
    rw [List.map_map]
    induction l with
    | nil => rfl
    | cons a r ih =>
      rw [List.map_cons, ← ih (fun n hn => hl n (List.mem_cons_of_mem _ hn))]
      congr 1
      exact (Int.toNat_of_nonneg (hl a List.mem_cons_self)).symm
  have hm : ∀ n ∈ ms, 0 ≤ n := fun n hn => h0 n (hp.mem_iff.mp hn)
  have e := back ms hm
  have q : ms.map Int.toNat = falling (ns.map Int.toNat) := by
    refine falling_one ((hp.map Int.toNat).trans (falling_perm _).symm) ?_ (falling_sorted _)
    rw [List.pairwise_map]
    refine hs.imp ?_
    intro a b hab
    show b.toNat ≤ a.toNat
    have : b ≤ a := hab
    omega
  rw [← q]
  exact e
/-! a beat by its first byte -/
theorem drop_at {t : List Int} {p : Nat} {z : Int} (h : t[p]? = some z) : t.drop p = z :: t.drop (p + 1) := by
  obtain ⟨hp, e⟩ := List.getElem?_eq_some_iff.mp h
  rw [← e]
  exact List.drop_eq_getElem_cons hp
theorem step_open {t : List Int} {p : Nat} {z : Int} (h : t[p]? = some z) (hz : z = 91) : stepIn p (by8 (t.drop p)) = handIn (p + 1) (by8 (t.drop (p + 1))) [] := by
  subst hz
  rw [drop_at h, by8_cons]
  unfold stepIn
  dsimp only
  rw [if_pos (show UInt8.ofNat (Int.toNat 91) = 91 from rfl)]
theorem step_none {t : List Int} {p : Nat} {z : Int} (h : t[p]? = some z) (z0 : 0 ≤ z) (z1 : z ≤ 255) (hz : z ≠ 91) (hn : hI z < 0) : stepIn p (by8 (t.drop p)) = .error p := by
  rw [drop_at h, by8_cons]
  unfold stepIn
  dsimp only
  rw [if_neg (fun e => hz ((u8_91 z0 z1).mp e)), digitIn_none z0 z1 hn]
theorem step_dig {t : List Int} {p : Nat} {z : Int} (h : t[p]? = some z) (z0 : 0 ≤ z) (z1 : z ≤ 255) (hz : z ≠ 91) (hn : 0 ≤ hI z) : ∃ x, stepIn p (by8 (t.drop p)) = .ok (x, p + 1, by8 (t.drop (p + 1))) := by
  rw [drop_at h, by8_cons]
  unfold stepIn
  dsimp only
  rw [if_neg (fun e => hz ((u8_91 z0 z1).mp e)), digitIn_some z0 z1 hn]
  exact ⟨_, rfl⟩
theorem step_index {t : List Int} (h8 : Ok8 t) {p q : Nat} {x : Beat} {s : Bytes} (hz : t[p]? = some 91) (h : stepIn p (by8 (t.drop p)) = .ok (x, q, s)) :
    1 ≤ q ∧ p ≤ q - 1 ∧ t[q - 1]? = some 93 ∧ ∀ m z, p ≤ m → m < q - 1 → t[m]? = some z → z ≠ 93 := by
  obtain ⟨seg, rest, e1, e2, e3, e4, e5, e6, e7, e8⟩ := step_ok (h8.drop p) h
  obtain ⟨ds, es, hds⟩ := (e8 91 _ (drop_at hz)).1 rfl
  have hlen : seg.length = ds.length + 2 := by rw [es]; simp
  have at_ : ∀ k, t[p + k]? = (seg ++ rest)[k]? := fun k => by rw [← e1, List.getElem?_drop]
  refine ⟨by omega, by omega, ?_, ?_⟩
  · have e : q - 1 = p + (ds.length + 1) := by omega
    rw [e, at_, es]
    simp
  · intro m z h1 h2 hm
    obtain ⟨k, rfl⟩ : ∃ k, m = p + k := ⟨m - p, by omega⟩
    rw [at_, es] at hm
    cases k with
    | zero => simp at hm; omega
    | succ k =>
      have hk : k < ds.length := by omega
      have : (91 :: ds ++ [93] ++ rest)[k + 1]? = some ds[k] := by
        simp [List.getElem?_append, hk]
      rw [this] at hm
      exact hds z (by rw [← Option.some.inj hm]; exact List.getElem_mem hk)
theorem step_single {t : List Int} (h8 : Ok8 t) {p q : Nat} {x : Beat} {s : Bytes} {z : Int} (ez : t[p]? = some z) (hz : z ≠ 91) (h : stepIn p (by8 (t.drop p)) = .ok (x, q, s)) : q = p + 1 := by
  obtain ⟨seg, rest, e1, e2, e3, e4, e5, e6, e7, e8⟩ := step_ok (h8.drop p) h
  have := (e8 z _ (drop_at ez)).2 hz
  omega
/-! what is read is good -/
def GoodBeat (b : Beat) : Prop := b.length ≤ 3 ∧ (∀ h ∈ b, 1 ≤ h ∧ h ≤ 15) ∧ b.Pairwise (· ≥ ·)
theorem step_good {t : List Int} {p q : Nat} {x : Beat} {s : Bytes} (h8 : Ok8 t) (h : stepIn p (by8 t) = .ok (x, q, s)) : GoodBeat x := by
  obtain ⟨seg, rest, e1, e2, e3, e4, e5, e6, e7, e8⟩ := step_ok h8 h
  refine ⟨e7.1, fun n hn => ?_, by rw [e6]; exact falling_sorted _⟩
  rw [e6] at hn
  have hm := (falling_perm _).mem_iff.mp hn
  obtain ⟨z, hz, rfl⟩ := List.mem_map.mp hm
  have := e7.2 z hz
  omega
theorem beats_good : ∀ (f p : Nat) (t : List Int) (l q : Pattern), Ok8 t → beatsIn f p (by8 t) l = .ok q → (∀ b ∈ l, GoodBeat b) → l.length ≤ 16 → (∀ b ∈ q, GoodBeat b) ∧ 1 ≤ q.length ∧ q.length ≤ 16
  | 0, p, t, l, q, _, h, _, _ => by
    unfold beatsIn at h
    cases h
  | f + 1, p, [], l, q, _, h, hl, h16 => by
    rw [by8_nil, beats_nil] at h
    split at h
    · cases h
    · rename_i hne
      cases h
      refine ⟨hl, ?_, h16⟩
      cases l with
      | nil => exact absurd rfl hne
      | cons a b => simp
  | f + 1, p, z :: r, l, q, h8, h, hl, h16 => by
    by_cases h1 : l.length = 16
    · rw [by8_cons, beats_long _ _ _ _ _ (by omega)] at h
      cases h
    · cases hs : stepIn p (by8 (z :: r)) with
      | error e =>
        rw [by8_cons] at hs h
        rw [beats_err _ _ _ _ _ (by omega) hs] at h
        cases h
      | ok y =>
        obtain ⟨x, q', s⟩ := y
        have hg := step_good h8 hs
        obtain ⟨seg, rest, e1, e2, e3, e4, _⟩ := step_ok h8 hs
        rw [by8_cons] at hs h
        rw [beats_go _ _ _ _ _ (by omega) hs, e3] at h
        refine beats_good f q' rest _ q (fun y hy => h8 y (by rw [e1]; exact List.mem_append_right _ hy)) h (fun b hb => ?_) (by simp; omega)
        rcases List.mem_append.mp hb with hb | hb
        · exact hl b hb
        · rw [List.mem_singleton.mp hb]
          exact hg
theorem read_good {t : List Int} {p : Pattern} (h8 : Ok8 t) (h : Jug.read (by8 t) = .ok p) : (∀ b ∈ p, GoodBeat b) ∧ 1 ≤ p.length ∧ p.length ≤ 16 := by
  unfold Jug.read at h
  exact beats_good _ _ _ _ _ h8 h (by simp) (by simp)
/-! counting -/
def cnt (N : Nat) (ks : List Nat) : List Nat := (List.range N).map fun k => ks.count k
theorem cnt_length (N : Nat) (ks : List Nat) : (cnt N ks).length = N := by simp [cnt]
theorem cnt_at {N k : Nat} (ks : List Nat) (h : k < N) : (cnt N ks)[k]? = some (ks.count k) := by
  unfold cnt
  rw [List.getElem?_map, List.getElem?_range h]
  rfl
theorem cnt_nil (N : Nat) : cnt N [] = List.replicate N 0 := by
  unfold cnt
  apply List.ext_getElem?
  intro i
  by_cases h : i < N
  · rw [List.getElem?_map, List.getElem?_range h, List.getElem?_replicate, if_pos h]
    rfl
  · rw [List.getElem?_eq_none (by simp; omega), List.getElem?_eq_none (by simp; omega)]
theorem cnt_bump {N k : Nat} (ks : List Nat) (h : k < N) : (cnt N ks).set k (ks.count k + 1) = cnt N (ks ++ [k]) := by
  apply List.ext_getElem?
  intro i
  by_cases hi : i < N
  · rw [cnt_at _ hi, List.getElem?_set, cnt_length, List.count_append]
    by_cases e : k = i
    · subst e
      rw [if_pos rfl, if_pos h]
      simp
    · rw [if_neg e, cnt_at _ hi]
      have : List.count i [k] = 0 := by
        rw [List.count_eq_zero]
        simp
        omega
      rw [this, Nat.add_zero]
  · rw [List.getElem?_eq_none (by rw [List.length_set, cnt_length]; omega), List.getElem?_eq_none (by rw [cnt_length]; omega)]
theorem total_count {α : Type} (F : α → List Nat) (t : Nat) : ∀ L : List α, total (L.map fun x => (F x).count t) = (L.flatMap F).count t
  | [] => rfl
  | a :: r => by
    rw [List.map_cons, List.flatMap_cons, List.count_append, ← total_count F t r]
    rfl
theorem filter_count {f : Nat → Nat} {t : Nat} : ∀ b : List Nat, (b.filter fun h => f h == t).length = (b.map f).count t
  | [] => rfl
  | a :: r => by
    rw [List.filter_cons, List.map_cons, List.count_cons, ← filter_count r]
    split <;> simp
/-- where the throws of the first i beats land -/
def landKs (p : Pattern) (i : Nat) : List Nat := (List.range i).flatMap fun s => (p.getD s []).map fun h => (s + h) % p.length
theorem landKs_succ (p : Pattern) (i : Nat) : landKs p (i + 1) = landKs p i ++ (p.getD i []).map fun h => (i + h) % p.length := by
  unfold landKs
  rw [List.range_succ, List.flatMap_append]
  simp
theorem zipIdx_map {β : Type} (p : Pattern) (g : Beat × Nat → β) : p.zipIdx.map g = (List.range p.length).map fun s => g (p.getD s [], s) := by
  apply List.ext_getElem?
  intro i
  by_cases h : i < p.length
  · rw [List.getElem?_map, List.getElem?_map, List.getElem?_range h, List.getElem?_zipIdx, List.getElem?_eq_getElem h]
    simp [List.getD, h]
  · rw [List.getElem?_eq_none (by simp; omega), List.getElem?_eq_none (by simp; omega)]
theorem landing_count (p : Pattern) (t : Nat) : landing p t = (landKs p p.length).count t := by
  unfold landing landKs
  rw [zipIdx_map, ← total_count]
  congr 1
  apply List.map_congr_left
  intro s _
  exact filter_count (f := fun h => (s + h) % p.length) (p.getD s [])
/-- what is in the air, beat by beat back -/
def backIx (p : Pattern) (t d : Nat) : Nat := (t + LONG * p.length - (d + 1)) % p.length
def airKs (p : Pattern) (t i : Nat) : List Nat := (List.range i).flatMap fun d => ((p.getD (backIx p t d) []).filter fun h => decide (d + 1 ≤ h)).map fun h => h - (d + 1)
theorem airKs_succ (p : Pattern) (t i : Nat) : airKs p t (i + 1) = airKs p t i ++ ((p.getD (backIx p t i) []).filter fun h => decide (i + 1 ≤ h)).map fun h => h - (i + 1) := by
  unfold airKs
  rw [List.range_succ, List.flatMap_append]
  simp
theorem airAt_cnt (p : Pattern) (t : Nat) : airAt p t = cnt 15 (airKs p t 15) := by
  unfold airAt cnt airKs
  apply List.map_congr_left
  intro k _
  rw [← total_count]
  show total ((List.range 15).map _) = _
  congr 1
  apply List.map_congr_left
  intro d _
  show ((p.getD (backIx p t d) []).filter fun h => h == k + d + 1).length = _
  generalize p.getD (backIx p t d) [] = b
  induction b with
  | nil => rfl
  | cons a r ih =>
    rw [List.filter_cons, List.filter_cons]
    by_cases h1 : d + 1 ≤ a
    · rw [if_pos (show decide (d + 1 ≤ a) = true from decide_eq_true h1), List.map_cons, List.count_cons, ← ih]
      by_cases h2 : a = k + d + 1
      · rw [if_pos (by simpa using h2), if_pos (by simp; omega)]
        rfl
      · rw [if_neg (by simpa using h2), if_neg (by simp; omega)]
        rfl
    · rw [if_neg (by simp; omega), if_neg (by simpa using h1), ih]
theorem backIx_int {p : Pattern} (hp : 1 ≤ p.length) {k d : Nat} (hd : d < 15) : ((k : Int) - (1 + (d : Int))) % (p.length : Int) = (backIx p (k % p.length) d : Int) := by
  unfold backIx
  show _ = (((k % p.length + 16 * p.length - (d + 1)) % p.length : Nat) : Int)
  rw [Int.natCast_emod]
  have e : ((k % p.length + 16 * p.length - (d + 1) : Nat) : Int) = (k : Int) - (1 + (d : Int)) + (p.length : Int) * (16 - ((k / p.length : Nat) : Int)) := by
    have h1 := Nat.div_add_mod k p.length
    have h2 : ((k % p.length : Nat) : Int) = (k : Int) - (p.length : Int) * ((k / p.length : Nat) : Int) := by
      have : ((p.length * (k / p.length) + k % p.length : Nat) : Int) = (k : Int) := by rw [h1]
      rw [Int.natCast_add, Int.natCast_mul] at this
      omega
    rw [Int.mul_sub]
    omega
  rw [e, Int.add_mul_emod_self_left]
theorem backIx_lt {p : Pattern} (hp : 1 ≤ p.length) (t d : Nat) : backIx p t d < p.length := Nat.mod_lt _ hp
/-! refusals -/
def refusal (t : List Int) : List Int := match Jug.read (by8 t) with
  | .error e => [-6, (e : Int)]
  | .ok p => match clash p with
    | some k => [-5, (k : Int)]
    | none => []
theorem of_refused {t : List Int} {f : Pattern → Answer} (h : refusal t ≠ []) : Jug.of (by8 t) f = refusal t := by
  unfold Jug.of refusal at *
  cases e : Jug.read (by8 t) with
  | error e => rfl
  | ok p =>
    rw [e] at h
    dsimp only at h ⊢
    cases e2 : clash p with
    | some k => rfl
    | none => rw [e2] at h; exact absurd rfl h
theorem of_right {t : List Int} {f : Pattern → Answer} (h : refusal t = []) : ∃ p, Jug.read (by8 t) = .ok p ∧ clash p = none ∧ Jug.of (by8 t) f = f p := by
  unfold Jug.of refusal at *
  cases e : Jug.read (by8 t) with
  | error e' => rw [e] at h; cases h
  | ok p =>
    rw [e] at h
    dsimp only at h ⊢
    cases e2 : clash p with
    | some k => rw [e2] at h; cases h
    | none => exact ⟨p, rfl, e2, rfl⟩
end Jm

set_option Elab.async false
set_option linter.all false
set_option maxRecDepth 100000
set_option maxHeartbeats 2000000
namespace L2
open PySem PySem.Spec PyProof.Rows
/-! words for defs and globals -/
def IntG (mg : Str → Option Value) (x : Str) (i : Int) : Prop := ∃ t, mg x = some (.int i t)
/-- a def of the text, as a caller sees it -/
structure Def (P : Program) (w : World) (K : PySem.W.Frag) (mg : Str → Option Value) (base : Heap) (x : Str) (ps : List Str) (k : Nat) (sp : Sp) : Prop where
  ex : ∃ (f : Addr) (fd : FuncData), FnOk P w K mg base CX0 k f fd ps sp ∧ mg x = some (.ref f) ∧ PySem.W.keepIn K (.ref f) = true ∧ Binds K fd ps []
section
variable {X : Cx}
theorem pgl {x : Str} {i : Int} {pos : Pos} (h : IntG X.mg x i) (hg : Gl X x := by rfl) (hd : (x == ("__debug__" : Str)) = false := by decide) : PE X (.Name x pos) (tC (.int i)) := by
  obtain ⟨t, e⟩ := h
  exact pe_glob hg e ⟨t, rfl⟩ hd
theorem pcall {x : Str} {ps : List Str} {k : Nat} {sp : Sp} {e : Expr} {es : List Expr} {t : TA} {p pos : Pos} (D : Def X.prog X.w X.K X.mg X.base x ps k sp) (hr : Room k X.A) (ha : PA X (e :: es) t)
    (hg : Gl X x := by rfl) (hdb : (x == ("__debug__" : Str)) = false := by decide) (he : starEach (e :: es) X.env = (false, eval e X.env) :: starEach es X.env := by rfl)
    (hpl : (backTo pos (starEach es X.env)).any (·.1) = false := by rfl) (hx : Passes CX0 X E0 := by exact pass0) :
    PE X (.Call (.Name x p) (e :: es) [] pos) (tCall sp [] E0 t) := by
  obtain ⟨f, fd, G, hm, hk, hb⟩ := D.ex
  exact pe_call G hr hg hm hk hb .nil hx ha hdb he hpl
end
theorem Same.new {H H1 : Hp} (s : Same H H1) {p : Addr} {o : HO} (hp : H1 p = none) : Same H (upd H1 p o) := fun b u e => by
  have e1 := s b u e
  rw [upd_ne (ne_of_none e1 hp)]
  exact e1
/-- a write to what was not there at the start -/
theorem Same.own {H H1 : Hp} (s : Same H H1) {p : Addr} {o : HO} (hp : H p = none) : Same H (upd H1 p o) := fun b u e => by
  rw [upd_ne (ne_of_none e hp)]
  exact s b u e
/-! patterns in the heap -/
def natsV (l : List Nat) : List V := l.map fun (n : Nat) => V.int (n : Int)
theorem natsV_int (l : List Nat) : natsV l = (l.map Int.ofNat).map V.int := by
  unfold natsV
  rw [List.map_map]
  rfl
def BeatAt (H : Hp) (v : V) (b : List Nat) : Prop := ∃ x, v = .ref x ∧ H x = some (.lst (natsV b))
def PatAt (H : Hp) (v : V) (p : List (List Nat)) : Prop := ∃ x vs, v = .ref x ∧ H x = some (.lst vs) ∧ Paired (BeatAt H) vs p
theorem BeatAt.same {H H' : Hp} (s : Same H H') {v : V} {b : List Nat} (h : BeatAt H v b) : BeatAt H' v b := by
  obtain ⟨x, e, h⟩ := h
  exact ⟨x, e, s _ _ h⟩
theorem BeatAt.upd {H : Hp} {v : V} {b : List Nat} {D : Addr} {o : HO} (h : BeatAt H v b) (hn : v ≠ .ref D) : BeatAt (upd H D o) v b := by
  obtain ⟨x, rfl, h⟩ := h
  exact ⟨x, rfl, by rw [upd_ne (fun e => hn (by rw [e]))]; exact h⟩
theorem PatAt.same {H H' : Hp} (s : Same H H') {v : V} {p : List (List Nat)} (h : PatAt H v p) : PatAt H' v p := by
  obtain ⟨x, vs, e, h1, h2⟩ := h
  exact ⟨x, vs, e, s _ _ h1, Paired.imp' (fun _ _ q => q.same s) h2⟩

theorem Paired.getR {α β : Type} {F : α → β → Prop} : ∀ {l : List α} {m : List β} {i : Nat} {b : β}, Paired F l m → m[i]? = some b → ∃ a, l[i]? = some a ∧ F a b
  | _, _, _, _, .nil, e => by simp at e
  | _, _, 0, _, .cons r _, e => by simp at e; subst e; exact ⟨_, rfl, r⟩
  | _, _, i + 1, a, .cons _ t, e => by
    obtain ⟨u, h1, h2⟩ := Paired.getR (i := i) (b := a) t (by simpa using e)
    exact ⟨u, by simpa using h1, h2⟩
theorem take_snoc {α : Type} : ∀ {l : List α} {i : Nat} {x : α}, l[i]? = some x → l.take (i + 1) = l.take i ++ [x]
  | [], i, x, h => by simp at h
  | a :: l, 0, x, h => by
    have e : a = x := Option.some.inj h
    subst e
    rfl
  | a :: l, i + 1, x, h => by
    have ih := take_snoc (l := l) (i := i) (x := x) h
    show a :: l.take (i + 1) = a :: l.take i ++ [x]
    rw [ih]
    rfl
theorem map_get {α β : Type} {f : α → β} {l : List α} {i : Nat} {y : β} (h : (l.map f)[i]? = some y) : ∃ x, l[i]? = some x ∧ y = f x := by
  rw [List.getElem?_map] at h
  cases e : l[i]? with
  | none => rw [e] at h; cases h
  | some z => rw [e] at h; exact ⟨z, rfl, (Option.some.inj h).symm⟩
/-! comprehensions: [f(x) for x in xs], [x for x in xs if p(x)] -/
theorem lc_mapL {K : PySem.W.Frag} {a : Addr} {xs : List V} {j : Nat} {te : TE} {vs : List Nat} {σ : St} {H1 : Hp} {D : Addr} {Qd : Hp → Prop} (f : V → V) (hS : SqL K H1 a xs) (hD : H1 D = none) (hlen : xs.length ≤ sizeLine)
    (hw : ∀ x, wipe ((wipe σ vs).set j (some x)) vs = wipe σ vs)
    (he : ∀ (i : Nat) (x : V) (H' : Hp) (Qk : VK), xs[i]? = some x → Same H1 H' → (∀ H4, Same H' H4 → Qk (f x) H4) → te ((wipe σ vs).set j (some x)) H' Qk)
    (hd : ∀ H', Same H1 H' → H' D = some (.lst (xs.map f)) → Qd H') :
    ∃ W : Nat → Nat → Hp → Prop, (∃ m, W 0 m (upd H1 D (.lst []))) ∧ ∀ i m H, W i m H →
      ((Itl K a).stop i H ∧ Qd H) ∨ ((Itl K a).go i H ∧ ∃ Nx : Hp → Prop, (∀ H', Nx H' → ∃ m', m' < m ∧ W (i + 1) m' H') ∧ ∀ x H', (Itl K a).yld i H x H' → gName j x (wipe σ vs) H' fun σ2 H2 => wipe σ2 vs = wipe σ vs ∧ tYes σ2 H2 fun b H3 =>
        if b = true then te σ2 H3 fun y H4 => ∃ acc, H4 D = some (.lst acc) ∧ acc.length < sizeLine ∧ Nx (upd H4 D (.lst (acc ++ [y]))) else Nx H3) := by
  refine lc_list (xs := xs) (fun i H' => Same H1 H' ∧ H' D = some (.lst ((xs.take i).map f))) ⟨(Same.refl H1).new hD, upd_same⟩ (fun i H' _ ⟨s, _⟩ => s.seq hS) ?_ ?_
  · rintro i x H' hi ⟨s, hDv⟩
    refine ⟨hw x, ?_⟩
    unfold tYes
    dsimp only
    rw [if_pos rfl]
    refine he i x H' _ hi s fun H4 s4 => ⟨_, s4 _ _ hDv, ?_, (s.trans s4).own hD, ?_⟩
    · rw [List.length_map, List.length_take]
      have := (List.getElem?_eq_some_iff.mp hi).1
      omega
    · rw [upd_same, take_snoc hi, List.map_append]
      rfl
  · rintro H' ⟨s, hDv⟩
    rw [List.take_length] at hDv
    exact hd H' s hDv
theorem lc_filterL {K : PySem.W.Frag} {a : Addr} {xs : List V} {j : Nat} {tt : TT} {vs : List Nat} {σ : St} {H1 : Hp} {D : Addr} {Qd : Hp → Prop} (p : V → Bool) (hS : SqL K H1 a xs) (hD : H1 D = none) (hlen : xs.length ≤ sizeLine) (hj : j < σ.length)
    (hw : ∀ x, wipe ((wipe σ vs).set j (some x)) vs = wipe σ vs)
    (he : ∀ (i : Nat) (x : V) (H' : Hp) (Qk : Bool → Hp → Prop), xs[i]? = some x → Same H1 H' → Qk (p x) H' → tt ((wipe σ vs).set j (some x)) H' Qk)
    (hd : ∀ H', Same H1 H' → H' D = some (.lst (xs.filter p)) → Qd H') :
    ∃ W : Nat → Nat → Hp → Prop, (∃ m, W 0 m (upd H1 D (.lst []))) ∧ ∀ i m H, W i m H →
      ((Itl K a).stop i H ∧ Qd H) ∨ ((Itl K a).go i H ∧ ∃ Nx : Hp → Prop, (∀ H', Nx H' → ∃ m', m' < m ∧ W (i + 1) m' H') ∧ ∀ x H', (Itl K a).yld i H x H' → gName j x (wipe σ vs) H' fun σ2 H2 => wipe σ2 vs = wipe σ vs ∧ tt σ2 H2 fun b H3 =>
        if b = true then tVar j σ2 H3 fun y H4 => ∃ acc, H4 D = some (.lst acc) ∧ acc.length < sizeLine ∧ Nx (upd H4 D (.lst (acc ++ [y]))) else Nx H3) := by
  refine lc_list (xs := xs) (fun i H' => Same H1 H' ∧ H' D = some (.lst ((xs.take i).filter p))) ⟨(Same.refl H1).new hD, upd_same⟩ (fun i H' _ ⟨s, _⟩ => s.seq hS) ?_ ?_
  · rintro i x H' hi ⟨s, hDv⟩
    refine ⟨hw x, he i x H' _ hi s ?_⟩
    have hil := (List.getElem?_eq_some_iff.mp hi).1
    have e1 := take_snoc hi
    cases hp : p x with
    | true =>
      refine iteT ⟨x, ?_, _, hDv, ?_, s.own hD, ?_⟩
      · rw [List.getElem?_set_self (by rw [wipe_length]; exact hj)]
      · have := List.length_filter_le p (xs.take i)
        rw [List.length_take] at this
        omega
      · rw [upd_same, e1, List.filter_append, List.filter_cons, if_pos hp]
        rfl
    | false =>
      refine iteF ⟨s, ?_⟩
      rw [e1, List.filter_append, List.filter_cons, if_neg (by rw [hp]; exact Bool.false_ne_true), List.filter_nil, List.append_nil]
      exact hDv
  · rintro H' ⟨s, hDv⟩
    rw [List.take_length] at hDv
    exact hd H' s hDv
theorem cutV_seg {α : Type} {f : α → V} {t seg rest : List α} {p q : Nat} (hp : p ≤ t.length) (e : t.drop p = seg ++ rest) (hq : q = p + seg.length) : cutV (t.map f) (some (p : Int)) (some (q : Int)) = seg.map f := by
  have hl : (t.drop p).length = seg.length + rest.length := by rw [e, List.length_append]
  rw [List.length_drop] at hl
  unfold cutV
  rw [HT.sIx_nat, HT.sIx_nat, List.length_map, Nat.min_eq_left hp, Nat.min_eq_left (by omega), ← List.map_drop, ← List.map_take, e, hq, Nat.add_sub_cancel_left, List.take_left]
def hV : V → V
  | .int z => .int (Jm.hI z)
  | v => v
def posV : V → Bool
  | .int z => decide (0 < z)
  | _ => false
theorem filter_pos (l : List Int) : (l.map V.int).filter posV = (l.filter fun z => decide (0 < z)).map V.int := by
  rw [List.filter_map]
  rfl
/-! lists of ints in the heap -/
def IntsAt (H : Hp) (v : V) (l : List Int) : Prop := ∃ x, v = .ref x ∧ H x = some (.lst (l.map V.int))

theorem natsV_length (l : List Nat) : (natsV l).length = l.length := by simp [natsV]
theorem natsV_at {l : List Nat} {i n : Nat} (h : l[i]? = some n) : (natsV l)[i]? = some (V.int (n : Int)) := by
  unfold natsV
  rw [List.getElem?_map, h]
  rfl
theorem natsV_set (l : List Nat) (i n : Nat) : (natsV l).set i (V.int (n : Int)) = natsV (l.set i n) := by
  unfold natsV
  rw [List.map_set]
theorem natsV_get {l : List Nat} {i : Nat} {v : V} (h : (natsV l)[i]? = some v) : ∃ n, l[i]? = some n ∧ v = V.int (n : Int) := map_get h
theorem ixN_nat {n j : Nat} (h : j < n) : ixN n (j : Int) = some j := by
  unfold ixN
  rw [if_pos (by omega), if_pos (by omega)]
  rfl
/-- x[j] += 1 of a count -/
theorem bump_ok {N k : Nat} {ks : List Nat} (h : k < N) : (natsV (Jm.cnt N ks)).set k (V.int (((ks.count k : Nat) : Int) + 1)) = natsV (Jm.cnt N (ks ++ [k])) := by
  have e : ((ks.count k : Nat) : Int) + 1 = ((ks.count k + 1 : Nat) : Int) := by omega
  rw [e, natsV_set, Jm.cnt_bump ks h]
theorem rep_zero (n : Nat) : (List.replicate n [V.int 0]).flatten = natsV (Jm.cnt n []) := by
  rw [Jm.cnt_nil]
  unfold natsV
  induction n with
  | zero => rfl
  | succ n ih => rw [List.replicate_succ, List.flatten_cons, ih, List.replicate_succ, List.map_cons]; rfl
theorem PatAt.at {H : Hp} {x : Addr} {vs : List V} {p : List (List Nat)} (h : Paired (BeatAt H) vs p) {i : Nat} (hi : i < p.length) : ∃ y b, vs[i]? = some (.ref y) ∧ p[i]? = some b ∧ p.getD i [] = b ∧ H y = some (.lst (natsV b)) := by
  obtain ⟨v, e1, y, rfl, e2⟩ := Paired.getR h (List.getElem?_eq_getElem hi)
  exact ⟨y, p[i], e1, List.getElem?_eq_getElem hi, by simp [List.getD, hi], e2⟩
end L2

/-! The root of a pattern: told over and over, or turned into itself. -/
namespace Jm
open Jug
theorem rep_len {α : Type} (l : List α) (k : Nat) : (List.replicate k l).flatten.length = k * l.length := by
  induction k with
  | zero => simp
  | succ k ih => rw [List.replicate_succ, List.flatten_cons, List.length_append, ih, Nat.succ_mul, Nat.add_comm]
theorem rep_at {α : Type} (l : List α) (hl : 0 < l.length) : ∀ (k i : Nat), i < k * l.length → (List.replicate k l).flatten[i]? = l[i % l.length]?
  | 0, i, h => by simp at h
  | k + 1, i, h => by
    rw [List.replicate_succ, List.flatten_cons]
    by_cases hi : i < l.length
    · rw [List.getElem?_append_left hi, Nat.mod_eq_of_lt hi]
    · rw [List.getElem?_append_right (by omega), rep_at l hl k (i - l.length) (by rw [Nat.succ_mul] at h; omega)]
      congr 1
      exact (Nat.mod_eq_sub_mod (by omega)).symm
theorem turned_at (p : Pattern) (d i : Nat) (hd : d ≤ p.length) (hi : i < p.length) : (turned p d)[i]? = p[(i + d) % p.length]? := by
  have h1 : 0 < p.length := by omega
  unfold turned
  by_cases hdp : d = p.length
  · subst hdp
    rw [Nat.mod_self]
    simp
    rw [Nat.mod_eq_of_lt hi]
  · have hlt : d < p.length := by omega
    rw [Nat.mod_eq_of_lt hlt]
    by_cases h2 : i < p.length - d
    · rw [List.getElem?_append_left (by rw [List.length_drop]; exact h2), List.getElem?_drop, Nat.mod_eq_of_lt (by omega), Nat.add_comm]
    · rw [List.getElem?_append_right (by rw [List.length_drop]; omega), List.length_drop, List.getElem?_take, if_pos (by omega), Nat.mod_eq_sub_mod (by omega), Nat.mod_eq_of_lt (by omega)]
      congr 1
      omega
/-- turned by d into itself: each beat is as that d later -/
theorem turned_iff (p : Pattern) (d : Nat) (hp : 0 < p.length) (hd : d ≤ p.length) : turned p d = p ↔ ∀ i, i < p.length → p[(i + d) % p.length]? = p[i]? := by
  constructor
  · intro h i hi
    rw [← turned_at p d i hd hi, h]
  · intro h
    apply List.ext_getElem?
    intro i
    by_cases hi : i < p.length
    · rw [turned_at p d i hd hi, h i hi]
    · have hl : (turned p d).length = p.length := by
        unfold turned
        rw [List.length_append, List.length_drop, List.length_take]
        have := Nat.mod_lt d hp
        omega
      rw [List.getElem?_eq_none (by omega), List.getElem?_eq_none (by omega)]
/-- the program's test of a part -/
theorem part_iff (p : Pattern) (d : Nat) (hp : 0 < p.length) (h1 : 1 ≤ d) (hd : d ≤ p.length) : (List.replicate (p.length / d) (p.take d)).flatten = p ↔ p.length % d = 0 ∧ turned p d = p := by
  have hl : (p.take d).length = d := by rw [List.length_take]; omega
  have hdm := Nat.div_add_mod p.length d
  constructor
  · intro h
    have hlen := congrArg List.length h
    rw [rep_len, hl] at hlen
    have hmul : d * (p.length / d) = p.length / d * d := Nat.mul_comm _ _
    have hmod : p.length % d = 0 := by omega
    refine ⟨hmod, (turned_iff p d hp hd).mpr fun i hi => ?_⟩
    have at_ : ∀ j, j < p.length → p[j]? = (p.take d)[j % d]? := fun j hj => by
      have := rep_at (p.take d) (by omega) (p.length / d) j (by rw [hl]; omega)
      rw [h, hl] at this
      exact this
    rw [at_ _ (Nat.mod_lt _ hp), at_ i hi]
    congr 1
    rw [Nat.mod_mod_of_dvd _ (Nat.dvd_of_mod_eq_zero hmod), Nat.add_mod_right]
  · rintro ⟨hmod, ht⟩
    have hs := (turned_iff p d hp hd).mp ht
    have hmul : d * (p.length / d) = p.length / d * d := Nat.mul_comm _ _
    have hfull : p.length / d * d = p.length := by omega
    have down : ∀ i, i < p.length → p[i]? = p[i % d]? := fun i => by
      induction i using Nat.strongRecOn with
      | ind i ih =>
        intro hi
        by_cases h : i < d
        · rw [Nat.mod_eq_of_lt h]
        · have := hs (i - d) (by omega)
          rw [Nat.sub_add_cancel (by omega), Nat.mod_eq_of_lt hi] at this
          rw [this, ih (i - d) (by omega) (by omega)]
          congr 1
          exact (Nat.mod_eq_sub_mod (by omega)).symm
    apply List.ext_getElem?
    intro i
    by_cases hi : i < p.length
    · rw [rep_at (p.take d) (by omega) _ i (by rw [hl]; omega), hl, down i hi, List.getElem?_take, if_pos (Nat.mod_lt _ (by omega))]
    · rw [List.getElem?_eq_none (by rw [rep_len, hl]; omega), List.getElem?_eq_none (by omega)]
/-- the first part that is told over and over -/
theorem root_some (p : Pattern) (d : Nat) (hp : 0 < p.length) (h1 : 1 ≤ d) (hd : d ≤ p.length) (h : (List.replicate (p.length / d) (p.take d)).flatten = p)
    (hno : ∀ e, 1 ≤ e → e < d → (List.replicate (p.length / e) (p.take e)).flatten ≠ p) : root p = p.take d := by
  have hf : ((List.range p.length).find? fun (d : Nat) => p.length % (d + 1) == 0 && turned p (d + 1) == p) = some (d - 1) := by
    rw [List.find?_range_eq_some]
    refine ⟨?_, by simp; omega, fun j hj => ?_⟩
    · rw [Nat.sub_add_cancel h1]
      obtain ⟨a, b⟩ := (part_iff p d hp h1 hd).mp h
      simp [a, b]
    · have := hno (j + 1) (by omega) (by omega)
      rw [ne_eq, part_iff p (j + 1) hp (by omega) (by omega)] at this
      simp
      by_cases q : p.length % (j + 1) = 0
      · exact .inr fun z => this ⟨q, z⟩
      · exact .inl q
  unfold root
  rw [hf]
  dsimp only
  rw [Nat.sub_add_cancel h1]
theorem root_self (p : Pattern) (hp : 0 < p.length) (hno : ∀ e, 1 ≤ e → e < p.length → (List.replicate (p.length / e) (p.take e)).flatten ≠ p) : root p = p := by
  rw [root_some p p.length hp hp (Nat.le_refl _) ?_ hno, List.take_length]
  rw [Nat.div_self hp, List.take_length]
  simp
/-! heights, balls -/

end Jm

set_option Elab.async false
set_option linter.all false
set_option maxRecDepth 100000
set_option maxHeartbeats 2000000
namespace L2
open PySem PySem.Spec PyProof.Rows
/-! patterns as data: == of two -/
def beatD (b : List Nat) : PyData := .list (b.map fun (n : Nat) => PyData.int (n : Int))
def patD (p : List (List Nat)) : PyData := .list (p.map beatD)
theorem ints_lay : ∀ b : List Nat, PyData.canLayAll0 (b.map fun (n : Nat) => PyData.int (n : Int)) = true
  | [] => rfl
  | a :: r => by
    show (true && PyData.canLayAll0 (r.map fun (n : Nat) => PyData.int (n : Int))) = true
    rw [ints_lay r]
    rfl
theorem ints_depth : ∀ b : List Nat, PyData.depthAll (b.map fun (n : Nat) => PyData.int (n : Int)) ≤ 1
  | [] => by show 0 ≤ 1; decide
  | a :: r => by
    have := ints_depth r
    show max _ (PyData.depthAll (r.map fun (n : Nat) => PyData.int (n : Int))) ≤ 1
    exact Nat.max_le.mpr ⟨Nat.zero_le _, this⟩
theorem beats_lay : ∀ p : List (List Nat), PyData.canLayAll0 (p.map beatD) = true
  | [] => rfl
  | b :: r => by
    show (PyData.canLayAll0 (b.map fun (n : Nat) => PyData.int (n : Int)) && PyData.canLayAll0 (r.map beatD)) = true
    rw [ints_lay b, beats_lay r]
    rfl
theorem beats_depth : ∀ p : List (List Nat), PyData.depthAll (p.map beatD) ≤ 2
  | [] => by show 0 ≤ 2; decide
  | b :: r => by
    have h1 := ints_depth b
    have h2 := beats_depth r
    show max (PyData.depth (beatD b)) (PyData.depthAll (r.map beatD)) ≤ 2
    refine Nat.max_le.mpr ⟨?_, h2⟩
    show PyData.depthAll (b.map fun (n : Nat) => PyData.int (n : Int)) + 1 ≤ 2
    omega
theorem pat_shaped (p : List (List Nat)) : SeqAt.shaped (patD p) = true := by
  unfold SeqAt.shaped
  rw [Bool.and_eq_true]
  refine ⟨beats_lay p, decide_eq_true ?_⟩
  have := beats_depth p
  show PyData.depthAll (p.map beatD) + 1 ≤ 64
  omega
theorem ints_eqv : ∀ a b : List Nat, PyData.eqvAll (a.map fun (n : Nat) => PyData.int (n : Int)) (b.map fun (n : Nat) => PyData.int (n : Int)) = decide (a = b)
  | [], [] => rfl
  | [], _ :: _ => rfl
  | _ :: _, [] => rfl
  | x :: a, y :: b => by
    show (((x : Int) == (y : Int)) && PyData.eqvAll (a.map fun (n : Nat) => PyData.int (n : Int)) (b.map fun (n : Nat) => PyData.int (n : Int))) = _
    rw [ints_eqv a b, Bool.eq_iff_iff]
    simp
    intro _
    omega
theorem beats_eqv : ∀ p q : List (List Nat), PyData.eqvAll (p.map beatD) (q.map beatD) = decide (p = q)
  | [], [] => rfl
  | [], _ :: _ => rfl
  | _ :: _, [] => rfl
  | x :: a, y :: b => by
    show (PyData.eqvAll (x.map fun (n : Nat) => PyData.int (n : Int)) (y.map fun (n : Nat) => PyData.int (n : Int)) && PyData.eqvAll (a.map beatD) (b.map beatD)) = _
    rw [beats_eqv a b, ints_eqv, Bool.eq_iff_iff]
    simp
theorem pat_eqv (p q : List (List Nat)) : PyData.eqv (patD p) (patD q) = decide (p = q) := beats_eqv p q
theorem dp_nats {K : PySem.W.Frag} {H : Hp} : ∀ b : List Nat, DpAll K H (natsV b) (b.map fun (n : Nat) => PyData.int (n : Int))
  | [] => .nil
  | n :: r => .cons (.int _) (dp_nats r)
theorem BeatAt.dp {K : PySem.W.Frag} {H : Hp} {v : V} {b : List Nat} (h : BeatAt H v b) : Dp K H v (beatD b) := by
  obtain ⟨x, rfl, h⟩ := h
  exact .lst (SqL.of h) (dp_nats b)
theorem dp_pats {K : PySem.W.Frag} {H : Hp} : ∀ {vs : List V} {p : List (List Nat)}, Paired (BeatAt H) vs p → DpAll K H vs (p.map beatD)
  | _, _, .nil => .nil
  | _, _, .cons h t => .cons h.dp (dp_pats t)
theorem PatAt.dp {K : PySem.W.Frag} {H : Hp} {v : V} {p : List (List Nat)} (h : PatAt H v p) : Dp K H v (patD p) := by
  obtain ⟨x, vs, rfl, h1, h2⟩ := h
  exact .lst (SqL.of h1) (dp_pats h2)
/-! parts of patterns -/
theorem Paired.take {α β : Type} {F : α → β → Prop} : ∀ {l : List α} {m : List β} (n : Nat), Paired F l m → Paired F (l.take n) (m.take n)
  | _, _, 0, _ => .nil
  | _, _, _ + 1, .nil => .nil
  | _, _, n + 1, .cons r t => .cons r (Paired.take n t)

theorem Paired.append {α β : Type} {F : α → β → Prop} : ∀ {l l' : List α} {m m' : List β}, Paired F l m → Paired F l' m' → Paired F (l ++ l') (m ++ m')
  | _, _, _, _, .nil, s => s
  | _, _, _, _, .cons r t, s => .cons r (Paired.append t s)
theorem Paired.rep {α β : Type} {F : α → β → Prop} {l : List α} {m : List β} (h : Paired F l m) : ∀ k : Nat, Paired F (List.replicate k l).flatten (List.replicate k m).flatten
  | 0 => .nil
  | k + 1 => by
    rw [List.replicate_succ, List.replicate_succ, List.flatten_cons, List.flatten_cons]
    exact Paired.append h (Paired.rep h k)
theorem cut_take {xs : List V} {k : Nat} (hk : k ≤ xs.length) : cutV xs none (some (k : Int)) = xs.take k := by
  unfold cutV
  rw [HT.sIx_none, HT.sIx_nat, Nat.min_eq_left hk, List.drop_zero, Nat.sub_zero]

/-! rules within a comprehension's block: the written part by its name -/
section
variable {X : Cx} {K : PySem.W.Frag}

end

end L2

set_option Elab.async false
set_option linter.all false
set_option maxRecDepth 100000
set_option maxHeartbeats 4000000
namespace JX
open PySem PySem.Spec PyProof.Rows
/-! max of a list, whatever its items: the comparison may read the heap; with or without a default -/

section
variable {prog : Program} {w : World} {A : Around}

end
end JX
namespace L2
open PySem PySem.Spec PyProof.Rows
section
variable {X : Cx}

end
end L2

/-! States: what is in the air, a beat from a state. -/
namespace Jm
open Jug

/-! a beat from a state -/

end Jm

set_option Elab.async false
set_option linter.all false
set_option maxRecDepth 100000
set_option maxHeartbeats 4000000
namespace JX
open PySem PySem.Spec PyProof.Rows
open PySem.AutoSeq1 (wpAny_loadPart')

end JX
namespace L2
open PySem PySem.Spec PyProof.Rows
section
variable {X : Cx}

end
end L2

set_option Elab.async false
set_option linter.all false
set_option maxRecDepth 100000
set_option maxHeartbeats 4000000
namespace JX
open PySem PySem.Spec PyProof.Rows
open PySem.SeqAt (EqAt)
open PySem.AutoSeq1 (wpAny_loadPart')
/-! a > b of lists, item by item -/

end JX
namespace L2
open PySem PySem.Spec PyProof.Rows

section
variable {X : Cx}

end
end L2

/-! Texts told; the form. -/
namespace Jm
open Jug

/-! the greatest turn -/

theorem root_len {p : Pattern} (h : 0 < p.length) : 0 < (root p).length ∧ (root p).length ≤ p.length := by
  unfold root
  split
  · rw [List.length_take]
    omega
  · exact ⟨h, Nat.le_refl _⟩

end Jm

set_option Elab.async false
set_option linter.all false
set_option maxRecDepth 100000
set_option maxHeartbeats 4000000
namespace L2
open PySem PySem.Spec PyProof.Rows
section
variable {X : Cx}

end
end L2

/-! Ways: rows of throws, layers of states. -/
namespace Jm
open Jug
/-! rows of throws, grown at their ends -/

/-! one layer -/

/-! what stays true -/

/-! a beat's step keeps the rows in order -/

/-! the search -/

end Jm

set_option Elab.async false
set_option linter.all false
set_option maxRecDepth 100000
set_option maxHeartbeats 2000000
namespace L2
open PySem PySem.Spec PyProof.Rows
/-! heaps where only dicts by tuples have changed -/

/-! states as keys -/

/-! a heap without one thing -/

/-! lists of ints as data -/

end L2

/-! What a way may be asked of. -/
namespace Jm
open Jug

end Jm

/-! As many balls are in the air as the heights say. -/
namespace Jm
open Jug

/-! joins -/

end Jm



/-! What is made of a right pattern is right: seen backwards, swapped. -/
namespace Jm
open Jug

/-! single throws: right just if no two land on one beat (a height of 0 stays where it is) -/

/-! swapped -/

end Jm

namespace Jm
open Jug
/-! Balls followed: each ball's beats till it lands. -/

/-! each ball's beats till it lands -/

/-! different states -/
theorem distinct_mem : ∀ {l : List Air} {x : Air}, x ∈ distinct l ↔ x ∈ l
  | [], _ => by simp [distinct]
  | y :: r, x => by
    unfold distinct
    split
    · rename_i h
      rw [distinct_mem, List.mem_cons]
      have h := List.contains_iff_mem.mp h
      constructor
      · exact .inr
      · rintro (rfl | q)
        · exact h
        · exact q
    · rw [List.mem_cons, List.mem_cons, distinct_mem]
theorem distinct_nodup : ∀ l : List Air, (distinct l).Nodup
  | [] => List.nodup_nil
  | y :: r => by
    unfold distinct
    split
    · exact distinct_nodup r
    · rename_i h
      rw [List.nodup_cons]
      exact ⟨fun q => h (List.contains_iff_mem.mpr (distinct_mem.mp q)), distinct_nodup r⟩
theorem nodup_same_len {α : Type} [DecidableEq α] {a b : List α} (ha : a.Nodup) (hb : b.Nodup) (h : ∀ x, x ∈ a ↔ x ∈ b) : a.length = b.length := by
  refine (List.perm_iff_count.mpr fun x => ?_).length_eq
  have n1 := List.nodup_iff_count.mp ha x
  have n2 := List.nodup_iff_count.mp hb x
  by_cases q : x ∈ a
  · have := List.count_pos_iff.mpr q
    have := List.count_pos_iff.mpr ((h x).mp q)
    omega
  · rw [List.count_eq_zero.mpr q, List.count_eq_zero.mpr fun z => q ((h x).mpr z)]

end Jm

set_option Elab.async false
set_option linter.all false
set_option maxRecDepth 100000
set_option maxHeartbeats 2000000
namespace Jst
open PySem PySem.SetTable
/-! the places that are looked at, in order -/
def adv (mask : Nat) (p : Probe) : Probe := SetTable.advance { mask := mask, place := #[], dummies := #[], finger := 0, led := true, moves := 0, plain := true } p

def st (mask : Nat) (h : Int) : Probe := SetTable.probeStart { mask := mask, place := #[], dummies := #[], finger := 0, led := true, moves := 0, plain := true } h

def at_ (mask : Nat) (p : Probe) : Nat → Probe
  | 0 => p
  | n + 1 => adv mask (at_ mask p n)
theorem at_add (mask : Nat) (p : Probe) (a : Nat) : ∀ b, at_ mask p (a + b) = at_ mask (at_ mask p a) b
  | 0 => rfl
  | b + 1 => by
    show adv mask (at_ mask p (a + b)) = adv mask (at_ mask (at_ mask p a) b)
    rw [at_add mask p a b]
theorem at_one (mask : Nat) (p : Probe) (n : Nat) : at_ mask p (n + 1) = at_ mask (adv mask p) n := by
  rw [Nat.add_comm, at_add]
  rfl
structure POk (mask : Nat) (p : Probe) : Prop where
  run : p.j + p.more = runEnd mask p.i
  ij : p.i ≤ p.j
  il : p.i ≤ mask
  pt : p.perturb < 2 ^ 64
  dm : p.dummy = none
theorem runEnd_le {mask i : Nat} (h : i ≤ mask) : i ≤ runEnd mask i ∧ runEnd mask i ≤ mask ∧ runEnd mask i ≤ i + 9 := by
  unfold runEnd
  split <;> omega
theorem POk.jl {mask : Nat} {p : Probe} (h : POk mask p) : p.j ≤ mask ∧ p.more ≤ 9 := by
  have h1 := runEnd_le h.il
  have h2 := h.run
  have h3 := h.ij
  omega
/-- on to the next run -/
def lp (mask : Nat) (p : Probe) : Probe := { p with j := (leap mask p.i p.perturb).1, more := runEnd mask (leap mask p.i p.perturb).1 - (leap mask p.i p.perturb).1, i := (leap mask p.i p.perturb).1, perturb := (leap mask p.i p.perturb).2 }
theorem adv_more {mask : Nat} {p : Probe} (h : p.more > 0) : adv mask p = { p with j := p.j + 1, more := p.more - 1 } := by
  unfold adv SetTable.advance
  rw [if_pos h]
theorem adv_leap {mask : Nat} {p : Probe} (h : ¬ p.more > 0) : adv mask p = lp mask p := by
  unfold adv SetTable.advance
  rw [if_neg h]
  rfl
theorem leap_le (mask i q : Nat) : (leap mask i q).1 ≤ mask := by
  unfold leap
  exact Nat.le_of_lt_succ (Nat.mod_lt _ (by omega))
theorem POk.lp {mask : Nat} {p : Probe} (h : POk mask p) : POk mask (lp mask p) := by
  have h1 := leap_le mask p.i p.perturb
  have h2 := runEnd_le h1
  refine ⟨?_, Nat.le_refl _, h1, ?_, h.dm⟩
  · show (leap mask p.i p.perturb).1 + (runEnd mask (leap mask p.i p.perturb).1 - (leap mask p.i p.perturb).1) = runEnd mask (leap mask p.i p.perturb).1
    omega
  · show p.perturb / 32 < 2 ^ 64
    have := h.pt
    omega
theorem POk.adv {mask : Nat} {p : Probe} (h : POk mask p) : POk mask (adv mask p) := by
  by_cases q : p.more > 0
  · rw [adv_more q]
    have h1 := h.run
    have h2 := h.ij
    exact ⟨by show p.j + 1 + (p.more - 1) = runEnd mask p.i; omega, by show p.i ≤ p.j + 1; omega, h.il, h.pt, h.dm⟩
  · rw [adv_leap q]
    exact h.lp
theorem POk.at {mask : Nat} {p : Probe} (h : POk mask p) : ∀ n, POk mask (at_ mask p n)
  | 0 => h
  | n + 1 => (h.at n).adv
theorem bits_lt (h : Int) : bits h < 2 ^ 64 := by
  unfold bits
  omega
theorem st_ok (mask : Nat) (h : Int) : POk mask (st mask h) := by
  have h1 : bits h % (mask + 1) ≤ mask := Nat.le_of_lt_succ (Nat.mod_lt _ (by omega))
  have h2 := runEnd_le h1
  refine ⟨?_, Nat.le_refl _, h1, bits_lt h, rfl⟩
  show bits h % (mask + 1) + (runEnd mask (bits h % (mask + 1)) - bits h % (mask + 1)) = _
  show _ = runEnd mask (bits h % (mask + 1))
  omega
theorem at_run {mask : Nat} {p : Probe} : ∀ m, m ≤ p.more → at_ mask p m = { p with j := p.j + m, more := p.more - m }
  | 0, _ => rfl
  | m + 1, h => by
    show adv mask (at_ mask p m) = _
    rw [at_run m (by omega), adv_more (by show p.more - m > 0; omega)]
    show ({ p with j := p.j + m + 1, more := p.more - m - 1 } : Probe) = _
    rw [Nat.sub_sub, Nat.add_assoc]
theorem at_leap {mask : Nat} (p : Probe) : at_ mask p (p.more + 1) = lp mask p := by
  show adv mask (at_ mask p p.more) = _
  rw [at_run p.more (Nat.le_refl _), adv_leap (by show ¬ p.more - p.more > 0; omega)]
  rfl
def lps (mask : Nat) (p : Probe) : Nat → Probe
  | 0 => p
  | r + 1 => lps mask (lp mask p) r
theorem lps_at {mask : Nat} : ∀ (r : Nat) {p : Probe}, POk mask p → ∃ N, N ≤ 10 * r ∧ at_ mask p N = lps mask p r
  | 0, p, _ => ⟨0, Nat.le_refl _, rfl⟩
  | r + 1, p, h => by
    obtain ⟨N, hN, e⟩ := lps_at r h.lp
    refine ⟨p.more + 1 + N, by have := h.jl; omega, ?_⟩
    rw [at_add, at_leap, e]
    rfl
theorem lps_succ {mask : Nat} : ∀ (r : Nat) (p : Probe), lps mask p (r + 1) = lp mask (lps mask p r)
  | 0, p => rfl
  | r + 1, p => lps_succ r (lp mask p)
theorem lps_pt {mask : Nat} (p : Probe) : ∀ r, (lps mask p r).perturb = p.perturb / 32 ^ r
  | 0 => by simp [lps]
  | r + 1 => by
    rw [lps_succ]
    show (lps mask p r).perturb / 32 = _
    rw [lps_pt p r, Nat.div_div_eq_div_mul, Nat.pow_succ]
def lcg (mask i : Nat) : Nat → Nat
  | 0 => i
  | k + 1 => (lcg mask i k * 5 + 1) % (mask + 1)
theorem lps_lcg {mask : Nat} {p : Probe} (h0 : p.perturb = 0) : ∀ k, (lps mask p k).i = lcg mask p.i k ∧ (lps mask p k).perturb = 0
  | 0 => ⟨rfl, h0⟩
  | k + 1 => by
    obtain ⟨h1, h2⟩ := lps_lcg h0 k
    rw [lps_succ]
    refine ⟨?_, ?_⟩
    · show ((lps mask p k).i * 5 + 1 + (lps mask p k).perturb / 32) % (mask + 1) = (lcg mask p.i k * 5 + 1) % (mask + 1)
      rw [h1, h2]
    · show (lps mask p k).perturb / 32 = 0
      rw [h2]
theorem cover7 : ∀ i : Fin 8, ∀ e : Fin 8, ∃ k : Fin 8, lcg 7 i.val k.val = e.val := by decide +kernel
theorem cover31 : ∀ i : Fin 32, ∀ e : Fin 32, ∃ k : Fin 32, lcg 31 i.val k.val = e.val := by decide +kernel
theorem cover {mask i e : Nat} (hm : mask = 7 ∨ mask = 31) (hi : i ≤ mask) (he : e ≤ mask) : ∃ k, k ≤ mask ∧ lcg mask i k = e := by
  rcases hm with rfl | rfl
  · obtain ⟨k, hk⟩ := cover7 ⟨i, by omega⟩ ⟨e, by omega⟩
    exact ⟨k.val, by omega, hk⟩
  · obtain ⟨k, hk⟩ := cover31 ⟨i, by omega⟩ ⟨e, by omega⟩
    exact ⟨k.val, by omega, hk⟩
theorem lps_add {mask : Nat} (p : Probe) (a : Nat) : ∀ b, lps mask p (a + b) = lps mask (lps mask p a) b
  | 0 => rfl
  | b + 1 => by
    rw [show a + (b + 1) = a + b + 1 from rfl, lps_succ, lps_succ, lps_add p a b]
theorem POk.lps {mask : Nat} {p : Probe} (h : POk mask p) : ∀ r, POk mask (lps mask p r)
  | 0 => h
  | r + 1 => by
    rw [lps_succ]
    exact (h.lps r).lp
theorem lps_j {mask : Nat} (p : Probe) : ∀ r, (lps mask p (r + 1)).j = (lps mask p (r + 1)).i := fun r => by
  rw [lps_succ]
  rfl
/-- every place is come to -/
theorem reach_run {mask e : Nat} {p : Probe} (hm : mask = 7 ∨ mask = 31) (h : POk mask p) (he : e ≤ mask) : ∃ r, 1 ≤ r ∧ r ≤ mask + 13 ∧ (lps mask p r).j = e ∧ (lps mask p r).i = e := by
  have h13 : (lps mask p 13).perturb = 0 := by
    rw [lps_pt, Nat.div_eq_of_lt]
    have := h.pt
    exact Nat.lt_of_lt_of_le this (by decide)
  obtain ⟨k, hk, ek⟩ := cover hm (h.lps 13).il he
  refine ⟨13 + k, by omega, by omega, ?_⟩
  have e2 : (Jst.lps mask p (13 + k)).i = e := by rw [lps_add, (lps_lcg h13 k).1, ek]
  refine ⟨?_, e2⟩
  rw [show 13 + k = 12 + k + 1 by omega, lps_j, show 12 + k + 1 = 13 + k by omega, e2]
theorem reach {mask e : Nat} {p : Probe} (hm : mask = 7 ∨ mask = 31) (h : POk mask p) (he : e ≤ mask) : ∃ N, N < 10 * turns mask ∧ (at_ mask p N).j = e := by
  obtain ⟨r, _, hr, e1, _⟩ := reach_run hm h he
  obtain ⟨N, hN, e2⟩ := lps_at r h
  refine ⟨N, by unfold turns; omega, by rw [e2, e1]⟩
theorem pigeon : ∀ (k : Nat) (l : List Nat), (∀ e, e < k → e ∈ l) → k ≤ l.length
  | 0, _, _ => Nat.zero_le _
  | k + 1, l, h => by
    have hk := h k (Nat.lt_succ_self k)
    have := pigeon k (l.erase k) fun e he => (List.mem_erase_of_ne (by omega)).mpr (h e (by omega))
    rw [List.length_erase_of_mem hk] at this
    have : 0 < l.length := List.length_pos_of_mem hk
    omega
theorem free_place {mask : Nat} {l : List Nat} (h : l.length ≤ mask) : ∃ e, e ≤ mask ∧ e ∉ l := by
  refine Classical.byContradiction fun hn => ?_
  have := pigeon (mask + 1) l fun e he => Classical.byContradiction fun q => hn ⟨e, by omega, q⟩
  omega
end Jst

set_option Elab.async false
set_option linter.all false
set_option maxRecDepth 100000
set_option maxHeartbeats 2000000
namespace Jst
open PySem PySem.SetTable
/-! where a place stands among the rising ones -/
def Rise (xs : Array Nat) : Prop := xs.toList.Pairwise (· < ·)
theorem Rise.lt {xs : Array Nat} (h : Rise xs) {i k : Nat} (hik : i < k) (hk : k < xs.size) : xs[i]'(by omega) < xs[k] := by
  have := List.pairwise_iff_getElem.mp h i k (by rw [Array.length_toList]; omega) (by rw [Array.length_toList]; exact hk) hik
  simpa using this
theorem below_go {xs : Array Nat} {j : Nat} (hr : Rise xs) : ∀ (fuel lo hi : Nat), lo ≤ hi → hi ≤ xs.size → hi - lo ≤ fuel → (∀ i (hi : i < xs.size), i < lo → xs[i] < j) → (∀ i (h : i < xs.size), hi ≤ i → j ≤ xs[i]) →
    below.go xs j fuel lo hi ≤ xs.size ∧ (∀ i (h : i < xs.size), i < below.go xs j fuel lo hi → xs[i] < j) ∧ ∀ i (h : i < xs.size), below.go xs j fuel lo hi ≤ i → j ≤ xs[i]
  | 0, lo, hi, h1, h2, h3, h4, h5 => by
    have e : lo = hi := by omega
    subst e
    unfold below.go
    exact ⟨h2, fun i h hi => h4 i h hi, fun i h hi => h5 i h hi⟩
  | fuel + 1, lo, hi, h1, h2, h3, h4, h5 => by
    unfold below.go
    by_cases hl : lo < hi
    · rw [if_pos hl]
      dsimp only
      have hm : (lo + hi) / 2 < xs.size := by omega
      have e : xs.getD ((lo + hi) / 2) j = xs[(lo + hi) / 2] := by simp [Array.getD, hm]
      rw [e]
      by_cases q : xs[(lo + hi) / 2] < j
      · rw [if_pos q]
        refine below_go hr fuel _ _ (by omega) h2 (by omega) (fun i h hi' => ?_) h5
        rcases Nat.lt_or_ge i ((lo + hi) / 2) with z | z
        · exact Nat.lt_trans (hr.lt z hm) q
        · have : i = (lo + hi) / 2 := by omega
          subst this
          exact q
      · rw [if_neg q]
        refine below_go hr fuel _ _ (by omega) (by omega) (by omega) h4 fun i h hi' => ?_
        rcases Nat.lt_or_ge ((lo + hi) / 2) i with z | z
        · have := hr.lt z h
          omega
        · have : i = (lo + hi) / 2 := by omega
          subst this
          omega
    · rw [if_neg hl]
      have e : lo = hi := by omega
      subst e
      exact ⟨h2, fun i h hi => h4 i h hi, fun i h hi => h5 i h hi⟩
theorem below_ok {xs : Array Nat} (hr : Rise xs) (j : Nat) : below xs j ≤ xs.size ∧ (∀ i (h : i < xs.size), i < below xs j → xs[i] < j) ∧ ∀ i (h : i < xs.size), below xs j ≤ i → j ≤ xs[i] := by
  unfold below
  exact below_go hr xs.size 0 xs.size (Nat.zero_le _) (Nat.le_refl _) (by omega) (fun i h q => absurd q (by omega)) fun i h q => absurd h (by omega)
theorem below_at {xs : Array Nat} (hr : Rise xs) {i j : Nat} (h : xs[i]? = some j) : below xs j = i := by
  obtain ⟨hi, e⟩ := Array.getElem?_eq_some_iff.mp h
  obtain ⟨h1, h2, h3⟩ := below_ok hr j
  rcases Nat.lt_trichotomy (below xs j) i with q | q | q
  · have h4 := h3 (below xs j) (by omega) (Nat.le_refl _)
    have h5 := hr.lt q hi
    omega
  · exact q
  · have := h2 i hi q
    omega
structure Clean (t : SetTable) : Prop where
  dum : t.dummies = #[]
  srt : Rise t.place
  low : ∀ j ∈ t.place.toList, j ≤ t.mask
theorem slot_live {t : SetTable} (c : Clean t) {i j : Nat} (h : t.place[i]? = some j) : t.slot j = .live i := by
  unfold SetTable.slot
  dsimp only
  rw [below_at c.srt h, h, if_pos (by simp)]
theorem slot_empty {t : SetTable} (c : Clean t) {j : Nat} (h : j ∉ t.place.toList) : t.slot j = .empty := by
  unfold SetTable.slot
  dsimp only
  rw [if_neg, if_neg]
  · unfold SetTable.has
    rw [c.dum]
    simp
  · intro q
    have q := beq_iff_eq.mp q
    exact h (by rw [← Array.mem_def]; exact Array.mem_of_getElem? q)
theorem mem_place {t : SetTable} {j : Nat} (h : j ∈ t.place.toList) : ∃ i : Nat, t.place[i]? = some j := by
  obtain ⟨i, hi⟩ := List.getElem?_of_mem h
  exact ⟨i, by rw [← Array.getElem?_toList]; exact hi⟩
/-- what looking for a hash comes to -/
theorem probe_go {t : SetTable} (c : Clean t) (hashAt : Nat → Int) (h : Int) {p : Probe} (hp : POk t.mask p) : ∀ (fuel : Nat), (∃ N, N < fuel ∧ (at_ t.mask p N).j ∉ t.place.toList) →
    ∃ m, (∀ k, k < m → ∃ i, t.place[i]? = some (at_ t.mask p k).j ∧ hashAt i ≠ h) ∧
      ((SetTable.probe.go t hashAt h fuel p = some (.empty (at_ t.mask p m).j none) ∧ (at_ t.mask p m).j ∉ t.place.toList) ∨
       ∃ i, SetTable.probe.go t hashAt h fuel p = some (.candidate (at_ t.mask p m).j i (at_ t.mask p (m + 1))) ∧ t.place[i]? = some (at_ t.mask p m).j ∧ hashAt i = h)
  | 0, hN => absurd hN.choose_spec.1 (by omega)
  | fuel + 1, ⟨N, hN, hNe⟩ => by
    by_cases hj : p.j ∈ t.place.toList
    · obtain ⟨i, hi⟩ := mem_place hj
      by_cases hh : hashAt i = h
      · refine ⟨0, fun k hk => absurd hk (by omega), .inr ⟨i, ?_, hi, hh⟩⟩
        unfold SetTable.probe.go
        rw [slot_live c hi]
        dsimp only
        rw [if_pos (by rw [hh]; simp)]
        rfl
      · have hN0 : N ≠ 0 := fun e => by
          subst e
          exact hNe hj
        obtain ⟨m, h1, h2⟩ := probe_go c hashAt h (p := adv t.mask p) hp.adv fuel ⟨N - 1, by omega, by
          rw [← at_one, show N - 1 + 1 = N by omega]
          exact hNe⟩
        have eg : SetTable.probe.go t hashAt h (fuel + 1) p = SetTable.probe.go t hashAt h fuel (adv t.mask p) := by
          conv => lhs; unfold SetTable.probe.go
          rw [slot_live c hi]
          dsimp only
          rw [if_neg (by simpa using hh)]
          rfl
        refine ⟨m + 1, fun k hk => ?_, ?_⟩
        · cases k with
          | zero => exact ⟨i, hi, hh⟩
          | succ k =>
            rw [at_one]
            exact h1 k (by omega)
        · rw [eg, at_one, at_one]
          exact h2
    · refine ⟨0, fun k hk => absurd hk (by omega), .inl ⟨?_, hj⟩⟩
      unfold SetTable.probe.go
      rw [slot_empty c hj]
      show some (Met.empty p.j p.dummy) = _
      rw [hp.dm]
      rfl
end Jst

set_option Elab.async false
set_option linter.all false
set_option maxRecDepth 100000
set_option maxHeartbeats 2000000
namespace Jst
open PySem PySem.SetTable
theorem insertAt_list {α : Type} (xs : Array α) (p : Nat) (x : α) : (insertAt xs p x).toList = xs.toList.take p ++ x :: xs.toList.drop p := by
  unfold insertAt
  simp [Array.toList_extract, List.extract_eq_drop_take]
  exact List.take_of_length_le (by simp)
/-- found by its hash -/
def Rch (mask : Nat) (l : List Nat) (h : Int) (j : Nat) : Prop := ∃ n, (at_ mask (st mask h) n).j = j ∧ ∀ m, m < n → (at_ mask (st mask h) m).j ∈ l
theorem Rch.mono {mask : Nat} {l l' : List Nat} {h : Int} {j : Nat} (r : Rch mask l h j) (hs : ∀ x ∈ l, x ∈ l') : Rch mask l' h j := by
  obtain ⟨n, h1, h2⟩ := r
  exact ⟨n, h1, fun m hm => hs _ (h2 m hm)⟩
structure TabOk (t : SetTable) (es : Array (Int × Value)) : Prop where
  cln : Clean t
  msk : t.mask = 7 ∨ t.mask = 31
  sz : t.place.size = es.size
  rch : ∀ (i : Nat) (e : Int × Value) (j : Nat), es[i]? = some e → t.place[i]? = some j → Rch t.mask t.place.toList e.1 j
theorem fits_of {t : SetTable} {es : Array (Int × Value)} (h : TabOk t es) (hl : es.size ≤ t.mask) : t.fits es.size = true := by
  unfold SetTable.fits SetTable.fill
  rw [h.cln.dum, h.sz]
  simp
  exact hl
/-- one more, at a free place -/
theorem put_clean {t : SetTable} (c : Clean t) {j : Nat} (hj : j ∉ t.place.toList) (hm : j ≤ t.mask) :
    Clean (t.put j).1 ∧ (t.put j).1.mask = t.mask ∧ (t.put j).1.place.toList = t.place.toList.take (t.put j).2 ++ j :: t.place.toList.drop (t.put j).2 ∧ (t.put j).2 ≤ t.place.size := by
  obtain ⟨h1, h2, h3⟩ := below_ok c.srt j
  have ep : (t.put j).1.place.toList = t.place.toList.take (below t.place j) ++ j :: t.place.toList.drop (below t.place j) := insertAt_list _ _ _
  refine ⟨⟨?_, ?_, ?_⟩, rfl, ep, h1⟩
  · show (if has t.dummies j then eraseAt t.dummies (below t.dummies j) else t.dummies) = #[]
    have : has t.dummies j = false := by
      unfold SetTable.has
      rw [c.dum]
      simp
    rw [this]
    exact c.dum
  · unfold Rise
    rw [ep, List.pairwise_append, List.pairwise_cons]
    have hs := c.srt
    unfold Rise at hs
    have inTake : ∀ a ∈ t.place.toList.take (below t.place j), a < j := fun a ha => by
      obtain ⟨i, hi, e⟩ := List.mem_take_iff_getElem.mp ha
      rw [Array.length_toList] at hi
      have := h2 i (by omega) (by omega)
      rw [← e]
      simpa using this
    have inDrop : ∀ b ∈ t.place.toList.drop (below t.place j), j < b := fun b hb => by
      obtain ⟨i, hi, e⟩ := List.mem_drop_iff_getElem.mp hb
      rw [Array.length_toList] at hi
      have := h3 (i + below t.place j) (by omega) (by omega)
      have e2 : t.place[i + below t.place j]'(by omega) = b := by
        rw [← e]
        simp [Nat.add_comm]
      have hne : b ≠ j := fun q => hj (by rw [← q]; exact List.mem_of_mem_drop hb)
      omega
    refine ⟨hs.sublist (List.take_sublist _ _), ⟨inDrop, hs.sublist (List.drop_sublist _ _)⟩, fun a ha b hb => ?_⟩
    have h4 := inTake a ha
    rcases List.mem_cons.mp hb with q | q
    · omega
    · have := inDrop b q
      omega
  · intro a ha
    rw [ep] at ha
    show a ≤ t.mask
    rcases List.mem_append.mp ha with q | q
    · exact c.low a (List.mem_of_mem_take q)
    · rcases List.mem_cons.mp q with q | q
      · omega
      · exact c.low a (List.mem_of_mem_drop q)
/-- an entry after one more: the new one, or an old one -/
theorem ins_at {α β : Type} {xs : List α} {ys : List β} {p : Nat} {x : α} {y : β} {i : Nat} {a : α} {b : β} (hl : xs.length = ys.length) (hp : p ≤ xs.length) (ha : (xs.take p ++ x :: xs.drop p)[i]? = some a) (hb : (ys.take p ++ y :: ys.drop p)[i]? = some b) :
    (a = x ∧ b = y) ∨ ∃ k : Nat, xs[k]? = some a ∧ ys[k]? = some b := by
  have l1 : (xs.take p).length = p := by rw [List.length_take]; omega
  have l2 : (ys.take p).length = p := by rw [List.length_take]; omega
  rcases Nat.lt_trichotomy i p with q | q | q
  · rw [List.getElem?_append_left (by omega), List.getElem?_take, if_pos q] at ha hb
    exact .inr ⟨i, ha, hb⟩
  · rw [List.getElem?_append_right (by omega), l1, show i - p = 0 by omega] at ha
    rw [List.getElem?_append_right (by omega), l2, show i - p = 0 by omega] at hb
    cases ha
    cases hb
    exact .inl ⟨rfl, rfl⟩
  · rw [List.getElem?_append_right (by omega), l1, show i - p = (i - p - 1) + 1 by omega, List.getElem?_cons_succ, List.getElem?_drop] at ha
    rw [List.getElem?_append_right (by omega), l2, show i - p = (i - p - 1) + 1 by omega, List.getElem?_cons_succ, List.getElem?_drop] at hb
    exact .inr ⟨_, ha, hb⟩
theorem put_ok {t : SetTable} {es : Array (Int × Value)} (k : TabOk t es) {h : Int} {x : Value} {j : Nat} (hj : j ∉ t.place.toList) (hm : j ≤ t.mask) (hr : Rch t.mask t.place.toList h j) :
    TabOk (t.put j).1 (insertAt es (t.put j).2 (h, x)) ∧ (insertAt es (t.put j).2 (h, x)).toList = es.toList.take (t.put j).2 ++ (h, x) :: es.toList.drop (t.put j).2 := by
  obtain ⟨c, em, ep, hp⟩ := put_clean k.cln hj hm
  have ee := insertAt_list es (t.put j).2 (h, x)
  have sub : ∀ a ∈ t.place.toList, a ∈ (t.put j).1.place.toList := fun a ha => by
    rw [ep]
    rw [← List.take_append_drop (t.put j).2 t.place.toList] at ha
    rcases List.mem_append.mp ha with q | q
    · exact List.mem_append_left _ q
    · exact List.mem_append_right _ (List.mem_cons_of_mem _ q)
  refine ⟨⟨c, by rw [em]; exact k.msk, ?_, fun i e j' he hj' => ?_⟩, ee⟩
  · have h1 := congrArg List.length ep
    have h2 := congrArg List.length ee
    have h3 := k.sz
    simp only [Array.length_toList, List.length_append, List.length_take, List.length_cons, List.length_drop] at h1 h2
    omega
  · rw [← Array.getElem?_toList] at he hj'
    rw [ee] at he
    rw [ep] at hj'
    rw [em]
    rcases ins_at (by rw [Array.length_toList, Array.length_toList, k.sz]) (by rw [Array.length_toList, ← k.sz]; exact hp) he hj' with ⟨q1, q2⟩ | ⟨k', q1, q2⟩
    · subst q1 q2
      exact hr.mono sub
    · rw [Array.getElem?_toList] at q1 q2
      exact (k.rch k' e j' q1 q2).mono sub
end Jst

set_option Elab.async false
set_option linter.all false
set_option maxRecDepth 100000
set_option maxHeartbeats 2000000
namespace Jst
open PySem PySem.SetTable
/-! all laid anew -/
def taken (owner : Array (Option Nat)) (j : Nat) : Prop := (owner.getD j (some 0)).isNone = false
theorem find_range {n : Nat} {q : Nat → Bool} {k : Nat} (h : (List.range n).find? q = some k) : k < n ∧ q k = true ∧ ∀ m, m < k → q m = false := by
  rw [List.find?_range_eq_some] at h
  refine ⟨by simpa using h.2.1, h.1, fun m hm => ?_⟩
  have := h.2.2 m hm
  simpa using this
theorem free_at {mask : Nat} {owner : Array (Option Nat)} : ∀ (fuel : Nat) {p : Probe} {j : Nat}, POk mask p → p.j = p.i → layClean.free mask owner fuel p.i p.perturb = some j →
    (owner.getD j (some 0)).isNone = true ∧ ∃ n, (at_ mask p n).j = j ∧ ∀ m, m < n → taken owner (at_ mask p m).j
  | 0, p, j, _, _, h => by
    unfold layClean.free at h
    cases h
  | fuel + 1, p, j, hp, hj, h => by
    have hrun := hp.run
    have hij := runEnd_le hp.il
    have hin : ∀ m, m ≤ p.more → (at_ mask p m).j = p.i + m := fun m hm => by
      rw [at_run m hm]
      show p.j + m = _
      rw [hj]
    unfold layClean.free at h
    cases e : (List.range (runEnd mask p.i + 1 - p.i)).find? fun k => (owner.getD (p.i + k) (some 0)).isNone with
    | some k =>
      rw [e] at h
      have h := Option.some.inj h
      obtain ⟨h1, h2, h3⟩ := find_range e
      subst h
      exact ⟨h2, k, hin k (by omega), fun m hm => by
        unfold taken
        rw [hin m (by omega)]
        exact h3 m hm⟩
    | none =>
      rw [e] at h
      have hno := List.find?_eq_none.mp e
      obtain ⟨h1, n, h2, h3⟩ := free_at fuel (p := lp mask p) hp.lp rfl h
      refine ⟨h1, p.more + 1 + n, by rw [at_add, at_leap]; exact h2, fun m hm => ?_⟩
      by_cases q : m ≤ p.more
      · unfold taken
        rw [hin m q]
        exact (Bool.not_eq_true _).mp (hno m (List.mem_range.mpr (by omega)))
      · obtain ⟨d, rfl⟩ : ∃ d, m = p.more + 1 + d := ⟨m - (p.more + 1), by omega⟩
        rw [at_add, at_leap]
        exact h3 d (by omega)
theorem free_some {mask : Nat} {owner : Array (Option Nat)} : ∀ (fuel : Nat) {p : Probe}, POk mask p → p.j = p.i → (∃ r, r < fuel ∧ (owner.getD (lps mask p r).i (some 0)).isNone = true) → ∃ j, layClean.free mask owner fuel p.i p.perturb = some j
  | 0, _, _, _, ⟨r, h, _⟩ => absurd h (by omega)
  | fuel + 1, p, hp, hj, ⟨r, hr, he⟩ => by
    have hij := runEnd_le hp.il
    unfold layClean.free
    cases e : (List.range (runEnd mask p.i + 1 - p.i)).find? fun k => (owner.getD (p.i + k) (some 0)).isNone with
    | some k => exact ⟨_, rfl⟩
    | none =>
      have hno := List.find?_eq_none.mp e
      cases r with
      | zero =>
        have := hno 0 (List.mem_range.mpr (by omega))
        exact absurd he this
      | succ r => exact free_some fuel (p := lp mask p) hp.lp rfl ⟨r, by omega, he⟩
/-- who owns which place: the places js, in the order in which they were given -/
structure OwnOk (mask : Nat) (hs : List Int) (owner : Array (Option Nat)) (js : List Nat) : Prop where
  sz : owner.size = mask + 1
  own : ∀ j k, owner.getD j none = some k ↔ js[k]? = some j
  low : ∀ j ∈ js, j ≤ mask
  nd : js.Nodup
  rch : ∀ (k : Nat) h j, hs[k]? = some h → js[k]? = some j → Rch mask js h j
theorem OwnOk.free {mask : Nat} {hs : List Int} {owner : Array (Option Nat)} {js : List Nat} (k : OwnOk mask hs owner js) {j : Nat} (hj : j ≤ mask) : (owner.getD j (some 0)).isNone = true ↔ j ∉ js := by
  have hlt : j < owner.size := by rw [k.sz]; omega
  have e : owner.getD j (some 0) = owner.getD j none := by simp [Array.getD, hlt]
  rw [e]
  constructor
  · intro h hm
    obtain ⟨i, hi⟩ := List.getElem?_of_mem hm
    rw [(k.own j i).mpr hi] at h
    cases h
  · intro h
    cases q : owner.getD j none with
    | none => rfl
    | some i => exact absurd (List.mem_of_getElem? ((k.own j i).mp q)) h
theorem OwnOk.step {mask : Nat} {hs : List Int} {owner : Array (Option Nat)} {js : List Nat} (hm : mask = 7 ∨ mask = 31) (k : OwnOk mask hs owner js) (hl : js.length ≤ mask) {h : Int} (hh : hs[js.length]? = some h) :
    ∃ j, layClean.free mask owner (turns mask) (bits h % (mask + 1)) (bits h) = some j ∧ OwnOk mask hs (owner.setIfInBounds j (some js.length)) (js ++ [j]) := by
  obtain ⟨e, he, hej⟩ := free_place hl
  have hp := st_ok mask h
  obtain ⟨r, r1, r2, _, r4⟩ := reach_run hm hp he
  obtain ⟨j, hj⟩ := free_some (owner := owner) (turns mask) hp rfl ⟨r, by unfold turns; omega, by rw [r4]; exact (k.free he).mpr hej⟩
  refine ⟨j, hj, ?_⟩
  obtain ⟨h1, n, h2, h3⟩ := free_at (turns mask) hp rfl hj
  have hjm : j ≤ mask := by rw [← h2]; exact (hp.at n).jl.1
  have hjn : j ∉ js := (k.free hjm).mp h1
  have hjs : j < owner.size := by rw [k.sz]; omega
  refine ⟨by rw [Array.size_setIfInBounds]; exact k.sz, fun a b => ?_, fun a ha => ?_, ?_, fun i h' j' hi hj' => ?_⟩
  · by_cases q : a = j
    · subst q
      have e1 : (owner.setIfInBounds a (some js.length)).getD a none = some js.length := by simp [Array.getD, hjs]
      rw [e1]
      constructor
      · intro z
        have z := Option.some.inj z
        rw [← z]
        simp
      · intro z
        rcases Nat.lt_trichotomy b js.length with y | y | y
        · rw [List.getElem?_append_left y] at z
          exact absurd (List.mem_of_getElem? z) hjn
        · rw [y]
        · rw [List.getElem?_eq_none (by simp; omega)] at z
          cases z
    · have e1 : (owner.setIfInBounds j (some js.length)).getD a none = owner.getD a none := by
        rw [Array.getD_eq_getD_getElem?, Array.getD_eq_getD_getElem?, Array.getElem?_setIfInBounds_ne (Ne.symm q)]
      rw [e1, k.own]
      constructor
      · intro z
        rw [List.getElem?_append_left (List.getElem?_eq_some_iff.mp z).1]
        exact z
      · intro z
        rcases Nat.lt_trichotomy b js.length with y | y | y
        · rw [List.getElem?_append_left y] at z
          exact z
        · rw [y, List.getElem?_append_right (Nat.le_refl _), Nat.sub_self] at z
          exact absurd (Option.some.inj z).symm q
        · rw [List.getElem?_eq_none (by simp; omega)] at z
          cases z
  · rcases List.mem_append.mp ha with q | q
    · exact k.low a q
    · rw [List.mem_singleton.mp q]
      exact hjm
  · exact List.nodup_append.mpr ⟨k.nd, by simp, fun a ha b hb e => hjn (by rw [List.mem_singleton.mp hb] at e; rw [← e]; exact ha)⟩
  · rcases Nat.lt_trichotomy i js.length with y | y | y
    · rw [List.getElem?_append_left y] at hj'
      exact (k.rch i h' j' hi hj').mono fun x hx => List.mem_append_left _ hx
    · subst y
      rw [List.getElem?_append_right (Nat.le_refl _), Nat.sub_self] at hj'
      have hj' : j = j' := Option.some.inj hj'
      rw [hh] at hi
      cases hi
      subst hj'
      refine ⟨n, h2, fun m hm' => ?_⟩
      have h4 := h3 m hm'
      have h5 := (hp.at m).jl.1
      refine List.mem_append_left _ (Classical.byContradiction fun hc => ?_)
      unfold taken at h4
      rw [(k.free h5).mpr hc] at h4
      cases h4
    · rw [List.getElem?_eq_none (by simp; omega)] at hj'
      cases hj'
theorem own_start (mask : Nat) (hs : List Int) : OwnOk mask hs (Array.replicate (mask + 1) none) [] := by
  refine ⟨by simp, fun j k => ?_, fun j hj => (by cases hj), List.nodup_nil, fun k h j _ hj => (by simp at hj)⟩
  constructor
  · intro h
    have : (Array.replicate (mask + 1) (none : Option Nat)).getD j none = none := by
      unfold Array.getD
      split <;> simp
    rw [this] at h
    cases h
  · intro h
    simp at h
def layStep (mask : Nat) (acc : Option (Array (Option Nat) × Nat)) (h : Int) : Option (Array (Option Nat) × Nat) := do
  let (owner, k) ← acc
  let j ← layClean.free mask owner (turns mask) (bits h % (mask + 1)) (bits h)
  pure (owner.setIfInBounds j (some k), k + 1)
theorem lay_fold {mask : Nat} {hs : List Int} (hm : mask = 7 ∨ mask = 31) (hl : hs.length ≤ mask) : ∀ (l : List Int) (owner : Array (Option Nat)) (js : List Nat), hs.drop js.length = l → js.length ≤ hs.length → OwnOk mask hs owner js →
    ∃ owner' js', l.foldl (layStep mask) (some (owner, js.length)) = some (owner', hs.length) ∧ js'.length = hs.length ∧ OwnOk mask hs owner' js'
  | [], owner, js, h, hle, k => by
    have : hs.length ≤ js.length := by
      have := congrArg List.length h
      rw [List.length_drop] at this
      simp at this
      omega
    have e : js.length = hs.length := by omega
    exact ⟨owner, js, by rw [← e]; rfl, e, k⟩
  | a :: l, owner, js, h, hle, k => by
    have hlt : js.length < hs.length := by
      have := congrArg List.length h
      rw [List.length_drop] at this
      simp at this
      omega
    have ha : hs[js.length]? = some a := by
      have := List.drop_eq_getElem_cons hlt
      rw [this] at h
      injection h with h1 h2
      rw [← h1]
      exact List.getElem?_eq_getElem hlt
    have hd : hs.drop (js.length + 1) = l := by
      have := List.drop_eq_getElem_cons hlt
      rw [this] at h
      injection h
    obtain ⟨j, hj, k'⟩ := k.step hm (by omega) ha
    obtain ⟨o', js', e1, e2, e3⟩ := lay_fold hm hl l _ (js ++ [j]) (by rw [List.length_append]; exact hd) (by rw [List.length_append]; exact hlt) k'
    refine ⟨o', js', ?_, e2, e3⟩
    rw [List.foldl_cons]
    have e4 : layStep mask (some (owner, js.length)) a = some (owner.setIfInBounds j (some js.length), js.length + 1) := by
      unfold layStep
      show (layClean.free mask owner (turns mask) (bits a % (mask + 1)) (bits a) >>= _) = _
      rw [hj]
      rfl
    rw [e4]
    rw [List.length_append] at e1
    exact e1
theorem lay_ok {mask : Nat} {hashes : Array Int} (hm : mask = 7 ∨ mask = 31) (hl : hashes.size ≤ mask) : ∃ owner js, layClean mask hashes = some owner ∧ js.length = hashes.size ∧ OwnOk mask hashes.toList owner js := by
  obtain ⟨o', js', e1, e2, e3⟩ := lay_fold (hs := hashes.toList) hm (by rw [Array.length_toList]; exact hl) hashes.toList _ [] rfl (Nat.zero_le _) (own_start mask hashes.toList)
  refine ⟨o', js', ?_, by rw [e2, Array.length_toList], e3⟩
  unfold layClean
  rw [← Array.foldl_toList]
  show Option.map _ (List.foldl (layStep mask) (some (Array.replicate (mask + 1) none, 0)) hashes.toList) = _
  rw [show (0 : Nat) = ([] : List Nat).length from rfl, e1]
  rfl
end Jst

set_option Elab.async false
set_option linter.all false
set_option maxRecDepth 100000
set_option maxHeartbeats 2000000
namespace Jst
open PySem PySem.SetTable
def liveOf (mask : Nat) (owner : Array (Option Nat)) : List (Nat × Nat) := (List.range (mask + 1)).filterMap fun j => (owner.getD j none).map (j, ·)
theorem map_fst_live {g : Nat → Option Nat} : ∀ l : List Nat, (l.filterMap fun j => (g j).map (j, ·)).map Prod.fst = l.filter fun j => (g j).isSome
  | [] => rfl
  | a :: l => by
    rw [List.filterMap_cons, List.filter_cons]
    cases e : g a with
    | none => exact map_fst_live l
    | some k =>
      show a :: _ = _
      rw [map_fst_live l]
      rfl
theorem mem_live {mask : Nat} {owner : Array (Option Nat)} {j k : Nat} : (j, k) ∈ liveOf mask owner ↔ j ≤ mask ∧ owner.getD j none = some k := by
  unfold liveOf
  rw [List.mem_filterMap]
  constructor
  · rintro ⟨a, ha, e⟩
    have ha := List.mem_range.mp ha
    cases q : owner.getD a none with
    | none => rw [q] at e; cases e
    | some k' =>
      rw [q] at e
      cases e
      exact ⟨by omega, q⟩
  · rintro ⟨h1, h2⟩
    exact ⟨j, List.mem_range.mpr (by omega), by rw [h2]; rfl⟩
theorem laid_ok {finger moves : Nat} {led plain : Bool} {es : Array (Int × Value)} (hl : es.size ≤ 31) :
    ∃ t' order, SetTable.laid 31 finger moves led plain (es.map (·.1)) = some (t', order) ∧ t'.mask = 31 ∧ (order.filterMap (es[·]?)).size = es.size ∧ TabOk t' (order.filterMap (es[·]?)) ∧ (∀ e, e ∈ (order.filterMap (es[·]?)).toList ↔ e ∈ es.toList) := by
  obtain ⟨owner, js, e1, e2, k⟩ := lay_ok (mask := 31) (hashes := es.map (·.1)) (.inr rfl) (by rw [Array.size_map]; exact hl)
  rw [Array.size_map] at e2
  refine ⟨_, _, by unfold SetTable.laid; rw [e1]; rfl, rfl, ?_⟩
  show ((((liveOf 31 owner).map (·.2)).toArray.filterMap (es[·]?)).size = es.size) ∧ TabOk { mask := 31, place := ((liveOf 31 owner).map (·.1)).toArray, dummies := #[], finger := finger, led := led, moves := moves, plain := plain } (((liveOf 31 owner).map (·.2)).toArray.filterMap (es[·]?)) ∧ _
  have hmem : ∀ j k', (j, k') ∈ liveOf 31 owner ↔ js[k']? = some j := fun j k' => by
    rw [mem_live, k.own]
    exact ⟨fun h => h.2, fun h => ⟨k.low j (List.mem_of_getElem? h), h⟩⟩
  have hfst : (liveOf 31 owner).map Prod.fst = (List.range 32).filter fun j => (owner.getD j none).isSome := map_fst_live _
  have hrise : ((liveOf 31 owner).map Prod.fst).Pairwise (· < ·) := by
    rw [hfst]
    exact List.Pairwise.filter _ (List.pairwise_lt_range (n := 32))
  have hnd : ((liveOf 31 owner).map Prod.fst).Nodup := hrise.imp fun {a b} h => by omega
  have hlen : (liveOf 31 owner).length = es.size := by
    have hp : ((liveOf 31 owner).map Prod.fst).Perm js := (List.perm_ext_iff_of_nodup hnd k.nd).mpr fun j => by
      rw [List.mem_map]
      constructor
      · rintro ⟨⟨j', k'⟩, h, rfl⟩
        exact List.mem_of_getElem? ((hmem j' k').mp h)
      · intro h
        obtain ⟨k', hk'⟩ := List.getElem?_of_mem h
        exact ⟨(j, k'), (hmem j k').mpr hk', rfl⟩
    have := hp.length_eq
    rw [List.length_map] at this
    omega
  have hk : ∀ x ∈ liveOf 31 owner, ∃ e, es[x.2]? = some e := fun x hx => by
    have := (List.getElem?_eq_some_iff.mp ((hmem x.1 x.2).mp hx)).1
    exact ⟨_, Array.getElem?_eq_getElem (by omega)⟩
  have hfm : ∀ l : List (Nat × Nat), (∀ x ∈ l, ∃ e, es[x.2]? = some e) → ((l.map (·.2)).filterMap (es[·]?)).length = l.length ∧ ∀ (i : Nat) (e : Int × Value), ((l.map (·.2)).filterMap (es[·]?))[i]? = some e ↔ ∃ x, l[i]? = some x ∧ es[x.2]? = some e := fun l => by
    induction l with
    | nil =>
      intro _
      exact ⟨rfl, fun i e => by simp⟩
    | cons a r ih =>
      intro h
      obtain ⟨e0, he0⟩ := h a List.mem_cons_self
      obtain ⟨i1, i2⟩ := ih fun x hx => h x (List.mem_cons_of_mem _ hx)
      rw [List.map_cons, List.filterMap_cons, he0]
      refine ⟨by rw [List.length_cons, i1, List.length_cons], fun i e => ?_⟩
      cases i with
      | zero =>
        constructor
        · intro q
          cases q
          exact ⟨a, rfl, he0⟩
        · rintro ⟨x, q1, q2⟩
          cases q1
          rw [he0] at q2
          exact q2
      | succ i =>
        rw [List.getElem?_cons_succ, List.getElem?_cons_succ]
        exact i2 i e
  obtain ⟨f1, f2⟩ := hfm _ hk
  have earr : (((liveOf 31 owner).map (·.2)).toArray.filterMap (es[·]?)).toList = ((liveOf 31 owner).map (·.2)).filterMap (es[·]?) := by simp
  have hsz : (((liveOf 31 owner).map (·.2)).toArray.filterMap (es[·]?)).size = es.size := by
    rw [← Array.length_toList, earr, f1, hlen]
  refine ⟨hsz, ⟨⟨rfl, ?_, ?_⟩, .inr rfl, ?_, fun i e j he hj => ?_⟩, fun e => ?_⟩
  · show (((liveOf 31 owner).map Prod.fst).toArray.toList).Pairwise (· < ·)
    exact hrise
  · intro j hj
    have hj : j ∈ (liveOf 31 owner).map Prod.fst := hj
    obtain ⟨⟨j', k'⟩, h, rfl⟩ := List.mem_map.mp hj
    exact (mem_live.mp h).1
  · rw [hsz, ← hlen]
    show ((liveOf 31 owner).map (·.1)).toArray.size = _
    simp
  · rw [← Array.getElem?_toList, earr, f2] at he
    obtain ⟨⟨j', k'⟩, q1, q2⟩ := he
    have hj : ((liveOf 31 owner).map (·.1)).toArray[i]? = some j := hj
    rw [List.getElem?_toArray, List.getElem?_map, q1] at hj
    have hj : j' = j := Option.some.inj hj
    subst hj
    have hjs := (hmem j' k').mp (List.mem_of_getElem? q1)
    have hh : (es.map (·.1)).toList[k']? = some e.1 := by
      rw [Array.getElem?_toList, Array.getElem?_map, q2]
      rfl
    refine (k.rch k' e.1 j' hh hjs).mono fun x hx => ?_
    show x ∈ (liveOf 31 owner).map Prod.fst
    obtain ⟨k2, hk2⟩ := List.getElem?_of_mem hx
    exact List.mem_map.mpr ⟨(x, k2), (hmem x k2).mpr hk2, rfl⟩
  · show e ∈ (((liveOf 31 owner).map (·.2)).toArray.filterMap (es[·]?)).toList ↔ _
    rw [earr]
    constructor
    · intro h
      obtain ⟨i, hi⟩ := List.getElem?_of_mem h
      obtain ⟨x, _, q2⟩ := (f2 i e).mp hi
      rw [← Array.mem_def]
      exact Array.mem_of_getElem? q2
    · intro h
      obtain ⟨k', hk'⟩ := List.getElem?_of_mem h
      rw [Array.getElem?_toList] at hk'
      have hlt : k' < js.length := by
        have := (Array.getElem?_eq_some_iff.mp hk').1
        omega
      have hm : (js[k'], k') ∈ liveOf 31 owner := (hmem _ _).mpr (List.getElem?_eq_getElem hlt)
      obtain ⟨i, hi⟩ := List.getElem?_of_mem hm
      exact List.mem_of_getElem? ((f2 i e).mpr ⟨_, hi, hk'⟩)
end Jst

set_option Elab.async false
set_option linter.all false
set_option maxRecDepth 100000
set_option maxHeartbeats 2000000
namespace Jst
open PySem PySem.SetTable PySem.Spec PyProof.Rows
section
variable {prog : Program} {w : World} {A : Around} {E : Value → Shared → Prop} {s : Shared}
theorem hbv_int (n : Nat) (i : Int) (t : Tok) : hashByValue n (.int i t) = pure true := by
  cases n <;> (unfold hashByValue; rfl)
theorem items_int {ks : List Int} {vs : List Value} (h : ItemsAre (intKind prog w) ks vs) : ∀ v ∈ vs, ∃ i t, v = .int i t := by
  induction h with
  | nil => intro v hv; cases hv
  | @cons k v ks vs h1 h2 ih =>
    intro u hu
    rcases List.mem_cons.mp hu with q | q
    · rw [q]
      cases v with
      | int i t => exact ⟨i, t, rfl⟩
      | _ => exact Bool.noConfusion (show false = true from h1)
    · exact ih u q
theorem hbv_tuple {ks : List Int} {a : Addr} {Q : Bool → Shared → Prop} (hk : IsTupleKey (intKind prog w) s.heap ks a) (h : Q true s) : wpAny (model prog w) A (hashByValue 8 (.ref a)) Q E s := by
  have hT := hk.typeIs
  obtain ⟨o, items, n, ho, _, hd, hi⟩ := hk
  have hall := items_int hi
  unfold hashByValue
  refine wpAny_bind (wpAny_specialOf hT F.slot_tuple_hash.lookup ?_)
  show wpAny _ _ (seqItems? (.ref a) >>= _) _ _ s
  refine wpAny_bind (wpAny_seqItems ho hd ?_)
  refine wpAny_bind ?_
  show wpAny _ _ (forIn items _ _) _ _ s
  rw [← Array.forIn_toList]
  refine wpAny_forIn_list _ (fun rest r s' => r.1 = none ∧ s' = s ∧ ∀ v ∈ rest, ∃ i t, v = .int i t) _ ?_ ?_ _ _ ⟨rfl, rfl, hall⟩
  · rintro v rest r s' ⟨hr, rfl, hall⟩
    obtain ⟨i, t, rfl⟩ := hall v List.mem_cons_self
    rw [hbv_int]
    refine wpAny_bind (wpAny_pure ?_)
    simp only [Bool.not_true, Bool.false_eq_true, if_false]
    exact wpAny_pure ⟨rfl, rfl, fun u hu' => hall u (List.mem_cons_of_mem _ hu')⟩
  · rintro ⟨r1, r2⟩ s' ⟨hr, rfl, _⟩
    simp only at hr
    subst hr
    exact wpAny_pure h
theorem class_tuple {ks : List Int} {a : Addr} {Q : Bool → Shared → Prop} (hk : IsTupleKey (intKind prog w) s.heap ks a) (h : Q false s) : wpAny (model prog w) A (ofAClassStatement 8 (.ref a)) Q E s := by
  have hT := hk.typeIs
  obtain ⟨o, items, n, ho, _, hd, hi⟩ := hk
  have hall := items_int hi
  unfold ofAClassStatement
  refine wpAny_bind (wpAny_typeOf hT ?_)
  show wpAny _ _ (pure true >>= _) _ _ s
  refine wpAny_bind (wpAny_pure ?_)
  simp only [Bool.not_true, Bool.false_eq_true, if_false]
  refine wpAny_bind (wpAny_seqItems ho hd ?_)
  refine wpAny_bind ?_
  show wpAny _ _ (forIn items _ _) _ _ s
  rw [← Array.forIn_toList]
  refine wpAny_forIn_list _ (fun rest r s' => r.1 = none ∧ s' = s ∧ ∀ v ∈ rest, ∃ i t, v = .int i t) _ ?_ ?_ _ _ ⟨rfl, rfl, hall⟩
  · rintro v rest r s' ⟨hr, rfl, hall⟩
    obtain ⟨i, t, rfl⟩ := hall v List.mem_cons_self
    have e : ofAClassStatement 7 (.int i t) = pure false := by unfold ofAClassStatement; rfl
    rw [e]
    refine wpAny_bind (wpAny_pure ?_)
    simp only [Bool.false_eq_true, if_false]
    exact wpAny_pure ⟨rfl, rfl, fun u hu' => hall u (List.mem_cons_of_mem _ hu')⟩
  · rintro ⟨r1, r2⟩ s' ⟨hr, rfl, _⟩
    simp only at hr
    subst hr
    exact wpAny_pure h
theorem unseen {kx : List Int} {c : Addr} {Q : Bool → Shared → Prop} (hx : IsTupleKey (intKind prog w) s.heap kx c) {l : List Value} (hl : ∀ v ∈ l, ∃ ks b, v = .ref b ∧ IsTupleKey (intKind prog w) s.heap ks b) (h : Q false s) :
    wpAny (model prog w) A (searchCouldBeSeen (.ref c) l) Q E s := by
  unfold searchCouldBeSeen
  refine wpAny_bind ?_
  refine wpAny_forIn_list _ (fun rest r s' => r.1 = none ∧ s' = s ∧ ∀ v ∈ rest, ∃ ks b, v = .ref b ∧ IsTupleKey (intKind prog w) s.heap ks b) _ ?_ ?_ _ _ ⟨rfl, rfl, hl⟩
  · rintro v rest r s' ⟨hr, rfl, hall⟩
    obtain ⟨ks, b, rfl, hb⟩ := hall v List.mem_cons_self
    have hn : ∀ v ∈ rest, ∃ ks b, v = .ref b ∧ IsTupleKey (intKind prog w) s'.heap ks b := fun u hu' => hall u (List.mem_cons_of_mem _ hu')
    show wpAny _ _ (if ((c == b) || (carriedByValue (Value.ref c) && carriedByValue (Value.ref b))) = true then _ else _) _ _ _
    refine wpAny_ite_split (fun _ => wpAny_pure ⟨rfl, rfl, hn⟩) (fun _ => ?_)
    refine wpAny_bind (wpAny_eqIsQuiet_tuple hx ?_)
    simp only [Bool.not_true, Bool.false_eq_true, if_false]
    refine wpAny_bind (wpAny_eqIsQuiet_tuple hb ?_)
    simp only [Bool.not_true, Bool.false_eq_true, if_false]
    refine wpAny_bind (class_tuple hx ?_)
    simp only [Bool.false_eq_true, if_false]
    refine wpAny_bind (class_tuple hb ?_)
    simp only [Bool.false_eq_true, if_false]
    exact wpAny_pure ⟨rfl, rfl, hn⟩
  · rintro ⟨r1, r2⟩ s' ⟨hr, rfl, _⟩
    simp only at hr
    subst hr
    exact wpAny_pure h
abbrev hashT (prog : Program) (w : World) (ks : List Int) : Int := tupleKeyHash (intKind prog w) ks
/-- an entry of a set of tuples -/
def Ent (prog : Program) (w : World) (h : Heap) (e : Int × Value) (ks : List Int) : Prop := ∃ b, e.2 = .ref b ∧ IsTupleKey (intKind prog w) h ks b ∧ e.1 = hashT prog w ks
theorem Ent.inj {h : Heap} {e : Int × Value} {k l : List Int} (a : Ent prog w h e k) (b : Ent prog w h e l) : k = l := by
  obtain ⟨x, e1, h1, _⟩ := a
  obtain ⟨y, e2, h2, _⟩ := b
  rw [e1] at e2
  cases e2
  exact h1.inj h2
theorem rise_inj {xs : Array Nat} (hr : Rise xs) {i k j : Nat} (h1 : xs[i]? = some j) (h2 : xs[k]? = some j) : i = k := by
  rw [← below_at hr h1, below_at hr h2]
theorem search {a c : Addr} {o : Obj} {es : Array (Int × Value)} {ep : Nat} {t : SetTable} {kx : List Int} {Q : SetFound → Shared → Prop} (hu : A.units < cLine)
    (ho : s.heap.get? a = some o) (hd : o.data = .set es ep t) (hf : t.fits es.size = true) (hk : TabOk t es) (hel : ∀ e ∈ es.toList, ∃ ks, Ent prog w s.heap e ks)
    (hx : IsTupleKey (intKind prog w) s.heap kx c) {n0 : Nat} (h0 : (at_ t.mask (st t.mask (hashT prog w kx)) n0).j ∉ t.place.toList) (h1 : ∀ k, k < n0 → (at_ t.mask (st t.mask (hashT prog w kx)) k).j ∈ t.place.toList)
    (hthere : (∃ e ∈ es.toList, Ent prog w s.heap e kx) → Q (.there none) s) (hfree : (∀ e ∈ es.toList, ¬ Ent prog w s.heap e kx) → Q (.free (at_ t.mask (st t.mask (hashT prog w kx)) n0).j false) s) :
    ∀ (fuel n : Nat) (stand : Option Probe), stand.getD (t.probeStart (hashT prog w kx)) = at_ t.mask (st t.mask (hashT prog w kx)) n → n ≤ n0 → n0 - n < fuel →
      (∀ k, k < n → ∀ (i : Nat) e, t.place[i]? = some (at_ t.mask (st t.mask (hashT prog w kx)) k).j → es[i]? = some e → ¬ Ent prog w s.heap e kx) →
      wpAny (model prog w) A (setSearchFrom a (.ref c) (hashT prog w kx) true fuel stand) Q E s
  | 0, n, stand, _, _, hfu, _ => absurd hfu (by omega)
  | fuel + 1, n, stand, hst, hn, hfu, hno => by
    generalize hP : at_ t.mask (st t.mask (hashT prog w kx)) = P at *
    have hp0 := st_ok t.mask (hashT prog w kx)
    have hPn : POk t.mask (P n) := by rw [← hP]; exact hp0.at n
    have hadd : ∀ k, at_ t.mask (P n) k = P (n + k) := fun k => by rw [← hP, ← at_add]
    have hjm : (P n0).j ≤ t.mask := by rw [← hP]; exact (hp0.at n0).jl.1
    obtain ⟨N, hN, eN⟩ := reach hk.msk hPn hjm
    obtain ⟨m, hm1, hm2⟩ := probe_go hk.cln (fun i => (es[i]?.map (·.1)).getD 0) (hashT prog w kx) hPn (10 * turns t.mask) ⟨N, hN, by rw [eN]; exact h0⟩
    have hodd : t.gaveWay = false := by
      unfold SetTable.gaveWay
      rcases hk.msk with q | q <;> (rw [q]; rfl)
    have hskip : ∀ k, n ≤ k → k < n + m → ∀ (i : Nat) e, t.place[i]? = some (P k).j → es[i]? = some e → ¬ Ent prog w s.heap e kx := fun k hk1 hk2 i e hi he hE => by
      obtain ⟨i', q1, q2⟩ := hm1 (k - n) (by omega)
      rw [hadd, show n + (k - n) = k by omega] at q1
      have := rise_inj hk.cln.srt hi q1
      subst this
      rw [he] at q2
      obtain ⟨b, _, _, e3⟩ := hE
      exact q2 e3
    have hlt : n + m ≤ n0 := by
      rcases Nat.lt_or_ge n0 (n + m) with q | q
      · obtain ⟨i', q1, _⟩ := hm1 (n0 - n) (by omega)
        rw [hadd, show n + (n0 - n) = n0 by omega] at q1
        exact absurd (by rw [← Array.mem_def]; exact Array.mem_of_getElem? q1) h0
      · exact q
    unfold setSearchFrom
    refine wpAny_bind (wpAny_setState_of ho hd hf ?_)
    dsimp only
    rw [hodd]
    simp only [Bool.false_eq_true, if_false]
    rw [hst]
    have hprobe : ∀ F : Nat → Int, (∀ i, F i = (es[i]?.map (·.1)).getD 0) → t.probe F (hashT prog w kx) (P n) = SetTable.probe.go t (fun i => (es[i]?.map (·.1)).getD 0) (hashT prog w kx) (10 * turns t.mask) (P n) := fun F hF => by
      rw [← show F = (fun i => (es[i]?.map (·.1)).getD 0) from funext hF]
      rfl
    rw [hprobe]
    case a => exact fun i => rfl
    rcases hm2 with ⟨e1, e2⟩ | ⟨i, e1, e2, e3⟩
    · rw [e1, hadd]
      rw [hadd] at e2
      have hen : n + m = n0 := by
        rcases Nat.lt_or_ge (n + m) n0 with q | q
        · exact absurd (h1 _ q) e2
        · omega
      rw [hen]
      dsimp only
      refine wpAny_pure (hfree fun e he hE => ?_)
      obtain ⟨i, hi⟩ := List.getElem?_of_mem he
      rw [Array.getElem?_toList] at hi
      have hil : i < t.place.size := by rw [hk.sz]; exact (Array.getElem?_eq_some_iff.mp hi).1
      have hpi : t.place[i]? = some t.place[i] := Array.getElem?_eq_getElem hil
      generalize t.place[i] = j at hpi
      obtain ⟨n1, r1, r2⟩ := hk.rch i e j hi hpi
      have eh : e.1 = hashT prog w kx := by
        obtain ⟨b, _, _, e3⟩ := hE
        exact e3
      rw [eh, hP] at r1
      have r2 : ∀ m, m < n1 → (P m).j ∈ t.place.toList := fun m hm => by
        have := r2 m hm
        rw [eh, hP] at this
        exact this
      have hjin : j ∈ t.place.toList := by rw [← Array.mem_def]; exact Array.mem_of_getElem? hpi
      have hn1 : n1 < n0 := by
        rcases Nat.lt_trichotomy n1 n0 with q | q | q
        · exact q
        · rw [q] at r1
          rw [← r1] at hjin
          exact absurd hjin h0
        · exact absurd (r2 n0 q) h0
      rw [← r1] at hpi
      by_cases q : n1 < n
      · exact hno n1 q i e hpi hi hE
      · exact hskip n1 (by omega) (by omega) i e hpi hi hE
    · rw [hadd] at e2
      rw [e1, hadd, hadd]
      have hne : n + m ≠ n0 := fun q => by
        rw [q] at e2
        exact h0 (by rw [← Array.mem_def]; exact Array.mem_of_getElem? e2)
      have hil : i < es.size := by rw [← hk.sz]; exact (Array.getElem?_eq_some_iff.mp e2).1
      have hei : es[i]? = some es[i] := Array.getElem?_eq_getElem hil
      generalize es[i] = e at hei
      have hem : e ∈ es.toList := by rw [← Array.mem_def]; exact Array.mem_of_getElem? hei
      obtain ⟨ke, b, eb, hb, hbh⟩ := hel e hem
      obtain ⟨eh, ev⟩ := e
      dsimp only at eb hbh
      subst eb
      dsimp only
      have again : ¬ ke = kx → wpAny (model prog w) A (setSearchFrom a (.ref c) (hashT prog w kx) true fuel (some (P (n + (m + 1))))) Q E s := fun q => by
        refine search hu ho hd hf hk hel hx (n0 := n0) (by rw [hP]; exact h0) (by rw [hP]; exact h1) hthere (by rw [hP]; exact hfree) fuel (n + (m + 1)) _ (by rw [hP]; rfl) (by omega) (by omega) fun k hk' i' e' hi' he' hE => ?_
        rw [hP] at hi'
        by_cases z : k < n
        · exact hno k z i' e' hi' he' hE
        · by_cases z2 : k < n + m
          · exact hskip k (by omega) z2 i' e' hi' he' hE
          · have ek : k = n + m := by omega
            subst ek
            have := rise_inj hk.cln.srt hi' e2
            subst this
            rw [hei] at he'
            cases he'
            exact q (Ent.inj ⟨b, rfl, hb, hbh⟩ hE)
      have hsm : t.sameMemory t.moves t.mask = some true := by
        unfold SetTable.sameMemory
        rw [if_pos (by simp)]
      have hslot : t.slot (P (n + m)).j = .live i := slot_live hk.cln e2
      rw [hei]
      dsimp only
      cases hled : t.led with
      | true =>
        simp only [Bool.not_true, Bool.false_eq_true, if_false]
        refine wpAny_bind (wpAny_holding (wpAny_eqBool_tuple hu hb hx ?_))
        refine wpAny_bind (wpAny_setState_of ho hd hf ?_)
        by_cases q : ke = kx
        · rw [decide_eq_true q]
          simp only [Bool.and_self, if_true]
          exact wpAny_pure (hthere ⟨_, hem, b, rfl, q ▸ hb, q ▸ hbh⟩)
        · rw [decide_eq_false q]
          simp only [Bool.and_false, Bool.false_eq_true, if_false, hsm, if_true, hslot, hei]
          refine wpAny_bind (wpAny_isSame_ref_self ?_)
          refine wpAny_bind (wpAny_pure ?_)
          simp only [if_true]
          exact again q
      | false =>
        simp only [Bool.not_false, if_true]
        refine wpAny_bind (unseen hx (fun v hv => ?_) ?_)
        · obtain ⟨e', he', rfl⟩ := List.mem_map.mp hv
          rw [Array.toList_filter] at he'
          obtain ⟨ks, b', q1, q2, _⟩ := hel e' (List.mem_filter.mp he').1
          exact ⟨ks, b', q1, q2⟩
        simp only [Bool.false_eq_true, if_false]
        refine wpAny_bind (wpAny_holding (wpAny_eqBool_tuple hu hb hx ?_))
        refine wpAny_bind (wpAny_setState_of ho hd hf ?_)
        by_cases q : ke = kx
        · rw [decide_eq_true q]
          simp only [Bool.and_self, if_true]
          exact wpAny_pure (hthere ⟨_, hem, b, rfl, q ▸ hb, q ▸ hbh⟩)
        · rw [decide_eq_false q]
          simp only [Bool.and_false, Bool.false_eq_true, if_false, hsm, if_true, hslot, hei]
          refine wpAny_bind (wpAny_isSame_ref_self ?_)
          refine wpAny_bind (wpAny_pure ?_)
          simp only [if_true]
          exact again q
end
end Jst

set_option Elab.async false
set_option linter.all false
set_option maxRecDepth 100000
set_option maxHeartbeats 2000000
namespace Jst
open PySem PySem.SetTable PySem.Spec PyProof.Rows
theorem least {p : Nat → Prop} : ∀ N, p N → ∃ n, n ≤ N ∧ p n ∧ ∀ k, k < n → ¬ p k
  | 0, h => ⟨0, Nat.le_refl _, h, fun k hk => absurd hk (by omega)⟩
  | N + 1, h => by
    by_cases q : ∃ m, m ≤ N ∧ p m
    · obtain ⟨m, hm, pm⟩ := q
      have : ∀ (b m : Nat), m ≤ b → p m → ∃ n, n ≤ m ∧ p n ∧ ∀ k, k < n → ¬ p k := fun b => by
        induction b with
        | zero =>
          intro m hm pm
          exact ⟨m, Nat.le_refl _, pm, fun k hk => absurd hk (by omega)⟩
        | succ b ih =>
          intro m hm pm
          by_cases z : ∃ k, k < m ∧ p k
          · obtain ⟨k, hk, pk⟩ := z
            obtain ⟨n, h1, h2, h3⟩ := ih k (by omega) pk
            exact ⟨n, by omega, h2, h3⟩
          · exact ⟨m, Nat.le_refl _, pm, fun k hk pk => z ⟨k, hk, pk⟩⟩
      obtain ⟨n, h1, h2, h3⟩ := this m m (Nat.le_refl _) pm
      exact ⟨n, by omega, h2, h3⟩
    · exact ⟨N + 1, Nat.le_refl _, h, fun k hk pk => q ⟨k, by omega, pk⟩⟩
section
variable {prog : Program} {w : World} {A : Around} {E : Value → Shared → Prop} {s : Shared}
/-- a set of tuples of ints -/
def SetT (prog : Program) (w : World) (h : Heap) (a : Addr) (Ks : List (List Int)) : Prop := ∃ o es ep t, h.get? a = some o ∧ o.ExactSet ∧ o.data = .set es ep t ∧ TabOk t es ∧ (t.mask = 7 → es.size ≤ 4) ∧ es.size = Ks.length ∧ Ks.Nodup ∧
  (∀ e ∈ es.toList, ∃ ks ∈ Ks, Ent prog w h e ks) ∧ (∀ ks ∈ Ks, ∃ e ∈ es.toList, Ent prog w h e ks)
theorem Ent.keep {h h' : Heap} {a : Addr} {o : Obj} {e : Int × Value} {ks : List Int} (hE : Ent prog w h e ks) (ho : h.get? a = some o) (hex : o.ExactSet) (hs : Heap.SameBut a h h') : Ent prog w h' e ks := by
  obtain ⟨b, e1, ⟨ob, items, n, h1, h2, h3, h4⟩, e3⟩ := hE
  have hne : b ≠ a := fun q => by
    rw [q, ho] at h1
    cases h1
    rw [hex.1] at h2
    exact absurd h2 (by decide)
  exact ⟨b, e1, ⟨ob, items, n, (hs.2 b hne).trans h1, h2, h3, h4⟩, e3⟩
theorem upd_set {h : Heap} {a : Addr} {o : Obj} {es : Array (Int × Value)} {ep : Nat} {t : SetTable} (ho : h.get? a = some o) (hd : o.data = .set es ep t) (es' : Array (Int × Value)) (t' : SetTable) :
    (h.update a (Obj.putSet es' t')).get? a = some { o with data := .set es' (ep + 1) t' } := by
  have := Heap.get?_update_self (Obj.putSet es' t') ho (by rw [putSet_of es' t' hd]; rfl)
  rw [putSet_of es' t' hd] at this
  exact this
theorem add_ok {a c : Addr} {Ks : List (List Int)} {kx : List Int} {Q : Bool → Shared → Prop} (hu : A.units < cLine) (hS : SetT prog w s.heap a Ks) (hx : IsTupleKey (intKind prog w) s.heap kx c) (hl : Ks.length ≤ 15)
    (h : ∀ r h', Heap.SameBut a s.heap h' → SetT prog w h' a (if kx ∈ Ks then Ks else kx :: Ks) → Q r { s with heap := h' }) : wpAny (model prog w) A (setAddHashed a (.ref c) (hashT prog w kx)) Q E s := by
  obtain ⟨o, es, ep, t, ho, hex, hd, hk, hcap, hsz, hnd, hel, hall⟩ := hS
  have hmask : es.size ≤ t.mask := by
    rcases hk.msk with q | q
    · have := hcap q
      omega
    · omega
  have hf := fits_of hk hmask
  have hp0 := st_ok t.mask (hashT prog w kx)
  obtain ⟨e0, he0, hne0⟩ := free_place (mask := t.mask) (l := t.place.toList) (by rw [Array.length_toList, hk.sz]; exact hmask)
  obtain ⟨N, hN, eN⟩ := reach hk.msk hp0 he0
  obtain ⟨n0, hn0, h0, h1⟩ := least (p := fun n => (at_ t.mask (st t.mask (hashT prog w kx)) n).j ∉ t.place.toList) N (by rw [eN]; exact hne0)
  have h1 : ∀ k, k < n0 → (at_ t.mask (st t.mask (hashT prog w kx)) k).j ∈ t.place.toList := fun k hk' => Classical.byContradiction fun q => h1 k hk' q
  have hturn : n0 < 100000 := by
    have : turns t.mask ≤ 46 := by
      unfold turns
      rcases hk.msk with q | q <;> omega
    omega
  unfold setAddHashed setAddHashedIn
  refine wpAny_holding (wpAny_bind (wpAny_setState_of ho hd hf ?_))
  dsimp only
  have hscan : byScan (.ref c) es = false := rfl
  rw [hscan]
  simp only [Bool.false_eq_true, if_false]
  unfold setSearch
  refine wpAny_bind (search hu ho hd hf hk (fun e he => let ⟨ks, _, q⟩ := hel e he; ⟨ks, q⟩) hx h0 h1 (fun hth => ?_) (fun hno => ?_) 100000 0 none rfl (Nat.zero_le _) (by omega) fun k hk' => absurd hk' (by omega))
  · -- it is there
    obtain ⟨e, he, hE⟩ := hth
    obtain ⟨ks, hks, hE2⟩ := hel e he
    have := hE.inj hE2
    subst this
    have e : s = { s with heap := s.heap } := by cases s; rfl
    dsimp only
    refine wpAny_pure ?_
    rw [e]
    refine h _ s.heap (Heap.SameBut.refl a s.heap) ?_
    rw [if_pos hks]
    exact ⟨o, es, ep, t, ho, hex, hd, hk, hcap, hsz, hnd, hel, hall⟩
  · have hkx : kx ∉ Ks := fun q => by
      obtain ⟨e, he, hE⟩ := hall kx q
      exact hno e he hE
    generalize hj : (at_ t.mask (st t.mask (hashT prog w kx)) n0).j = j at *
    have hjm : j ≤ t.mask := by rw [← hj]; exact (hp0.at n0).jl.1
    obtain ⟨hk2, ee⟩ := put_ok hk (x := .ref c) h0 hjm ⟨n0, hj, h1⟩
    have em : (t.put j).1.mask = t.mask := rfl
    have esz : (insertAt es (t.put j).2 (hashT prog w kx, Value.ref c)).size = es.size + 1 := by
      rw [← Array.length_toList, ee, List.length_append, List.length_cons, List.length_take, List.length_drop, Array.length_toList]
      omega
    have hmem : ∀ e, e ∈ (insertAt es (t.put j).2 (hashT prog w kx, Value.ref c)).toList ↔ e = (hashT prog w kx, Value.ref c) ∨ e ∈ es.toList := fun e => by
      rw [ee, List.mem_append, List.mem_cons]
      conv => rhs; rhs; rw [← List.take_append_drop (t.put j).2 es.toList, List.mem_append]
      constructor
      · rintro (q | q | q)
        · exact .inr (.inl q)
        · exact .inl q
        · exact .inr (.inr q)
      · rintro (q | q | q)
        · exact .inr (.inl q)
        · exact .inl q
        · exact .inr (.inr q)
    dsimp only
    refine wpAny_bind (wpAny_setState_of ho hd hf ?_)
    dsimp only
    have ednew : Ent prog w s.heap (hashT prog w kx, Value.ref c) kx := ⟨c, rfl, hx, rfl⟩
    generalize hes' : insertAt es (t.put j).2 (hashT prog w kx, Value.ref c) = es' at hk2 esz hmem ⊢
    generalize ht1 : (t.put j).1 = t1 at hk2 em ⊢
    have hfull : t1.tooFull = true ↔ t.mask * 3 ≤ (es.size + 1) * 5 := by
      unfold SetTable.tooFull SetTable.fill
      rw [hk2.cln.dum, hk2.sz, esz, em]
      simp
    have fin : wpAny (model prog w) A (do
        storeSet a es' t1
        if (!false && t1.tooFull) = true then do
          setRelay a (grown (es.size + 1))
          pure true
        else pure true) Q E s := by
      refine wpAny_bind (wpAny_storeSet_of ho hd ?_ (by rw [esz, sizeLine_eq]; omega))
      have ho2 := upd_set ho hd es' t1
      have hsb := Heap.SameBut.update s.heap a (Obj.putSet es' t1)
      have hel2 : ∀ e ∈ es'.toList, ∃ ks ∈ kx :: Ks, Ent prog w (s.heap.update a (Obj.putSet es' t1)) e ks := fun e he => by
        rcases (hmem e).mp he with q | q
        · rw [q]
          exact ⟨kx, List.mem_cons_self, ednew.keep ho hex hsb⟩
        · obtain ⟨ks, h2, h3⟩ := hel e q
          exact ⟨ks, List.mem_cons_of_mem _ h2, h3.keep ho hex hsb⟩
      have hall2 : ∀ ks ∈ kx :: Ks, ∃ e ∈ es'.toList, Ent prog w (s.heap.update a (Obj.putSet es' t1)) e ks := fun ks hks => by
        rcases List.mem_cons.mp hks with q | q
        · rw [q]
          exact ⟨_, (hmem _).mpr (.inl rfl), ednew.keep ho hex hsb⟩
        · obtain ⟨e, h2, h3⟩ := hall ks q
          exact ⟨e, (hmem e).mpr (.inr h2), h3.keep ho hex hsb⟩
      have hnd2 : (kx :: Ks).Nodup := List.nodup_cons.mpr ⟨hkx, hnd⟩
      generalize s.heap.update a (Obj.putSet es' t1) = h2 at ho2 hsb hel2 hall2 ⊢
      have hex2 : ({ o with data := .set es' (ep + 1) t1 } : Obj).ExactSet := hex
      generalize ho2e : ({ o with data := .set es' (ep + 1) t1 } : Obj) = o2 at ho2 hex2
      have hd2 : o2.data = .set es' (ep + 1) t1 := by rw [← ho2e]
      by_cases q : t1.tooFull = true
      · rw [q]
        simp only [Bool.not_false, Bool.and_self, if_true]
        have hq := hfull.mp q
        have h7 : t.mask = 7 ∧ es.size = 4 := by
          rcases hk.msk with z | z
          · have := hcap z
            rw [z] at hq
            exact ⟨z, by omega⟩
          · rw [z] at hq
            omega
        have es5 : es'.size = 5 := by rw [esz, h7.2]
        have hf2 := fits_of hk2 (by rw [em, h7.1, es5]; decide)
        rw [h7.2]
        obtain ⟨t', order, e1, e2, e3, e4, e5⟩ := laid_ok (finger := t1.finger) (moves := t1.movedTo 31) (led := t1.led) (plain := t1.plain) (es := es') (by omega)
        have hrel : t1.relaid (es'.map (·.1)) (grown (4 + 1)) = some (t', order) := e1
        unfold setRelay
        refine wpAny_bind (wpAny_bind (wpAny_setState_of ho2 hd2 hf2 ?_))
        dsimp only
        rw [if_neg (by decide)]
        rw [hrel]
        refine wpAny_bind ?_
        show wpAny _ _ (if ((order.filterMap (es'[·]?)).size != es'.size) = true then _ else _) _ _ _
        rw [if_neg (by rw [e3]; simp)]
        refine wpAny_pure (wpAny_storeSet_of ho2 hd2 ?_ (by rw [e3, es5, sizeLine_eq]; decide))
        have ho3 := upd_set ho2 hd2 (order.filterMap (es'[·]?)) t'
        have hsb2 := Heap.SameBut.update h2 a (Obj.putSet (order.filterMap (es'[·]?)) t')
        refine wpAny_pure (h _ _ (hsb.trans hsb2) ?_)
        rw [if_neg hkx]
        refine ⟨_, _, _, t', ho3, hex2, rfl, e4, fun z => ?_, by rw [e3, esz, hsz]; rfl, hnd2, fun e he => ?_, fun ks hks => ?_⟩
        · rw [e2] at z
          exact absurd z (by decide)
        · obtain ⟨ks, q1, q2⟩ := hel2 e ((e5 e).mp he)
          exact ⟨ks, q1, q2.keep ho2 hex2 hsb2⟩
        · obtain ⟨e, q1, q2⟩ := hall2 ks hks
          exact ⟨e, (e5 e).mpr q1, q2.keep ho2 hex2 hsb2⟩
      · rw [(Bool.not_eq_true _).mp q]
        simp only [Bool.and_false, Bool.false_eq_true, if_false]
        refine wpAny_pure (h _ h2 hsb ?_)
        rw [if_neg hkx]
        refine ⟨o2, es', ep + 1, t1, ho2, hex2, hd2, hk2, fun z => ?_, by rw [esz, hsz]; rfl, hnd2, hel2, hall2⟩
        rw [em] at z
        rw [esz]
        have : ¬ t.mask * 3 ≤ (es.size + 1) * 5 := fun y => q (hfull.mpr y)
        rw [z] at this
        omega
    refine wpAny_ite_split (fun _ => wpAny_bind (hbv_tuple hx ?_)) (fun _ => wpAny_bind (wpAny_pure ?_))
    · simp only [if_true]
      exact fin
    · simp only [if_true]
      exact fin
end
end Jst

set_option Elab.async false
set_option linter.all false
set_option maxRecDepth 100000
set_option maxHeartbeats 3200000
namespace Jst
open PySem PySem.SetTable PySem.Spec PyProof.Rows
def addK (Ks : List (List Int)) (k : List Int) : List (List Int) := if k ∈ Ks then Ks else k :: Ks
def metK (kf : Nat → List Int) : Nat → List (List Int)
  | 0 => []
  | i + 1 => addK (metK kf i) (kf i)
theorem metK_len (kf : Nat → List Int) : ∀ i, (metK kf i).length ≤ i
  | 0 => Nat.le_refl _
  | i + 1 => by
    have := metK_len kf i
    unfold metK addK
    split
    · omega
    · rw [List.length_cons]
      omega
theorem metK_mem (kf : Nat → List Int) (x : List Int) : ∀ i, x ∈ metK kf i ↔ ∃ j, j < i ∧ kf j = x
  | 0 => by
    unfold metK
    constructor
    · intro h; cases h
    · rintro ⟨j, h, _⟩; omega
  | i + 1 => by
    have ih := metK_mem kf x i
    have e : x ∈ metK kf (i + 1) ↔ x = kf i ∨ x ∈ metK kf i := by
      show x ∈ addK (metK kf i) (kf i) ↔ _
      unfold addK
      split
      · rename_i q
        constructor
        · exact .inr
        · rintro (rfl | z)
          · exact q
          · exact z
      · rw [List.mem_cons]
    rw [e, ih]
    constructor
    · rintro (z | ⟨j, h1, h2⟩)
      · exact ⟨i, by omega, z.symm⟩
      · exact ⟨j, by omega, h2⟩
    · rintro ⟨j, h1, h2⟩
      by_cases q : j = i
      · exact .inl (by rw [← h2, q])
      · exact .inr ⟨j, by omega, h2⟩
section
variable {prog : Program} {w : World} {A : Around} {R : Result → Shared → Prop} {I : Addr} {fp wr : List Addr} {G : Array GenState → Array GenState → Prop} {n : Nat} {P : Nat → Value → Prop} {St : Nat → Shared → Prop}
theorem SetT.keep {h h' : Heap} {a : Addr} {Ks : List (List Int)} (k : SetT prog w h a Ks) (ha : ∀ o, h.get? a = some o → h'.get? a = some o) (ht : ∀ b ks, IsTupleKey (intKind prog w) h ks b → IsTupleKey (intKind prog w) h' ks b) : SetT prog w h' a Ks := by
  obtain ⟨o, es, ep, t, h1, h2, h3, h4, h5, h6, h7, h8, h9⟩ := k
  have up : ∀ e ks, Ent prog w h e ks → Ent prog w h' e ks := fun e ks ⟨b, q1, q2, q3⟩ => ⟨b, q1, ht b ks q2, q3⟩
  exact ⟨o, es, ep, t, ha o h1, h2, h3, h4, h5, h6, h7, fun e he => let ⟨ks, q1, q2⟩ := h8 e he; ⟨ks, q1, up e ks q2⟩, fun ks hks => let ⟨e, q1, q2⟩ := h9 ks hks; ⟨e, q1, up e ks q2⟩⟩
theorem tup_keep {h h' : Heap} {b : Addr} {ks : List Int} (k : IsTupleKey (intKind prog w) h ks b) (hb : ∀ o, h.get? b = some o → h'.get? b = some o) : IsTupleKey (intKind prog w) h' ks b := by
  obtain ⟨o, items, m, h1, h2, h3, h4⟩ := k
  exact ⟨o, items, m, hb o h1, h2, h3, h4⟩
theorem loop (W : WalksS prog w A.in1 I fp wr G n P St) (S : Addr) (hSf : S ∉ fp) (kf : Nat → List Int) (hu : A.in1.units < cLine) (hn : n ≤ 16) (hwr : ∀ s i b ks, St i s → b ∈ wr → ¬ IsTupleKey (intKind prog w) s.heap ks b) :
    ∀ (k i : Nat) (s : Shared), n - i = k → i ≤ n → St i s → SetT prog w s.heap S (metK kf i) → (∀ i v, i < n → P i v → ∃ b, v = .ref b ∧ IsTupleKey (intKind prog w) s.heap (kf i) b) →
      (∀ s', Moved (S :: wr) G s s' → SetT prog w s'.heap S (metK kf n) → R (.ok (.ret .none)) s') →
      codeAny (model prog w) A (.builtin "set.update.loop" ⟨[.ref S, .ref I], []⟩) R s := by
  have hSw : S ∉ wr := fun h => hSf (W.sub _ h)
  have hsub : ∀ b ∈ wr, b ∈ S :: wr := fun b hb => List.mem_cons_of_mem _ hb
  intro k
  induction k with
  | zero =>
    intro i s hk hi hst hS hP hR
    have hin : i = n := by omega
    subst hin
    refine codeAny_builtin F.entry_set_update_loop ?_
    rw [Around.under_plainId F.plain_set_update_loop _]
    show wpAny _ A.in1 (pyNext (.ref I) >>= _) _ _ s
    refine wpAny_bind (W.done s _ _ hst fun s' hm => ?_)
    show wpAny _ A.in1 (ret Value.none) _ _ s'
    exact wpAny_pure (hR s' (hm.mono hsub) (hS.keep (fun o e => hm.heap S _ hSw e) fun b ks q => tup_keep q fun o e => hm.heap b o (fun hb => hwr s _ b ks hst hb q) e))
  | succ k ih =>
    intro i s hk hi hst hS hP hR
    have hlt : i < n := by omega
    refine codeAny_builtin F.entry_set_update_loop ?_
    rw [Around.under_plainId F.plain_set_update_loop _]
    show wpAny _ A.in1 (pyNext (.ref I) >>= _) _ _ s
    refine wpAny_bind (W.item i s _ _ hlt hst fun v s' hPv hst' hm => ?_)
    have upT : ∀ b ks, IsTupleKey (intKind prog w) s.heap ks b → IsTupleKey (intKind prog w) s'.heap ks b := fun b ks q => tup_keep q fun o e => hm.heap b o (fun hb => hwr s _ b ks hst hb q) e
    obtain ⟨b, rfl, hb⟩ := hP i v hlt hPv
    have hb := upT b _ hb
    have hS' : SetT prog w s'.heap S (metK kf i) := hS.keep (fun o e => hm.heap S _ hSw e) upT
    show wpAny _ A.in1 (holding [Value.ref b] (setAdd S (.ref b)) >>= _) _ _ s'
    refine wpAny_bind (wpAny_holding ?_)
    unfold setAdd
    refine wpAny_holding ?_
    refine wpAny_bind (wpAny_pyHash_tuple hu hb ?_)
    have hl := metK_len kf i
    refine add_ok (s := { s' with toks := s'.toks + ((kf i).length + 1) }) hu hS' hb (by omega) fun r h' hsb hS2 => ?_
    have hSget : ∃ o, s'.heap.get? S = some o ∧ o.ExactSet := by
      obtain ⟨o, es, ep, t, h1, h2, _⟩ := hS'
      exact ⟨o, h1, h2⟩
    have upT2 : ∀ b ks, IsTupleKey (intKind prog w) s'.heap ks b → IsTupleKey (intKind prog w) h' ks b := fun b ks q => by
      refine tup_keep q fun o e => ?_
      have hne : b ≠ S := fun z => by
        obtain ⟨o2, h1, h2⟩ := hSget
        obtain ⟨o3, items, m, h3, h4, _⟩ := q
        rw [z, h1] at h3
        cases h3
        rw [h2.1] at h4
        exact absurd h4 (by decide)
      exact (hsb.2 b hne).trans e
    refine wpAny_pure ⟨plainId_quiet F.plain_set_update_loop _, ih (i + 1) _ (by omega) hlt (W.frame _ s' _ _ hst' (Nat.le_add_right _ _) fun b hb o e => ?_) hS2 (fun i v hi hv => ?_) fun s'' hm'' hS'' => ?_⟩
    · rw [hsb.2 b (fun h : b = S => hSf (by rw [← h]; exact hb))]; exact e
    · obtain ⟨b', q1, q2⟩ := hP i v hi hv
      exact ⟨b', q1, upT2 _ _ (upT _ _ q2)⟩
    · refine hR s'' (Moved.trans W.gtrans ((hm.mono hsub).then_heap (Nat.le_add_right _ _) fun b o hb e => ?_) hm'') hS''
      rw [hsb.2 b (fun h : b = S => hb (by rw [h]; exact List.mem_cons_self))]; exact e
end
section
variable {prog : Program} {w : World} {A : Around} {E : Value → Shared → Prop} {s : Shared}
/-- set(a list of tuples) -/
theorem call_set_tuples {l : Addr} {items : Array Value} {kf : Nat → List Int} {Q : Value → Shared → Prop} (hu : A.units + 8 < cLine)
    (hh : A.handled = none) (hl : s.heap.IsList l items) (hi : ∀ (i : Nat) v, items[i]? = some v → ∃ b, v = .ref b ∧ IsTupleKey (intKind prog w) s.heap (kf i) b) (hb : items.size ≤ 16)
    (h : ∀ (h' : Heap) (tk : Nat), SetT prog w h' s.heap.objs.size (metK kf items.size) → (∀ b o, b < s.heap.objs.size → s.heap.get? b = some o → h'.get? b = some o) → Q (.ref s.heap.objs.size) { s with heap := h', toks := tk }) :
    wpAny (model prog w) A (call (.type "set") [.ref l]) Q E s := by
  obtain ⟨c, tl, hmro⟩ := F.called_set.mro
  have hmade := F.called_set.made
  have hsub := F.called_set.sub
  refine wpAny_call (codeAny_of_tree ?_)
  show wpAny _ _ (callAny (.type "set") _) _ _ _
  refine wpAny_pure ⟨Code.quiet_builtin _ (by decide +kernel), codeAny_builtin F.entry_type_call ?_⟩
  rw [Around.under_plain (weight_type_call_type "set" [.ref l] []) rfl]
  have h1 := F.called_set.notType
  have h2 := F.called_set.canCreate
  have hct := F.typeCall_set_1 (.ref l)
  repeat (any_goals (first | assumption | wp_step))
  refine codeAny_mono (code_set_new_1 (.ref l) (E := E) (Q₁ := fun obj s₁ => ∃ led : Bool, obj = .ref s.heap.objs.size ∧ s₁ = { s with heap := s.heap.push { cls := .type "set", dict := none, data := .set #[] 0 (.fresh 0 0 led) } }) fun led => ⟨led, rfl, rfl⟩) fun r s₁ hr => ?_
  cases r with
  | error e => exact hr
  | ok fl =>
    cases fl with
    | ret obj =>
      obtain ⟨led, rfl, rfl⟩ := hr
      have hS : (s.heap.push { cls := .type "set", dict := none, data := .set #[] 0 (.fresh 0 0 led) }).get? s.heap.objs.size = some { cls := .type "set", dict := none, data := .set #[] 0 (.fresh 0 0 led) } := Heap.get?_push_size _ rfl
      have hT : Shared.TypeIs { s with heap := s.heap.push { cls := .type "set", dict := none, data := .set #[] 0 (.fresh 0 0 led) } } (.ref s.heap.objs.size) "set" := ⟨_, hS, rfl⟩
      have hli := F.called_set.init.lookup
      have hbi := F.called_set.init.bind (.ref s.heap.objs.size)
      repeat (any_goals (first | assumption | wp_step))
      refine codeAny_mono (codeAny_call_builtin (R := wants (fun r s₂ => r = .none ∧ ∃ h' tk, s₂ = { s with heap := h', toks := tk } ∧ SetT prog w h' s.heap.objs.size (metK kf items.size) ∧
          (∀ b o, b < s.heap.objs.size → s.heap.get? b = some o → h'.get? b = some o)) E) F.called_set.init.plain F.entry_set_init (check_set_init_1 hT ?_)) fun r₂ s₂ hr₂ => ?_
      · obtain ⟨ol, hol, hcl, nl, hdl⟩ := hl
        obtain ⟨ocls, odict, odata, oslots⟩ := ol
        simp only at hcl hdl
        subst hcl; subst hdl
        have hol' : (s.heap.push { cls := .type "set", dict := none, data := .set #[] 0 (.fresh 0 0 led) }).get? l = some { cls := .type "list", dict := odict, data := .seq items nl, slots := oslots } := Heap.get?_push_of_some _ hol
        have hsls := F.sub_list_set
        have hslf := F.sub_list_frozenset
        have hne : (Value.type "list" == Value.type "dict") = false := by decide
        have hl1 : (s.heap.push { cls := .type "set", dict := none, data := .set #[] 0 (.fresh 0 0 led) }).IsList l items := ⟨_, hol', rfl, nl, rfl⟩
        unfold Builtin.«set.__init__» noKeywords Builtin.Frozenset.updateFrom
        generalize hPI : pyIter = PI
        wp_walk
        subst hPI
        refine wpAny_pyIter_list hl1 ?_
        refine wpAny_bind (wpAny_runValue ?_)
        have hlS : l < s.heap.objs.size := Heap.lt_size hol
        have hh3 : A.in1.in1.in1.handled = none := by simp [hh]
        have hneI : l ≠ (s.heap.push { cls := .type "set", dict := none, data := .set #[] 0 (.fresh 0 0 led) }).objs.size := by
          rw [Heap.size_push]; exact Nat.ne_of_lt (Nat.lt_succ_of_lt hlS)
        have hSf : s.heap.objs.size ∉ [(s.heap.push { cls := .type "set", dict := none, data := .set #[] 0 (.fresh 0 0 led) }).objs.size, l] := by
          rw [Heap.size_push]; simp only [List.mem_cons, List.mem_singleton, List.not_mem_nil, or_false, not_or]
          exact ⟨Nat.ne_of_lt (Nat.lt_succ_self _), Nat.ne_of_gt hlS⟩
        refine loop ((Walks.list hh3 _ l hneI items).toS) s.heap.objs.size hSf kf (by show A.units + 1 + 1 + 1 < cLine; omega) hb (fun s i b ks hst hbw q => ?_) (items.size - 0) 0 _ (by omega) (Nat.zero_le _)
          ⟨⟨_, Heap.get?_push_size _ rfl, rfl, rfl⟩, (hl1.push _)⟩ ?hS0 ?hP ?hR
        · obtain ⟨⟨o, ho, hoc, _⟩, _⟩ := hst
          have : b = (_ : Addr) := List.mem_singleton.mp hbw
          subst this
          obtain ⟨o2, items2, m2, g1, g2, _⟩ := q
          rw [ho] at g1
          cases g1
          rw [hoc] at g2
          exact absurd g2 (by decide)
        case hS0 =>
          have hget : ((s.heap.push { cls := .type "set", dict := none, data := .set #[] 0 (.fresh 0 0 led) }).push { cls := .type "list_iterator", data := .fields #[.ref l, .int 0 0] }).get? s.heap.objs.size
              = some { cls := .type "set", dict := none, data := .set #[] 0 (.fresh 0 0 led) } := Heap.get?_push_of_some _ hS
          refine ⟨_, #[], 0, .fresh 0 0 led, hget, ⟨rfl, rfl, rfl⟩, rfl, ⟨⟨rfl, List.Pairwise.nil, fun j hj => (by cases hj)⟩, .inl rfl, rfl, fun i e j he => (by simp at he)⟩, fun _ => (by decide), rfl, List.nodup_nil, fun e he => (by cases he), fun ks hks => (by cases hks)⟩
        case hP =>
          intro i v _ hv
          obtain ⟨b, q1, q2⟩ := hi i v hv
          exact ⟨b, q1, tup_keep q2 fun o e => Heap.get?_push_of_some _ (Heap.get?_push_of_some _ e)⟩
        case hR =>
          intro s' hm hS'
          obtain ⟨h', g', d', tk', os'⟩ := s'
          have eg : g' = s.gens := hm.gens
          have ed : d' = s.drawn := hm.drawn
          have eo : os' = s.os := hm.os
          subst eg; subst ed; subst eo
          show wpAny _ _ _ _ _ _
          refine wpAny_pure ?_
          show wpAny _ _ (ret Value.none) _ _ _
          refine wpAny_pure ⟨rfl, h', tk', rfl, hS', fun b o hb e => ?_⟩
          have hb1 : b ≠ s.heap.objs.size := Nat.ne_of_lt hb
          have hb2 : b ≠ (s.heap.push { cls := .type "set", dict := none, data := .set #[] 0 (.fresh 0 0 led) }).objs.size := by
            rw [Heap.size_push]; exact Nat.ne_of_lt (Nat.lt_succ_of_lt hb)
          exact hm.heap b o (by simp only [List.mem_cons, List.mem_singleton, List.not_mem_nil, or_false, not_or]; exact ⟨hb1, hb2⟩) (Heap.get?_push_of_some _ (Heap.get?_push_of_some _ e))
      · cases r₂ with
        | error e => exact hr₂
        | ok fl₂ =>
          cases fl₂ with
          | ret r =>
            obtain ⟨rfl, h', tk, rfl, hS', hk'⟩ := hr₂
            repeat (any_goals (first | assumption | wp_step))
            exact h _ _ hS' hk'
          | _ => exact hr₂.elim
    | _ => exact hr.elim
theorem len_set_tuples {a : Addr} {Ks : List (List Int)} {Q : Value → Shared → Prop} (hS : SetT prog w s.heap a Ks) (hl : Ks.length ≤ 16) (h : Q (.int Ks.length (s.toks + 1)) { s with toks := s.toks + 1 + 1 }) : wpAny (model prog w) A (call (.builtin "len") [.ref a]) Q E s := by
  obtain ⟨o, es, ep, t, ho, hex, hd, hk, hcap, hsz, hnd, hel, hall⟩ := hS
  have hmask : es.size ≤ t.mask := by
    rcases hk.msk with q | q
    · have := hcap q
      omega
    · omega
  exact call_len_set ho hex hd (fits_of hk hmask) (by omega) (by rw [hsz]; exact h)
end
end Jst

set_option Elab.async false
set_option linter.all false
set_option maxRecDepth 100000
set_option maxHeartbeats 2000000
namespace L2
open PySem PySem.Spec PyProof.Rows
/-! list(range(..)), list(zip(..)) -/
section
variable {X : Cx}

end
end L2

set_option Elab.async false
set_option linter.all false
set_option maxRecDepth 100000
set_option maxHeartbeats 2000000
namespace Jst
open PySem
theorem metK_nodup (kf : Nat → List Int) : ∀ i, (metK kf i).Nodup
  | 0 => List.nodup_nil
  | i + 1 => by
    have ih := metK_nodup kf i
    show (addK (metK kf i) (kf i)).Nodup
    unfold addK
    split
    · exact ih
    · rename_i h
      exact List.nodup_cons.mpr ⟨h, ih⟩
theorem states_met (p : Jug.Pattern) : (metK (fun j => (Jug.airAt p (j % p.length)).map Int.ofNat) p.length).length = Jug.statesOf p := by
  unfold Jug.statesOf
  have inj : ∀ a b : List Nat, a.map Int.ofNat = b.map Int.ofNat → a = b := fun a => by
    induction a with
    | nil => intro b h; cases b with | nil => rfl | cons _ _ => cases h
    | cons x a ih =>
      intro b h
      cases b with
      | nil => cases h
      | cons y b =>
        rw [List.map_cons, List.map_cons] at h
        injection h with h1 h2
        injection h1 with h1
        rw [h1, ih b h2]
  have hnd : ((Jug.distinct ((List.range p.length).map (Jug.airAt p))).map (List.map Int.ofNat)).Nodup := by
    unfold List.Nodup
    rw [List.pairwise_map]
    exact (Jm.distinct_nodup _).imp fun {a b} h e => h (inj a b e)
  rw [← List.length_map (f := List.map Int.ofNat) (as := Jug.distinct ((List.range p.length).map (Jug.airAt p)))]
  refine Jm.nodup_same_len (metK_nodup _ _) hnd fun x => ?_
  rw [metK_mem, List.mem_map]
  constructor
  · rintro ⟨j, h1, h2⟩
    refine ⟨Jug.airAt p j, Jm.distinct_mem.mpr (List.mem_map.mpr ⟨j, List.mem_range.mpr h1, rfl⟩), ?_⟩
    rw [Nat.mod_eq_of_lt h1] at h2
    exact h2
  · rintro ⟨a, h1, h2⟩
    obtain ⟨j, h3, h4⟩ := List.mem_map.mp (Jm.distinct_mem.mp h1)
    have h3 := List.mem_range.mp h3
    refine ⟨j, h3, ?_⟩
    rw [Nat.mod_eq_of_lt h3, h4, h2]
end Jst
namespace L2
open PySem PySem.Spec PyProof.Rows
section
variable {X : Cx}
theorem items_nats {P : Program} {w : World} : ∀ {l : List Nat} {its : List Value}, Vals (natsV l) its → ItemsAre (intKind P w) (l.map Int.ofNat) its
  | [], _, h => by cases h; exact .nil
  | n :: l, _, h => by
    cases h with
    | cons r t =>
      obtain ⟨tk, rfl⟩ := r
      exact .cons (intKind_is _ _ _ _) (items_nats t)
def tLenSet (ta : TA) : TE := fun σ H Q => ta σ H fun vs H1 => ∃ (a : Addr) (ys : List Addr) (kf : Nat → List Nat), vs = [.ref a] ∧ H1 a = some (.lst (ys.map V.ref)) ∧ ys.length ≤ 16 ∧ (∀ (j : Nat) y, ys[j]? = some y → H1 y = some (.tup (natsV (kf j)))) ∧
  Q (.int (((Jst.metK (fun i => (kf i).map Int.ofNat) ys.length).length : Nat) : Int)) H1
theorem pe_lenSet {e : Expr} {ta : TA} {p pos p2 pos2 : Pos} (hc : X.calm = true) (hu : X.A.units + 64 < cLine) (hgl : Gl X "len") (hml : X.mg "len" = none) (hgs : Gl X "set") (hms : X.mg "set" = none) (ha : PA X [e] ta)
    (hs : starEach [e] X.env = [(false, eval e X.env)] := by rfl) (he : starEach [.Call (.Name "set" p2) [e] [] pos2] X.env = (false, eval (.Call (.Name "set" p2) [e] [] pos2) X.env) :: starEach [] X.env := by rfl) :
    PE X (.Call (.Name "len" p) [.Call (.Name "set" p2) [e] [] pos2] [] pos) (tLenSet ta) := by
  intro pins s σ H Q I h
  refine wpAny_Call_Name_kw (ld_blt I hgl hml PySem.boot_len ?_)
  refine PyProof.Rows.callWith_builtin1 ?_ he rfl
  rw [he]
  show wpAny _ _ (spliced ((false, eval (.Call (.Name "set" p2) [e] [] pos2) X.env) :: backTo pos (starEach [] X.env))) _ _ s
  refine Calls.spliced_cons ?_
  refine Call_ (ld_blt I hgs hms (show bootBuiltins "set" = some (.type "set") by decide +kernel) (PyProof.Rows.callWith_type1 (thn (ha pos2 pins s σ H _ I h) fun us s1 ⟨vs, H1, I1, r1, q1⟩ => ?_) hs rfl))
  obtain ⟨a, ys, kf, e1, hH, h16, hys, q⟩ := q1
  subst e1
  cases r1 with
  | cons r rr =>
    cases rr
    cases r
    obtain ⟨its, rv, p1, _⟩ := I1.list (SqL.of hH)
    have hl := rv.length
    rw [List.length_map] at hl
    refine Jst.call_set_tuples (kf := fun i => (kf i).map Int.ofNat) (by omega) (I.ok.hd hc) p1.isList (fun i v hv => ?_) (by rw [List.size_toArray]; omega) fun h' tk hS hk => ?_
    · have hv : its[i]? = some v := by simpa using hv
      have hi := (List.getElem?_eq_some_iff.mp hv).1
      have hy : ys[i]? = some ys[i] := List.getElem?_eq_getElem (by omega)
      generalize ys[i] = y at hy
      obtain ⟨u, hu', ru⟩ := rv.get (show (ys.map V.ref)[i]? = some (V.ref y) by rw [List.getElem?_map, hy]; rfl)
      rw [hv] at hu'
      cases hu'
      cases ru
      obtain ⟨its2, r2, ⟨o, g1, g2, n, g3⟩, _⟩ := I1.tuple (SqT.of (hys i y hy))
      exact ⟨y, rfl, o, its2.toArray, n, g1, g2, g3, items_nats r2⟩
    · have I2 : Inv X pins σ H1 { s1 with heap := h', toks := tk } := I1.kept fun b u e => hk b u (Heap.lt_size e) e
      refine Calls.spliced_nil ?_
      rw [show its.toArray.size = ys.length by rw [List.size_toArray, hl]] at hS
      refine Jst.len_set_tuples (s := { s1 with heap := h', toks := tk }) hS (Nat.le_trans (Jst.metK_len _ _) h16) ?_
      exact ⟨.int _, H1, I2.kept fun b u e => e, ⟨_, rfl⟩, q⟩
end
end L2

set_option Elab.async false
set_option linter.all false
set_option maxRecDepth 100000
set_option maxHeartbeats 4000000
namespace Jp
open PySem PySem.Spec PyProof.Rows L2
open PySem.W (Codec)
def top (i : Nat) : Stmt := PySem.Challenge.pw_jugglebench_s16_prime.main.body.getD i (.Pass ⟨0, 0, 0, 0⟩)
abbrev s_height_of : Stmt := top 10
abbrev s_bracket_fault : Stmt := top 11
abbrev s_beat_fault : Stmt := top 12
abbrev s_beat_end : Stmt := top 13
abbrev s_text_fault : Stmt := top 14
abbrev s_read_beats : Stmt := top 15
abbrev s_landing_counts : Stmt := top 16
abbrev s_wrong_beat : Stmt := top 17
abbrev s_pattern_refusal : Stmt := top 18
abbrev s_root_of : Stmt := top 19
abbrev s_state_before : Stmt := top 20
abbrev s_different_states : Stmt := top 21
abbrev s_prime : Stmt := top 23
structure Txt (mg : Str → Option Value) : Prop where
  c_CLOSING : IntG mg "CLOSING" 93
  c_LETTER_A : IntG mg "LETTER_A" 97
  c_LETTER_F : IntG mg "LETTER_F" 102
  c_MOST_BEATS : IntG mg "MOST_BEATS" 16
  c_MOST_THROWS : IntG mg "MOST_THROWS" 3
  c_NINE : IntG mg "NINE" 57
  c_OPENING : IntG mg "OPENING" 91
  c_SPAN : IntG mg "SPAN" 15
  c_ZERO : IntG mg "ZERO" 48
  b_len : mg "len" = none
  b_list : mg "list" = none
  b_range : mg "range" = none
  b_set : mg "set" = none
  b_sorted : mg "sorted" = none
  b_tuple : mg "tuple" = none
end Jp

set_option Elab.async false
set_option linter.all false
set_option maxRecDepth 100000
set_option maxHeartbeats 4000000
namespace Jp
open PySem PySem.Spec PyProof.Rows L2
section
variable {P : Program} {w : World} {K : PySem.W.Frag} {mg : Str → Option Value} {base : Heap}
def sp_height_of (_ : PySem.W.Frag) : Sp := fun vs H Q _ => ∃ z : Int, vs = [.int z] ∧ Q (.int (Jm.hI z)) H
theorem sc_height_of : FnScope ["byte"] ["byte"] (defScope s_height_of) := ⟨rfl, rfl, rfl, by decide +kernel, rfl, by decide +kernel, by decide +kernel⟩
theorem ok_height_of {f : Addr} {fd : FuncData} (F : Fun K "height_of" "height_of" s_height_of f fd) (T : Txt mg) : FnOk P w K mg base CX0 1 f fd ["byte"] (sp_height_of K) := by
  have sc := sc_height_of
  refine F.ok sc (fun vs H Q E h => ?_) (fun cdv A outer s H vs Q E hr h => ?_)
  · obtain ⟨z, rfl, _⟩ := h
    rfl
  · obtain ⟨z, rfl, k⟩ := h
    refine ⟨_, (pss_cons (ps_if (pt_chain op_le op_le (pgl T.c_ZERO) (pv 0) (pgl T.c_NINE)) (pss_one (ps_ret (pe_op op_sub (pv 0) (pgl T.c_ZERO)))) pss_nil)
      (pss_cons (ps_if (pt_chain op_le op_le (pgl T.c_LETTER_A) (pv 0) (pgl T.c_LETTER_F)) (pss_one (ps_ret (pe_op op_add (pe_op op_sub (pv 0) (pgl T.c_LETTER_A)) pe_int))) pss_nil)
      (pss_one (ps_ret (pe_un un_neg pe_int))))), ?_⟩
    have fin : ∀ i : Int, Jm.hI z = i → Q (.int i) H := fun i e => by rw [← e]; exact k
    refine ⟨_, rfl, _, _, rfl, rfl, _, rfl, ite2 (fun h1 => ⟨_, _, rfl, rfl, _, rfl, ite2 (fun h2 => ⟨_, rfl, _, _, rfl, rfl, fin _ ?_⟩) (fun h2 => ?_)⟩) (fun h1 => ⟨_, rfl, iteF ?_⟩)⟩
    · simp only [decide_eq_true_eq] at h1 h2
      unfold Jm.hI
      rw [if_pos ⟨h1, h2⟩]
    all_goals
      refine ⟨_, rfl, _, _, rfl, rfl, _, rfl, ite2 (fun h3 => ⟨_, _, rfl, rfl, _, rfl, ite2 (fun h4 => ⟨_, rfl, _, _, rfl, rfl, _, _, rfl, rfl, fin _ ?_⟩) (fun h4 => ⟨_, rfl, fin _ ?_⟩)⟩) (fun h3 => ⟨_, rfl, iteF ⟨_, rfl, fin _ ?_⟩⟩)⟩
      all_goals
        simp only [decide_eq_true_eq] at *
        unfold Jm.hI
        split <;> (try split) <;> omega
end
end Jp

set_option Elab.async false
set_option linter.all false
set_option maxRecDepth 100000
set_option maxHeartbeats 4000000
namespace Jp
open PySem PySem.Spec PyProof.Rows L2
section
variable {P : Program} {w : World} {K : PySem.W.Frag} {mg : Str → Option Value} {base : Heap}
def sp_bracket_fault (K : PySem.W.Frag) : Sp := fun vs H Q _ => ∃ (a : Addr) (t : List Int) (p : Nat), vs = [.ref a, .int (p : Nat)] ∧ SqL K H a (t.map V.int) ∧ Jm.Ok8 t ∧ t.length ≤ 64 ∧ p < t.length ∧
  (∀ e, Jug.handIn (p + 1) (Jm.by8 (t.drop (p + 1))) [] = .error e → Q (.int (e : Nat)) H) ∧ (∀ x, Jug.handIn (p + 1) (Jm.by8 (t.drop (p + 1))) [] = .ok x → Q (.int (-1)) H)
theorem sc_bracket_fault : FnScope ["t", "start", "place", "held"] ["t", "start"] (defScope s_bracket_fault) := ⟨rfl, rfl, rfl, by decide +kernel, rfl, by decide +kernel, by decide +kernel⟩
theorem ok_bracket_fault {f : Addr} {fd : FuncData} (F : Fun K "bracket_fault" "bracket_fault" s_bracket_fault f fd) (T : Txt mg) (d_height_of : Def P w K mg base "height_of" ["byte"] 1 (sp_height_of K)) : FnOk P w K mg base CX0 2 f fd ["t", "start"] (sp_bracket_fault K) := by
  have sc := sc_bracket_fault
  refine F.ok sc (fun vs H Q E h => ?_) (fun cdv A outer s H vs Q E hr h => ?_)
  · obtain ⟨a, t, p, rfl, _⟩ := h
    rfl
  · obtain ⟨a, t, p, rfl, hS, h8, h64, hp, kE, kO⟩ := h
    refine ⟨_, (pss_cons (ps_for PassesOwn.never rfl (pi_range2 rfl T.b_range (pa_cons (pe_op op_add (pv 1) pe_int) (pa_cons (pe_callB call_len_seq (by rfl) T.b_len PySem.boot_len (pa_cons (pv 0) pa_nil)) pa_nil))) (pg_name (i := 2) sc.nd rfl (by first | exact Or.inl rfl | exact Or.inr rfl))
      (pss_cons (ps_set (i := 3) sc.nd rfl (by first | exact Or.inl rfl | exact Or.inr rfl) (pe_op op_sub (pe_op op_sub (pv 2) (pv 1)) pe_int))
      (pss_cons (ps_if (pt_cmp (pc_eqI (pe_ix ix_list (pv 0) (pv 2) (fun _ _ => rfl)) (pgl T.c_CLOSING))) (pss_one (ps_ret (pe_ifExp (pt_cmp (pc_ge (pv 3) pe_int)) (pe_un un_neg pe_int) (pv 2)))) pss_nil)
      (pss_one (ps_if (pw_or (pt_cmp (pc_eqI (pv 3) (pgl T.c_MOST_THROWS))) (pw_or1 (pt_cmp (pc_lt (pcall d_height_of (hr.mono (by decide)) (pa_cons (pe_ix ix_list (pv 0) (pv 2) (fun _ _ => rfl)) pa_nil)) pe_int)))).pt (pss_one (ps_ret (pv 2))) pss_nil)))))
      (pss_one (ps_ret (pe_callB call_len_seq (by rfl) T.b_len PySem.boot_len (pa_cons (pv 0) pa_nil))))), ?_⟩
    have hl : (t.map V.int).length = t.length := by simp
    refine ⟨_, rfl, _, _, rfl, rfl, _, rfl, _, _, rfl, .inl hS, _, _, rfl, ⟨by omega, by omega, by omega, by omega⟩, ?_⟩
    refine for_range (lo := (p : Int) + 1) (n := (((t.map V.int).length : Int) - ((p : Int) + 1)).toNat) (fun i σ H' => H' = H ∧ ∃ v2 v3, σ = [some (.ref a), some (.int p), v2, v3] ∧ ∃ l : List Nat, l.length = i ∧ i ≤ 3 ∧
      Jug.handIn (p + 1) (Jm.by8 (t.drop (p + 1))) [] = Jug.handIn (p + 1 + i) (Jm.by8 (t.drop (p + 1 + i))) l) ⟨rfl, none, none, rfl, [], rfl, Nat.zero_le _, rfl⟩ ?_ ?_
    · rintro i σ H' hi ⟨rfl, v2, v3, rfl, l, hli, hi3, eh⟩
      have hpl : p + 1 + i < t.length := by omega
      obtain ⟨z, r, ed, ez⟩ := Jm.drop_cons hpl
      obtain ⟨z0, z1⟩ := h8 z (List.mem_of_getElem? ez)
      have er : r = t.drop (p + 1 + (i + 1)) := by
        have := congrArg List.tail ed
        rw [List.tail_drop] at this
        exact this.symm
      rw [ed] at eh
      have hat : atI (t.map V.int) ((p : Int) + 1 + (i : Int)) = some (V.int z) := at_of (j := p + 1 + i) (by omega) (by rw [List.getElem?_map, ez]; rfl)
      refine ⟨_, rfl, _, rfl, _, _, rfl, rfl, _, _, rfl, rfl, ?_⟩
      refine ⟨_, rfl, _, rfl, a, _, _, _, rfl, rfl, hS, hat, _, _, rfl, rfl, _, rfl, ite2 (fun hc => ?_) (fun hc => ?_)⟩
      · have hz : z = 93 := of_decide_eq_true hc
        rw [Jm.hand_close _ _ _ hz] at eh
        refine ⟨_, rfl, _, _, rfl, rfl, _, rfl, ite2 (fun h2 => ⟨_, rfl, ?_⟩) (fun h2 => ⟨_, rfl, ?_⟩)⟩
        · have h2 := of_decide_eq_true h2
          rw [if_neg (by omega)] at eh
          exact kO _ eh
        · have h2 : ¬ _ := fun q => h2 (decide_eq_true q)
          rw [if_pos (by omega)] at eh
          have := kE _ eh
          have e2 : ((p + 1 + i : Nat) : Int) = (p : Int) + 1 + (i : Int) := by omega
          rw [e2] at this
          exact this
      · have hz : ¬ z = 93 := fun q => hc (decide_eq_true q)
        have bad : (3 ≤ l.length ∨ Jm.hI z < 1) → Q (.int ((p : Int) + 1 + (i : Int))) H' := fun hb => by
          rw [Jm.hand_bad _ _ _ z0 z1 hz hb] at eh
          have := kE _ eh
          have e2 : ((p + 1 + i : Nat) : Int) = (p : Int) + 1 + (i : Int) := by omega
          rw [e2] at this
          exact this
        refine ⟨_, rfl, _, _, rfl, rfl, _, rfl, ite2 (fun h3 => ?_) (fun h3 => ?_)⟩
        · have h3 := of_decide_eq_true h3
          exact ⟨_, rfl, bad (by omega)⟩
        · have h3 : ¬ _ := fun q => h3 (decide_eq_true q)
          refine ⟨_, rfl, _, rfl, a, _, _, _, rfl, rfl, hS, hat, z, rfl, _, _, rfl, rfl, _, rfl, ite2 (fun h4 => ?_) (fun h4 => ?_)⟩
          · have h4 := of_decide_eq_true h4
            exact ⟨_, rfl, bad (.inr h4)⟩
          · have h4 : ¬ _ := fun q => h4 (decide_eq_true q)
            rw [Jm.hand_go _ _ _ z0 z1 hz (by omega) (by omega), er] at eh
            exact ⟨rfl, _, _, rfl, _, by simp [hli], by omega, eh⟩
    · rintro σ H' ⟨rfl, v2, v3, rfl, l, hli, hi3, eh⟩
      have e1 : p + 1 + (((t.map V.int).length : Int) - ((p : Int) + 1)).toNat = t.length := by omega
      rw [e1, List.drop_length, Jm.hand_nil] at eh
      have := kE _ eh
      refine ⟨_, rfl, _, _, rfl, .inl hS, ?_⟩
      rw [hl]
      exact this
end
end Jp

set_option Elab.async false
set_option linter.all false
set_option maxRecDepth 100000
set_option maxHeartbeats 4000000
namespace Jp
open PySem PySem.Spec PyProof.Rows L2
section
variable {P : Program} {w : World} {K : PySem.W.Frag} {mg : Str → Option Value} {base : Heap}
def sp_beat_fault (K : PySem.W.Frag) : Sp := fun vs H Q _ => ∃ (a : Addr) (t : List Int) (p : Nat), vs = [.ref a, .int (p : Nat)] ∧ SqL K H a (t.map V.int) ∧ Jm.Ok8 t ∧ t.length ≤ 64 ∧ p < t.length ∧
  (∀ e, Jm.stepIn p (Jm.by8 (t.drop p)) = .error e → Q (.int (e : Nat)) H) ∧ (∀ x, Jm.stepIn p (Jm.by8 (t.drop p)) = .ok x → Q (.int (-1)) H)
theorem sc_beat_fault : FnScope ["t", "start"] ["t", "start"] (defScope s_beat_fault) := ⟨rfl, rfl, rfl, by decide +kernel, rfl, by decide +kernel, by decide +kernel⟩
theorem ok_beat_fault {f : Addr} {fd : FuncData} (F : Fun K "beat_fault" "beat_fault" s_beat_fault f fd) (T : Txt mg) (d_bracket_fault : Def P w K mg base "bracket_fault" ["t", "start"] 2 (sp_bracket_fault K)) (d_height_of : Def P w K mg base "height_of" ["byte"] 1 (sp_height_of K)) : FnOk P w K mg base CX0 3 f fd ["t", "start"] (sp_beat_fault K) := by
  have sc := sc_beat_fault
  refine F.ok sc (fun vs H Q E h => ?_) (fun cdv A outer s H vs Q E hr h => ?_)
  · obtain ⟨a, t, p, rfl, _⟩ := h
    rfl
  · obtain ⟨a, t, p, rfl, hS, h8, h64, hp, kE, kO⟩ := h
    refine ⟨_, (pss_cons (ps_if (pt_cmp (pc_eqI (pe_ix ix_list (pv 0) (pv 1) (fun _ _ => rfl)) (pgl T.c_OPENING))) (pss_one (ps_ret (pcall d_bracket_fault (hr.mono (by decide)) (pa_cons (pv 0) (pa_cons (pv 1) pa_nil))))) pss_nil)
      (pss_one (ps_ret (pe_ifExp (pt_cmp (pc_ge (pcall d_height_of (hr.mono (by decide)) (pa_cons (pe_ix ix_list (pv 0) (pv 1) (fun _ _ => rfl)) pa_nil)) pe_int)) (pe_un un_neg pe_int) (pv 1))))), ?_⟩
    obtain ⟨z, r, ed, ez⟩ := Jm.drop_cons hp
    obtain ⟨z0, z1⟩ := h8 z (List.mem_of_getElem? ez)
    have hat : atI (t.map V.int) (p : Int) = some (V.int z) := at_of (j := p) rfl (by rw [List.getElem?_map, ez]; rfl)
    refine ⟨_, rfl, _, rfl, a, _, _, _, rfl, rfl, hS, hat, _, _, rfl, rfl, _, rfl, ite2 (fun hc => ?_) (fun hc => ?_)⟩
    · have hz : z = 91 := of_decide_eq_true hc
      rw [Jm.step_open ez hz] at kE kO
      exact ⟨_, rfl, _, rfl, a, t, p, rfl, hS, h8, h64, hp, kE, kO⟩
    · have hz : ¬ z = 91 := fun q => hc (decide_eq_true q)
      refine ⟨_, rfl, _, rfl, a, _, _, _, rfl, rfl, hS, hat, z, rfl, _, _, rfl, rfl, _, rfl, ite2 (fun h4 => ?_) (fun h4 => ?_)⟩
      · have h4 : 0 ≤ Jm.hI z := of_decide_eq_true h4
        obtain ⟨x, e⟩ := Jm.step_dig ez z0 z1 hz h4
        exact ⟨_, rfl, kO _ e⟩
      · have h4 : ¬ 0 ≤ Jm.hI z := fun q => h4 (decide_eq_true q)
        exact ⟨_, rfl, kE _ (Jm.step_none ez z0 z1 hz (by omega))⟩
end
end Jp

set_option Elab.async false
set_option linter.all false
set_option maxRecDepth 100000
set_option maxHeartbeats 4000000
namespace Jp
open PySem PySem.Spec PyProof.Rows L2
section
variable {P : Program} {w : World} {K : PySem.W.Frag} {mg : Str → Option Value} {base : Heap}
def sp_beat_end (K : PySem.W.Frag) : Sp := fun vs H Q _ => ∃ (a : Addr) (t : List Int) (p q : Nat) (x : Jug.Beat) (s : Jug.Bytes), vs = [.ref a, .int (p : Nat)] ∧ SqL K H a (t.map V.int) ∧ Jm.Ok8 t ∧ t.length ≤ 64 ∧ p < t.length ∧
  Jm.stepIn p (Jm.by8 (t.drop p)) = .ok (x, q, s) ∧ Q (.int (q : Nat)) H
theorem sc_beat_end : FnScope ["t", "start"] ["t", "start"] (defScope s_beat_end) := ⟨rfl, rfl, rfl, by decide +kernel, rfl, by decide +kernel, by decide +kernel⟩
theorem ok_beat_end {f : Addr} {fd : FuncData} (F : Fun K "beat_end" "beat_end" s_beat_end f fd) (T : Txt mg) : FnOk P w K mg base CX0 1 f fd ["t", "start"] (sp_beat_end K) := by
  have sc := sc_beat_end
  refine F.ok sc (fun vs H Q E h => ?_) (fun cdv A outer s H vs Q E hr h => ?_)
  · obtain ⟨a, t, p, q, x, b, rfl, _⟩ := h
    rfl
  · obtain ⟨a, t, p, q, x, b, rfl, hS, h8, h64, hp, hs, k⟩ := h
    refine ⟨_, (pss_cons (ps_if (pt_cmp (pc_eqI (pe_ix ix_list (pv 0) (pv 1) (fun _ _ => rfl)) (pgl T.c_OPENING))) (pss_one (ps_ret (pe_op op_add (pe_bm PySem.F.plainAttrs_list PySem.F.slot_list_index PySem.F.type_list_index mt_index3 (pv 0) (pa_cons (pgl T.c_CLOSING) (pa_cons (pv 1) pa_nil))) pe_int))) pss_nil)
      (pss_one (ps_ret (pe_op op_add (pv 1) pe_int)))), ?_⟩
    obtain ⟨z, r, ed, ez⟩ := Jm.drop_cons hp
    have hat : atI (t.map V.int) (p : Int) = some (V.int z) := at_of (j := p) rfl (by rw [List.getElem?_map, ez]; rfl)
    refine ⟨_, rfl, _, rfl, a, _, _, _, rfl, rfl, hS, hat, _, _, rfl, rfl, _, rfl, ite2 (fun hc => ?_) (fun hc => ?_)⟩
    · have hz : z = 91 := of_decide_eq_true hc
      subst hz
      obtain ⟨q1, q2, q3, q4⟩ := Jm.step_index h8 ez hs
      refine ⟨_, rfl, .inl ⟨rfl, _, hS⟩, _, rfl, a, t, 93, p, q - 1, rfl, rfl, hS, q2, q3, q4, _, _, rfl, rfl, ?_⟩
      have e : (((q - 1 : Nat) : Int) + 1) = (q : Int) := by omega
      have k2 : Q (.int (((q - 1 : Nat) : Int) + 1)) H := by rw [e]; exact k
      exact k2
    · have hz : ¬ z = 91 := fun q => hc (decide_eq_true q)
      have e := Jm.step_single h8 ez hz hs
      subst e
      exact ⟨_, rfl, _, _, rfl, rfl, k⟩
end
end Jp

set_option Elab.async false
set_option linter.all false
set_option maxRecDepth 100000
set_option maxHeartbeats 4000000
namespace Jp
open PySem PySem.Spec PyProof.Rows L2
section
variable {P : Program} {w : World} {K : PySem.W.Frag} {mg : Str → Option Value} {base : Heap}
def sp_text_fault (K : PySem.W.Frag) : Sp := fun vs H Q _ => ∃ (a : Addr) (t : List Int), vs = [.ref a] ∧ SqL K H a (t.map V.int) ∧ Jm.Ok8 t ∧ t.length ≤ 64 ∧
  (∀ e, Jug.read (Jm.by8 t) = .error e → Q (.int (e : Nat)) H) ∧ (∀ x, Jug.read (Jm.by8 t) = .ok x → Q (.int (-1)) H)
theorem sc_text_fault : FnScope ["t", "begun", "place", "fault"] ["t"] (defScope s_text_fault) := ⟨rfl, rfl, rfl, by decide +kernel, rfl, by decide +kernel, by decide +kernel⟩
theorem ok_text_fault {f : Addr} {fd : FuncData} (F : Fun K "text_fault" "text_fault" s_text_fault f fd) (T : Txt mg) (d_beat_fault : Def P w K mg base "beat_fault" ["t", "start"] 3 (sp_beat_fault K)) (d_beat_end : Def P w K mg base "beat_end" ["t", "start"] 1 (sp_beat_end K)) : FnOk P w K mg base CX0 4 f fd ["t"] (sp_text_fault K) := by
  have sc := sc_text_fault
  refine F.ok sc (fun vs H Q E h => ?_) (fun cdv A outer s H vs Q E hr h => ?_)
  · obtain ⟨a, t, rfl, _⟩ := h
    rfl
  · obtain ⟨a, t, rfl, hS, h8, h64, kE, kO⟩ := h
    refine ⟨_, (pss_cons (ps_if (pt_cmp (pc_eqI (pe_callB call_len_seq (by rfl) T.b_len PySem.boot_len (pa_cons (pv 0) pa_nil)) pe_int)) (pss_one (ps_ret pe_int)) pss_nil)
      (pss_cons (ps_set (i := 1) sc.nd rfl (by first | exact Or.inl rfl | exact Or.inr rfl) pe_int)
      (pss_cons (ps_set (i := 2) sc.nd rfl (by first | exact Or.inl rfl | exact Or.inr rfl) pe_int)
      (pss_cons (ps_while PassesOwn.never (pt_cmp (pc_lt (pv 2) (pe_callB call_len_seq (by rfl) T.b_len PySem.boot_len (pa_cons (pv 0) pa_nil))))
      (pss_cons (ps_if (pt_cmp (pc_eqI (pv 1) (pgl T.c_MOST_BEATS))) (pss_one (ps_ret (pv 2))) pss_nil)
      (pss_cons (ps_set (i := 3) sc.nd rfl (by first | exact Or.inl rfl | exact Or.inr rfl) (pcall d_beat_fault (hr.mono (by decide)) (pa_cons (pv 0) (pa_cons (pv 2) pa_nil))))
      (pss_cons (ps_if (pt_cmp (pc_ge (pv 3) pe_int)) (pss_one (ps_ret (pv 3))) pss_nil)
      (pss_cons (ps_aug (i := 1) sc.nd rfl (by first | exact Or.inl rfl | exact Or.inr rfl) pe_int ip_add)
      (pss_one (ps_set (i := 2) sc.nd rfl (by first | exact Or.inl rfl | exact Or.inr rfl) (pcall d_beat_end (hr.mono (by decide)) (pa_cons (pv 0) (pa_cons (pv 2) pa_nil))))))))))
      (pss_one (ps_ret (pe_un un_neg pe_int))))))), ?_⟩
    have hl : (t.map V.int).length = t.length := by simp
    refine ⟨_, rfl, _, _, rfl, .inl hS, _, _, rfl, rfl, _, rfl, ite2 (fun hc => ?_) (fun hc => ?_)⟩
    · have hc : ((t.map V.int).length : Int) = 0 := of_decide_eq_true hc
      have e0 : t = [] := List.eq_nil_of_length_eq_zero (by omega)
      subst e0
      exact kE 0 (Jm.At.start []).last
    · have hc : ¬ ((t.map V.int).length : Int) = 0 := fun q => hc (decide_eq_true q)
      refine ⟨fun m σ H' => H' = H ∧ ∃ (pl : Nat) (v3 : Option V) (l : Jug.Pattern), σ = [some (.ref a), some (.int (l.length : Nat)), some (.int (pl : Nat)), v3] ∧ Jm.At t pl l ∧ m = t.length - pl, ⟨_, rfl, 0, none, [], rfl, Jm.At.start t, rfl⟩, ?_⟩
      rintro m σ H' ⟨rfl, pl, v3, l, rfl, hAt, rfl⟩
      refine ⟨_, rfl, _, rfl, _, _, rfl, .inl hS, _, _, rfl, rfl, _, rfl, ite2 (fun hc => ?_) (fun hc => ?_)⟩
      · have hpl : pl < t.length := by have := of_decide_eq_true hc; omega
        refine ⟨fun σ' H'' => ∃ m', m' < t.length - pl ∧ (H'' = H' ∧ ∃ (pl : Nat) (v3 : Option V) (l : Jug.Pattern), σ' = [some (.ref a), some (.int (l.length : Nat)), some (.int (pl : Nat)), v3] ∧ Jm.At t pl l ∧ m' = t.length - pl), fun _ _ h => h, ?_⟩
        refine ⟨_, rfl, _, _, rfl, rfl, _, rfl, ite2 (fun h1 => ?_) (fun h1 => ?_)⟩
        · have h1 := of_decide_eq_true h1
          exact ⟨_, rfl, kE _ (hAt.long hpl (by omega))⟩
        · have h1 : ¬ _ := fun q => h1 (decide_eq_true q)
          have h16 : l.length ≠ 16 := by omega
          refine ⟨_, rfl, _, rfl, a, t, pl, rfl, hS, h8, h64, hpl, fun e he => ?_, fun x hx => ?_⟩
          · refine ⟨_, rfl, _, _, rfl, rfl, _, rfl, ite2 (fun h2 => ⟨_, rfl, kE _ (hAt.err hpl h16 he)⟩) (fun h2 => ?_)⟩
            exact absurd (decide_eq_true (show (0 : Int) ≤ (e : Nat) by omega)) h2
          · obtain ⟨x, q, sb⟩ := x
            obtain ⟨hA2, hlt⟩ := hAt.next h8 hpl h16 hx
            refine ⟨_, rfl, _, _, rfl, rfl, _, rfl, ite2 (fun h2 => ?_) (fun h2 => ?_)⟩
            · have h2 := of_decide_eq_true h2
              omega
            · refine ⟨_, rfl, _, _, rfl, rfl, ?_⟩
              refine ⟨_, rfl, _, rfl, a, t, pl, q, x, sb, rfl, hS, h8, h64, hpl, hx, ?_⟩
              have el : ((l ++ [x]).length : Int) = (l.length : Int) + 1 := by simp
              exact ⟨t.length - q, by have := hA2.1; omega, rfl, q, some (.int (-1)), l ++ [x], by rw [el]; rfl, hA2, rfl⟩
      · have hpl : pl = t.length := by
          have : ¬ ((pl : Int) < ((t.map V.int).length : Int)) := fun q => hc (decide_eq_true q)
          have := hAt.1
          omega
        subst hpl
        have hr := hAt.last
        rw [if_neg (fun e => by have := hAt.2.2.1.mpr e; omega)] at hr
        exact ⟨_, rfl, kO _ hr⟩
end
end Jp

set_option Elab.async false
set_option linter.all false
set_option maxRecDepth 100000
set_option maxHeartbeats 4000000
namespace Jp
open PySem PySem.Spec PyProof.Rows L2
section
variable {P : Program} {w : World} {K : PySem.W.Frag} {mg : Str → Option Value} {base : Heap}
def sp_read_beats (K : PySem.W.Frag) : Sp := fun vs H Q _ => ∃ (a : Addr) (t : List Int) (p : Jug.Pattern), vs = [.ref a] ∧ SqL K H a (t.map V.int) ∧ Jm.Ok8 t ∧ t.length ≤ 64 ∧ Jug.read (Jm.by8 t) = .ok p ∧
  ∀ v H', Same H H' → PatAt H' v p → Q v H'
theorem sc_read_beats : FnScope ["t", "beats", "place", "end", "heights", "byte", "height"] ["t"] (defScope s_read_beats) := ⟨rfl, rfl, rfl, by decide +kernel, rfl, by decide +kernel, by decide +kernel⟩
theorem ok_read_beats {f : Addr} {fd : FuncData} (F : Fun K "read_beats" "read_beats" s_read_beats f fd) (T : Txt mg) (d_beat_end : Def P w K mg base "beat_end" ["t", "start"] 1 (sp_beat_end K)) (d_height_of : Def P w K mg base "height_of" ["byte"] 1 (sp_height_of K)) : FnOk P w K mg base CX0 2 f fd ["t"] (sp_read_beats K) := by
  have sc := sc_read_beats
  refine F.ok sc (fun vs H Q E h => ?_) (fun cdv A outer s H vs Q E hr h => ?_)
  · obtain ⟨a, t, p, rfl, _⟩ := h
    rfl
  · obtain ⟨a, t, p, rfl, hS, h8, h64, hrd, k⟩ := h
    refine ⟨_, (pss_cons (ps_set (i := 1) sc.nd rfl (by first | exact Or.inl rfl | exact Or.inr rfl) (pe_lst pa_nil))
      (pss_cons (ps_set (i := 2) sc.nd rfl (by first | exact Or.inl rfl | exact Or.inr rfl) pe_int)
      (pss_cons (ps_while PassesOwn.never (pt_cmp (pc_lt (pv 2) (pe_callB call_len_seq (by rfl) T.b_len PySem.boot_len (pa_cons (pv 0) pa_nil))))
      (pss_cons (ps_set (i := 3) sc.nd rfl (by first | exact Or.inl rfl | exact Or.inr rfl) (pcall d_beat_end (hr.mono (by decide)) (pa_cons (pv 0) (pa_cons (pv 2) pa_nil))))
      (pss_cons (ps_setLc (i := 4) (hc := rfl) (hN := sc.nd) (hy := rfl) (hyl := rfl) (hsw := sw_true rfl rfl rfl (by decide +kernel)) (pi_list (pe_slice sl_list (pv 0) (po_some (pv 2)) (po_some (pv 3)))) (own := [("byte", 5)]) (blkOk_by (N := ["t", "beats", "place", "end", "heights", "byte", "height"]) (sc := defScope s_read_beats) (by decide +kernel)) (fun _ _ _ _ _ => pg_name (i := 5) sc.nd rfl (by first | exact Or.inl rfl | exact Or.inr rfl)) (fun _ _ _ _ _ => pts_nil) (fun _ _ _ _ _ => (pcall d_height_of (hr.mono (by decide)) (pa_cons (pv 5) pa_nil))))
      (pss_cons (ps_expr (pe_bm PySem.F.plainAttrs_list PySem.F.slot_list_append PySem.F.type_list_append mt_append (pv 1) (pa_cons (pe_sortedR rfl T.b_sorted (pa_cons (pe_lc rfl sc.nd (pi_list (pv 4)) (own := [("height", 6)]) (blkOk_by (N := ["t", "beats", "place", "end", "heights", "byte", "height"]) (sc := defScope s_read_beats) (by decide +kernel)) (fun _ _ _ _ _ => pg_name (i := 6) sc.nd rfl (by first | exact Or.inl rfl | exact Or.inr rfl)) (fun _ _ _ _ _ => (pts_one (pt_cmp (pc_gt (pv 6) pe_int)))) (fun _ _ _ _ _ => (pv 6))) pa_nil)) pa_nil)))
      (pss_one (ps_set (i := 2) sc.nd rfl (by first | exact Or.inl rfl | exact Or.inr rfl) (pv 3)))))))
      (pss_one (ps_ret (pv 1)))))), ?_⟩
    have hl : (t.map V.int).length = t.length := by simp
    refine ⟨Nat.zero_le _, fun D hD => ?_⟩
    refine ⟨fun m σ H' => Same H H' ∧ ∃ (pl : Nat) (v3 v4 v5 v6 : Option V) (l : Jug.Pattern) (bs : List V), σ = [some (.ref a), some (.ref D), some (.int (pl : Nat)), v3, v4, v5, v6] ∧ Jm.At t pl l ∧ m = t.length - pl ∧
      H' D = some (.lst bs) ∧ Paired (fun v b => BeatAt H' v b ∧ v ≠ .ref D) bs l, ⟨_, (Same.refl H).new hD, 0, none, none, none, none, [], [], rfl, Jm.At.start t, rfl, upd_same, .nil⟩, ?_⟩
    rintro m σ H' ⟨s1, pl, v3, v4, v5, v6, l, bs, rfl, hAt, rfl, hDv, hP⟩
    refine ⟨_, rfl, _, rfl, _, _, rfl, .inl (s1.seq hS), _, _, rfl, rfl, _, rfl, ite2 (fun hc => ?_) (fun hc => ?_)⟩
    · have hpl : pl < t.length := by have := of_decide_eq_true hc; omega
      refine ⟨fun σ' H'' => ∃ m', m' < t.length - pl ∧ (Same H H'' ∧ ∃ (pl : Nat) (v3 v4 v5 v6 : Option V) (l : Jug.Pattern) (bs : List V), σ' = [some (.ref a), some (.ref D), some (.int (pl : Nat)), v3, v4, v5, v6] ∧ Jm.At t pl l ∧ m' = t.length - pl ∧
        H'' D = some (.lst bs) ∧ Paired (fun v b => BeatAt H'' v b ∧ v ≠ .ref D) bs l), fun _ _ h => h, ?_⟩
      obtain ⟨x, q, sb, hx, h16⟩ : ∃ x q sb, Jm.stepIn pl (Jm.by8 (t.drop pl)) = .ok (x, q, sb) ∧ l.length ≠ 16 := by
        have h16 : l.length ≠ 16 := fun e => by
          rw [hAt.long hpl e] at hrd
          cases hrd
        cases hx : Jm.stepIn pl (Jm.by8 (t.drop pl)) with
        | error e =>
          rw [hAt.err hpl h16 hx] at hrd
          cases hrd
        | ok y => exact ⟨y.1, y.2.1, y.2.2, rfl, h16⟩
      obtain ⟨hA2, hlt⟩ := hAt.next h8 hpl h16 hx
      obtain ⟨seg, rest, e1, e2, e3, e4, e5, e6, e7, e8⟩ := Jm.step_ok (h8.drop pl) hx
      -- end = beat_end(t, place)
      refine ⟨_, rfl, _, rfl, a, t, pl, q, x, sb, rfl, s1.seq hS, h8, h64, hpl, hx, ?_⟩
      -- heights = [height_of(byte) for byte in t[place:end]]
      refine ⟨_, rfl, _, rfl, _, rfl, _, rfl, _, rfl, a, _, rfl, s1.seq hS, fun c hc0 => ?_⟩
      rw [cutV_seg (by omega) e1 e2]
      have n1 : ∀ b o, H' b = some o → (upd H' c (.lst (seg.map V.int))) b = some o := (Same.refl H').new hc0
      refine ⟨c, rfl, ⟨_, SqL.of upd_same⟩, fun D1 hD1 => lc_mapL hV (SqL.of upd_same) hD1 ?_ (fun _ => rfl) ?_ ?_⟩
      · rw [List.length_map]
        exact Nat.le_of_lt (small1000 (by omega))
      · intro i v H3 Qk hv s3 kk
        obtain ⟨z, ez, rfl⟩ := map_get hv
        exact ⟨_, rfl, z, rfl, kk _ (Same.refl _)⟩
      intro H2 s2 hD1v
      have s02 : Same H' H2 := fun b o e => s2 b o (n1 b o e)
      have ehv : (seg.map V.int).map hV = (seg.map Jm.hI).map V.int := by
        rw [List.map_map, List.map_map]
        rfl
      rw [ehv] at hD1v
      -- beats.append(sorted([height for height in heights if height > 0], reverse=True))
      refine ⟨_, rfl, .inl ⟨rfl, _, SqL.of (s02 _ _ hDv)⟩, ?_⟩
      refine ⟨_, rfl, D1, rfl, ⟨_, SqL.of hD1v⟩, fun D2 hD2 => lc_filterL posV (SqL.of hD1v) hD2 ?_ (by show 6 < 7; decide) (fun _ => rfl) ?_ ?_⟩
      · rw [List.length_map, List.length_map]
        exact Nat.le_of_lt (small1000 (by omega))
      · intro i v H3 Qk hv s3 kk
        obtain ⟨z, ez, rfl⟩ := map_get hv
        exact ⟨_, rfl, _, _, rfl, rfl, _, rfl, kk⟩
      intro H3 s3 hD2v
      rw [filter_pos] at hD2v
      refine ⟨D2, _, rfl, SqL.of hD2v, ?_, fun ns' r hp1 hp2 hr => ?_⟩
      · have := List.length_filter_le (fun z => decide (0 < z)) (seg.map Jm.hI)
        rw [List.length_map] at this
        omega
      have ens : ns'.map V.int = natsV x := by
        rw [natsV_int, e6, ← Jm.falling_ints (fun n hn => by have := e7.2 n hn; omega) hp1 hp2]
      rw [ens]
      have s03 : Same H' H3 := s02.trans s3
      have hD3 := s03 _ _ hDv
      have nrD : r ≠ D := (ne_of_none hD3 hr).symm
      refine ⟨D, bs, _, rfl, rfl, by rw [upd_ne nrD.symm]; exact hD3, ?_, ?_⟩
      · have := hP.length
        have := hAt.2.1
        exact small1000 (by omega)
      -- place = end
      refine ⟨_, rfl, t.length - q, by have := hA2.1; omega, ?_, q, _, _, _, _, l ++ [x], _, rfl, hA2, rfl, upd_same, ?_⟩
      · exact ((s1.trans s03).new hr).own hD
      · refine Paired.snoc (Paired.imp' (fun v b ⟨q1, q2⟩ => ⟨(q1.same (s03.new hr)).upd q2, q2⟩) hP) ⟨⟨r, rfl, ?_⟩, fun e => nrD (V.ref.inj e)⟩
        rw [upd_ne nrD, upd_same]
    · have hpl : pl = t.length := by
        have : ¬ ((pl : Int) < ((t.map V.int).length : Int)) := fun q => hc (decide_eq_true q)
        have := hAt.1
        omega
      subst hpl
      have hr := hAt.last
      rw [hrd] at hr
      have el : l = p := by
        by_cases e : l = []
        · rw [if_pos e] at hr
          cases hr
        · rw [if_neg e] at hr
          exact (Except.ok.inj hr).symm
      subst el
      exact ⟨_, rfl, k _ _ s1 ⟨D, bs, rfl, hDv, Paired.imp' (fun _ _ q => q.1) hP⟩⟩
end
end Jp

set_option Elab.async false
set_option linter.all false
set_option maxRecDepth 100000
set_option maxHeartbeats 4000000
namespace Jp
open PySem PySem.Spec PyProof.Rows L2
section
variable {P : Program} {w : World} {K : PySem.W.Frag} {mg : Str → Option Value} {base : Heap}
def sp_landing_counts (K : PySem.W.Frag) : Sp := fun vs H Q _ => ∃ (v : V) (p : Jug.Pattern), vs = [v] ∧ PatAt H v p ∧ (∀ b ∈ p, Jm.GoodBeat b) ∧ 1 ≤ p.length ∧ p.length ≤ 16 ∧
  ∀ (x : Addr) H', Same H H' → H x = none → H' x = some (.lst (natsV (Jm.cnt p.length (Jm.landKs p p.length)))) → Q (.ref x) H'
theorem sc_landing_counts : FnScope ["beats", "period", "landing", "start", "height"] ["beats"] (defScope s_landing_counts) := ⟨rfl, rfl, rfl, by decide +kernel, rfl, by decide +kernel, by decide +kernel⟩
theorem ok_landing_counts {f : Addr} {fd : FuncData} (F : Fun K "landing_counts" "landing_counts" s_landing_counts f fd) (T : Txt mg) : FnOk P w K mg base CX0 1 f fd ["beats"] (sp_landing_counts K) := by
  have sc := sc_landing_counts
  refine F.ok sc (fun vs H Q E h => ?_) (fun cdv A outer s H vs Q E hr h => ?_)
  · obtain ⟨v, p, rfl, _⟩ := h
    rfl
  · obtain ⟨v, p, rfl, ⟨x, ws, rfl, hx, hP⟩, hG, hp1, hp16, k⟩ := h
    refine ⟨_, (pss_cons (ps_set (i := 1) sc.nd rfl (by first | exact Or.inl rfl | exact Or.inr rfl) (pe_callB call_len_seq (by rfl) T.b_len PySem.boot_len (pa_cons (pv 0) pa_nil)))
      (pss_cons (ps_set (i := 2) sc.nd rfl (by first | exact Or.inl rfl | exact Or.inr rfl) (pe_op op_rep (pe_lst (pa_cons pe_int pa_nil)) (pv 1)))
      (pss_cons (ps_for PassesOwn.never rfl (pi_range1 rfl T.b_range (pa_cons (pv 1) pa_nil)) (pg_name (i := 3) sc.nd rfl (by first | exact Or.inl rfl | exact Or.inr rfl))
      (pss_one (ps_for PassesOwn.never rfl (pi_list (pe_ix ix_list (pv 0) (pv 3) (fun _ _ => rfl))) (pg_name (i := 4) sc.nd rfl (by first | exact Or.inl rfl | exact Or.inr rfl))
      (pss_one (ps_augS (pv 2) (pe_op op_mod (pe_op op_add (pv 3) (pv 4)) (pv 1)) get_list pe_int ip_add set_list)))))
      (pss_one (ps_ret (pv 2)))))), ?_⟩
    have hl := hP.length
    refine ⟨_, rfl, _, _, rfl, .inl (SqL.of hx), ?_⟩
    rw [hl]
    refine ⟨by show 1 ≤ sizeLine; decide, fun z hz => ⟨_, rfl, z, _, _, rfl, rfl, upd_same, by omega, by omega, by simp; exact Nat.le_of_lt (small1000 (by omega)), fun D hD => ?_⟩⟩
    have en : ((p.length : Int)).toNat = p.length := by omega
    rw [en, rep_zero]
    have s0 : Same H (upd H z (.lst [.int 0])) := (Same.refl H).new hz
    have hDH : H D = none := s0.free hD
    have s1 := s0.new (o := .lst (natsV (Jm.cnt p.length []))) hD
    refine ⟨_, rfl, _, rfl, by omega, by omega, ?_⟩
    rw [en]
    refine for_range (fun i σ H' => Same H H' ∧ ∃ v3 v4, σ = [some (.ref x), some (.int (p.length : Nat)), some (.ref D), v3, v4] ∧ H' D = some (.lst (natsV (Jm.cnt p.length (Jm.landKs p i))))) ⟨s1, none, none, rfl, upd_same⟩ ?_ ?_
    · rintro i σ H' hi ⟨s2, v3, v4, rfl, hDv⟩
      obtain ⟨y, b, e1, e2, e3, e4⟩ := PatAt.at (x := x) hP hi
      have hat : atI ws (0 + (i : Int)) = some (V.ref y) := at_of (j := i) (by omega) e1
      obtain ⟨g1, g2, g3⟩ := hG b (List.mem_of_getElem? e2)
      refine ⟨_, rfl, _, rfl, x, _, _, _, rfl, rfl, SqL.of (s2 _ _ hx), hat, y, rfl, ⟨_, SqL.of (s2 _ _ e4)⟩, ?_⟩
      refine for_list (xs := natsV b) (fun j σ H'' => Same H H'' ∧ ∃ v4, σ = [some (.ref x), some (.int (p.length : Nat)), some (.ref D), some (.int (0 + (i : Int))), v4] ∧ H'' D = some (.lst (natsV (Jm.cnt p.length (Jm.landKs p i ++ (b.take j).map fun h => (i + h) % p.length)))))
        ⟨s2, v4, rfl, by rw [List.take_zero, List.map_nil, List.append_nil]; exact hDv⟩ (fun j σ H'' _ ⟨s3, _⟩ => SqL.of (s3 _ _ e4)) ?_ ?_
      · rintro j w σ H'' hj ⟨s3, v5, rfl, hDw⟩
        obtain ⟨n, en', rfl⟩ := natsV_get hj
        have hlt : (i + n) % p.length < p.length := Nat.mod_lt _ hp1
        refine ⟨_, rfl, _, rfl, _, rfl, _, _, rfl, rfl, _, rfl, _, _, rfl, rfl, by show (0 : Int) < (p.length : Nat); omega, ?_⟩
        have em : (0 + (i : Int) + (n : Int)) % ((p.length : Nat) : Int) = (((i + n) % p.length : Nat) : Int) := by
          rw [Int.natCast_emod]
          congr 1
          omega
        refine ⟨D, _, (i + n) % p.length, _, rfl, congrArg V.int em, SqL.of hDw, natsV_at (Jm.cnt_at _ hlt), _, _, rfl, rfl, D, _, _, (i + n) % p.length, rfl, congrArg V.int em, hDw, ?_, ?_⟩
        · rw [natsV_length, Jm.cnt_length]
          exact ixN_nat hlt
        · refine ⟨s3.own hDH, _, rfl, ?_⟩
          rw [upd_same, bump_ok hlt, take_snoc en', List.map_append, ← List.append_assoc]
          rfl
      · rintro σ H'' ⟨s3, v5, rfl, hDw⟩
        refine ⟨s3, _, _, rfl, ?_⟩
        rw [natsV_length, List.take_length, ← e3] at hDw
        rw [Jm.landKs_succ]
        exact hDw
    · rintro σ H' ⟨s2, v3, v4, rfl, hDv⟩
      exact ⟨_, rfl, k D H' s2 hDH hDv⟩
end
end Jp

set_option Elab.async false
set_option linter.all false
set_option maxRecDepth 100000
set_option maxHeartbeats 4000000
namespace Jp
open PySem PySem.Spec PyProof.Rows L2
section
variable {P : Program} {w : World} {K : PySem.W.Frag} {mg : Str → Option Value} {base : Heap}
def sp_wrong_beat (K : PySem.W.Frag) : Sp := fun vs H Q _ => ∃ (v : V) (p : Jug.Pattern), vs = [v] ∧ PatAt H v p ∧ (∀ b ∈ p, Jm.GoodBeat b) ∧ 1 ≤ p.length ∧ p.length ≤ 16 ∧
  ∀ H', Same H H' → (∀ k, Jug.clash p = some k → Q (.int (k : Nat)) H') ∧ (Jug.clash p = none → Q (.int (-1)) H')
theorem sc_wrong_beat : FnScope ["beats", "landing", "beat"] ["beats"] (defScope s_wrong_beat) := ⟨rfl, rfl, rfl, by decide +kernel, rfl, by decide +kernel, by decide +kernel⟩
theorem ok_wrong_beat {f : Addr} {fd : FuncData} (F : Fun K "wrong_beat" "wrong_beat" s_wrong_beat f fd) (T : Txt mg) (d_landing_counts : Def P w K mg base "landing_counts" ["beats"] 1 (sp_landing_counts K)) : FnOk P w K mg base CX0 2 f fd ["beats"] (sp_wrong_beat K) := by
  have sc := sc_wrong_beat
  refine F.ok sc (fun vs H Q E h => ?_) (fun cdv A outer s H vs Q E hr h => ?_)
  · obtain ⟨v, p, rfl, _⟩ := h
    rfl
  · obtain ⟨v, p, rfl, hPat, hG, hp1, hp16, k⟩ := h
    refine ⟨_, (pss_cons (ps_set (i := 1) sc.nd rfl (by first | exact Or.inl rfl | exact Or.inr rfl) (pcall d_landing_counts (hr.mono (by decide)) (pa_cons (pv 0) pa_nil)))
      (pss_cons (ps_for PassesOwn.never rfl (pi_range1 rfl T.b_range (pa_cons (pe_callB call_len_seq (by rfl) T.b_len PySem.boot_len (pa_cons (pv 0) pa_nil)) pa_nil)) (pg_name (i := 2) sc.nd rfl (by first | exact Or.inl rfl | exact Or.inr rfl))
      (pss_one (ps_if (pt_cmp (pc_neI (pe_ix ix_list (pv 1) (pv 2) (fun _ _ => rfl)) (pe_callB call_len_seq (by rfl) T.b_len PySem.boot_len (pa_cons (pe_ix ix_list (pv 0) (pv 2) (fun _ _ => rfl)) pa_nil)))) (pss_one (ps_ret (pv 2))) pss_nil)))
      (pss_one (ps_ret (pe_un un_neg pe_int))))), ?_⟩
    refine ⟨_, rfl, v, p, rfl, hPat, hG, hp1, hp16, fun D H1 s1 hDn hD => ?_⟩
    obtain ⟨x, ws, rfl, hx, hP⟩ := hPat
    have hl := hP.length
    refine ⟨_, rfl, _, _, rfl, .inl (SqL.of (s1 _ _ hx)), ?_⟩
    rw [hl]
    refine ⟨_, rfl, by omega, by omega, ?_⟩
    have en : ((p.length : Int)).toNat = p.length := by omega
    rw [en]
    refine for_range (fun i σ H' => H' = H1 ∧ (∃ v3, σ = [some (.ref x), some (.ref D), v3]) ∧ ∀ j, j < i → Jug.landing p j = (p.getD j []).length) ⟨rfl, ⟨none, rfl⟩, fun j hj => absurd hj (by omega)⟩ ?_ ?_
    · rintro i σ H' hi ⟨rfl, ⟨v3, rfl⟩, hj⟩
      obtain ⟨y, b, e1, e2, e3, e4⟩ := PatAt.at (x := x) hP hi
      have hat : atI ws (0 + (i : Int)) = some (V.ref y) := at_of (j := i) (by omega) e1
      have hat2 : atI (natsV (Jm.cnt p.length (Jm.landKs p p.length))) (0 + (i : Int)) = some (V.int ((Jm.landKs p p.length).count i : Nat)) := at_of (j := i) (by omega) (natsV_at (Jm.cnt_at _ hi))
      rw [← Jm.landing_count] at hat2
      refine ⟨_, rfl, _, rfl, D, _, _, _, rfl, rfl, SqL.of hD, hat2, _, rfl, _, rfl, x, _, _, _, rfl, rfl, SqL.of (s1 _ _ hx), hat, _, _, rfl, .inl (SqL.of (s1 _ _ e4)), _, _, rfl, rfl, _, rfl, ite2 (fun hc => ?_) (fun hc => ?_)⟩
      · refine ⟨_, rfl, ?_⟩
        have hne : Jug.landing p i ≠ (p.getD i []).length := fun e => by
          rw [e3] at e
          have e : ((Jug.landing p i : Nat) : Int) = ((natsV b).length : Nat) := by rw [natsV_length, e]
          simp [e] at hc
        have hcl : Jug.clash p = some i := by
          unfold Jug.clash
          rw [List.find?_range_eq_some]
          refine ⟨by simpa using hne, by simpa using hi, fun j hj' => by simpa using hj j hj'⟩
        have := (k H' s1).1 i hcl
        rw [Int.zero_add]
        exact this
      · refine ⟨rfl, ⟨_, rfl⟩, fun j hj' => ?_⟩
        by_cases e : j = i
        · subst e
          have hc : ¬ ((!decide (((Jug.landing p j : Nat) : Int) = ((natsV b).length : Nat))) = true) := hc
          rw [e3]
          rw [natsV_length] at hc
          simp at hc
          omega
        · exact hj j (by omega)
    · rintro σ H' ⟨rfl, ⟨v3, rfl⟩, hj⟩
      have hcl : Jug.clash p = none := by
        unfold Jug.clash
        rw [List.find?_range_eq_none]
        intro j hj'
        simpa using hj j hj'
      exact ⟨_, rfl, (k H' s1).2 hcl⟩
end
end Jp

set_option Elab.async false
set_option linter.all false
set_option maxRecDepth 100000
set_option maxHeartbeats 4000000
namespace Jp
open PySem PySem.Spec PyProof.Rows L2
section
variable {P : Program} {w : World} {K : PySem.W.Frag} {mg : Str → Option Value} {base : Heap}
def sp_pattern_refusal (K : PySem.W.Frag) : Sp := fun vs H Q _ => ∃ (a : Addr) (t : List Int), vs = [.ref a] ∧ SqL K H a (t.map V.int) ∧ Jm.Ok8 t ∧ t.length ≤ 64 ∧
  ∀ v H', Same H H' → IntsAt H' v (Jm.refusal t) → Q v H'
theorem sc_pattern_refusal : FnScope ["t", "fault", "wrong"] ["t"] (defScope s_pattern_refusal) := ⟨rfl, rfl, rfl, by decide +kernel, rfl, by decide +kernel, by decide +kernel⟩
theorem ok_pattern_refusal {f : Addr} {fd : FuncData} (F : Fun K "pattern_refusal" "pattern_refusal" s_pattern_refusal f fd) (T : Txt mg) (d_text_fault : Def P w K mg base "text_fault" ["t"] 4 (sp_text_fault K)) (d_wrong_beat : Def P w K mg base "wrong_beat" ["beats"] 2 (sp_wrong_beat K)) (d_read_beats : Def P w K mg base "read_beats" ["t"] 2 (sp_read_beats K)) : FnOk P w K mg base CX0 5 f fd ["t"] (sp_pattern_refusal K) := by
  have sc := sc_pattern_refusal
  refine F.ok sc (fun vs H Q E h => ?_) (fun cdv A outer s H vs Q E hr h => ?_)
  · obtain ⟨a, t, rfl, _⟩ := h
    rfl
  · obtain ⟨a, t, rfl, hS, h8, h64, k⟩ := h
    refine ⟨_, (pss_cons (ps_set (i := 1) sc.nd rfl (by first | exact Or.inl rfl | exact Or.inr rfl) (pcall d_text_fault (hr.mono (by decide)) (pa_cons (pv 0) pa_nil)))
      (pss_cons (ps_if (pt_cmp (pc_ge (pv 1) pe_int)) (pss_one (ps_ret (pe_lst (pa_cons (pe_un un_neg pe_int) (pa_cons (pv 1) pa_nil))))) pss_nil)
      (pss_cons (ps_set (i := 2) sc.nd rfl (by first | exact Or.inl rfl | exact Or.inr rfl) (pcall d_wrong_beat (hr.mono (by decide)) (pa_cons (pcall d_read_beats (hr.mono (by decide)) (pa_cons (pv 0) pa_nil)) pa_nil)))
      (pss_cons (ps_if (pt_cmp (pc_ge (pv 2) pe_int)) (pss_one (ps_ret (pe_lst (pa_cons (pe_un un_neg pe_int) (pa_cons (pv 2) pa_nil))))) pss_nil)
      (pss_one (ps_ret (pe_lst pa_nil))))))), ?_⟩
    refine ⟨_, rfl, a, t, rfl, hS, h8, h64, fun e he => ?_, fun p hp => ?_⟩
    · refine ⟨_, rfl, _, _, rfl, rfl, _, rfl, ite2 (fun hc => ?_) (fun hc => ?_)⟩
      · refine ⟨_, rfl, _, rfl, by show 2 ≤ sizeLine; decide, fun z hz => k _ _ ((Same.refl H).new hz) ⟨z, rfl, ?_⟩⟩
        rw [upd_same]
        unfold Jm.refusal
        rw [he]
        rfl
      · exact absurd (decide_eq_true (show (0 : Int) ≤ (e : Nat) by omega)) hc
    · refine ⟨_, rfl, _, _, rfl, rfl, _, rfl, ite2 (fun hc => ?_) (fun hc => ?_)⟩
      · have hc := of_decide_eq_true hc
        omega
      · obtain ⟨hG, g1, g2⟩ := Jm.read_good h8 hp
        refine ⟨_, rfl, a, t, p, rfl, hS, h8, h64, hp, fun v H1 s1 hPat => ⟨v, p, rfl, hPat, hG, g1, g2, fun H2 s2 => ⟨fun c hcl => ?_, fun hcl => ?_⟩⟩⟩
        · refine ⟨_, rfl, _, _, rfl, rfl, _, rfl, ite2 (fun hd => ?_) (fun hd => ?_)⟩
          · refine ⟨_, rfl, _, rfl, by show 2 ≤ sizeLine; decide, fun z hz => k _ _ ((s1.trans s2).new hz) ⟨z, rfl, ?_⟩⟩
            rw [upd_same]
            unfold Jm.refusal
            rw [hp]
            dsimp only
            rw [hcl]
            rfl
          · exact absurd (decide_eq_true (show (0 : Int) ≤ (c : Nat) by omega)) hd
        · refine ⟨_, rfl, _, _, rfl, rfl, _, rfl, ite2 (fun hd => ?_) (fun hd => ?_)⟩
          · have hd := of_decide_eq_true hd
            omega
          · refine ⟨Nat.zero_le _, fun z hz => k _ _ ((s1.trans s2).new hz) ⟨z, rfl, ?_⟩⟩
            rw [upd_same]
            unfold Jm.refusal
            rw [hp]
            dsimp only
            rw [hcl]
            rfl
end
end Jp

set_option Elab.async false
set_option linter.all false
set_option maxRecDepth 100000
set_option maxHeartbeats 4000000
namespace Jp
open PySem PySem.Spec PyProof.Rows L2
section
variable {P : Program} {w : World} {K : PySem.W.Frag} {mg : Str → Option Value} {base : Heap}
def sp_root_of (K : PySem.W.Frag) : Sp := fun vs H Q _ => ∃ (v : V) (p : Jug.Pattern), vs = [v] ∧ PatAt H v p ∧ 1 ≤ p.length ∧ p.length ≤ 16 ∧
  ∀ v H', Same H H' → PatAt H' v (Jug.root p) → Q v H'
theorem sc_root_of : FnScope ["beats", "period", "part"] ["beats"] (defScope s_root_of) := ⟨rfl, rfl, rfl, by decide +kernel, rfl, by decide +kernel, by decide +kernel⟩
theorem ok_root_of {f : Addr} {fd : FuncData} (F : Fun K "root_of" "root_of" s_root_of f fd) (T : Txt mg) : FnOk P w K mg base CX0 1 f fd ["beats"] (sp_root_of K) := by
  have sc := sc_root_of
  refine F.ok sc (fun vs H Q E h => ?_) (fun cdv A outer s H vs Q E hr h => ?_)
  · obtain ⟨v, p, rfl, _⟩ := h
    rfl
  · obtain ⟨v, p, rfl, ⟨x, ws, rfl, hx, hP⟩, hp1, hp16, k⟩ := h
    refine ⟨_, (pss_cons (ps_set (i := 1) sc.nd rfl (by first | exact Or.inl rfl | exact Or.inr rfl) (pe_callB call_len_seq (by rfl) T.b_len PySem.boot_len (pa_cons (pv 0) pa_nil)))
      (pss_cons (ps_for PassesOwn.never rfl (pi_range2 rfl T.b_range (pa_cons pe_int (pa_cons (pv 1) pa_nil))) (pg_name (i := 2) sc.nd rfl (by first | exact Or.inl rfl | exact Or.inr rfl))
      (pss_one (ps_if (pt_cmpR (op_eqD hr.units) (pe_op op_rep (pe_slice sl_list (pv 0) po_none (po_some (pv 2))) (pe_op op_fdiv (pv 1) (pv 2))) (pv 0) (nomark _)) (pss_one (ps_ret (pe_slice sl_list (pv 0) po_none (po_some (pv 2))))) pss_nil)))
      (pss_one (ps_ret (pe_callTy call_list_of (by rfl) T.b_list PyProof.Rows.boot_list (pa_cons (pv 0) pa_nil)))))), ?_⟩
    have hl := hP.length
    refine ⟨_, rfl, _, _, rfl, .inl (SqL.of hx), ?_⟩
    rw [hl]
    refine ⟨_, rfl, 1, _, rfl, ⟨by omega, by omega, by omega, by omega⟩, ?_⟩
    refine for_range (lo := 1) (n := ((p.length : Int) - 1).toNat) (fun i σ H' => Same H H' ∧ (∃ v2, σ = [some (.ref x), some (.int (p.length : Nat)), v2]) ∧ ∀ e, 1 ≤ e → e < i + 1 → (List.replicate (p.length / e) (p.take e)).flatten ≠ p)
      ⟨Same.refl H, ⟨none, rfl⟩, fun e h1 h2 => absurd h2 (by omega)⟩ ?_ ?_
    · rintro i σ H' hi ⟨s1, ⟨v2, rfl⟩, hno⟩
      have eI : (1 + (i : Int)) = ((i + 1 : Nat) : Int) := by omega
      rw [eI]
      have hP1 : Paired (BeatAt H') ws p := Paired.imp' (fun _ _ q => q.same s1) hP
      refine ⟨_, rfl, _, rfl, _, rfl, x, _, rfl, SqL.of (s1 _ _ hx), fun c hc => ?_⟩
      rw [cut_take (show i + 1 ≤ ws.length by omega)]
      refine ⟨_, rfl, _, rfl, _, _, rfl, rfl, ⟨by show (0 : Int) < _; omega, by show _ < (1073741824 : Int); omega⟩, ?_⟩
      have eD : ((p.length : Nat) : Int) / ((i + 1 : Nat) : Int) = ((p.length / (i + 1) : Nat) : Int) := by rw [Int.natCast_ediv]
      have hq : p.length / (i + 1) ≤ p.length := Nat.div_le_self _ _
      have hq0 : (0 : Int) ≤ ((p.length / (i + 1) : Nat) : Int) := Int.natCast_nonneg _
      have hq1 : ((p.length / (i + 1) : Nat) : Int) ≤ 16 := by exact_mod_cast Nat.le_trans hq hp16
      refine ⟨c, ((p.length / (i + 1) : Nat) : Int), _, rfl, congrArg V.int eD, upd_same, Int.le_trans (by decide) hq0, Int.lt_of_le_of_lt hq1 (by decide), ?_, fun d hd => ?_⟩
      · rw [List.length_take]
        have h1 : min (i + 1) ws.length ≤ 16 := by omega
        have h2 : (((p.length / (i + 1) : Nat) : Int)).toNat ≤ 16 := by rw [Int.toNat_natCast]; exact Nat.le_trans hq hp16
        have h3 := Nat.mul_le_mul h1 h2
        exact Nat.le_trans h3 (by decide)
      have eT : (((p.length / (i + 1) : Nat) : Int)).toNat = p.length / (i + 1) := Int.toNat_natCast _
      rw [eT]
      have s2 : Same H' (upd (upd H' c (.lst (ws.take (i + 1)))) d (.lst (List.replicate (p.length / (i + 1)) (ws.take (i + 1))).flatten)) := ((Same.refl H').new hc).new hd
      have P1 : PatAt (upd (upd H' c (.lst (ws.take (i + 1)))) d (.lst (List.replicate (p.length / (i + 1)) (ws.take (i + 1))).flatten)) (.ref d) (List.replicate (p.length / (i + 1)) (p.take (i + 1))).flatten :=
        ⟨d, _, rfl, upd_same, Paired.imp' (fun _ _ q => q.same s2) (Paired.rep (Paired.take (i + 1) hP1) _)⟩
      have P2 : PatAt (upd (upd H' c (.lst (ws.take (i + 1)))) d (.lst (List.replicate (p.length / (i + 1)) (ws.take (i + 1))).flatten)) (.ref x) p :=
        ⟨x, ws, rfl, s2 _ _ (s1 _ _ hx), Paired.imp' (fun _ _ q => q.same s2) hP1⟩
      refine ⟨_, rfl, _, _, P1.dp, P2.dp, pat_shaped _, pat_shaped _, _, rfl, ?_⟩
      rw [pat_eqv]
      refine ite2 (fun hc' => ?_) (fun hc' => ?_)
      · have hc' := of_decide_eq_true hc'
        refine ⟨_, rfl, _, rfl, _, rfl, x, _, rfl, SqL.of (s2 _ _ (s1 _ _ hx)), fun g hg => ?_⟩
        rw [cut_take (show i + 1 ≤ ws.length by omega)]
        refine k _ _ ((s1.trans s2).new hg) ⟨g, _, rfl, upd_same, ?_⟩
        rw [Jm.root_some p (i + 1) (by omega) (by omega) (by omega) hc' hno]
        exact Paired.imp' (fun _ _ q => q.same (s2.new hg)) (Paired.take (i + 1) hP1)
      · have hc' : ¬ _ := fun q => hc' (decide_eq_true q)
        refine ⟨s1.trans s2, ⟨_, rfl⟩, fun e h1 h2 => ?_⟩
        by_cases he : e = i + 1
        · rw [he]
          exact hc'
        · exact hno e h1 (by omega)
    · rintro σ H' ⟨s1, ⟨v2, rfl⟩, hno⟩
      refine ⟨_, rfl, x, _, rfl, .inl (SqL.of (s1 _ _ hx)), fun g hg => ?_⟩
      refine k _ _ (s1.new hg) ⟨g, _, rfl, upd_same, ?_⟩
      rw [Jm.root_self p (by omega) (fun e h1 h2 => hno e h1 (by omega))]
      exact Paired.imp' (fun _ _ q => q.same (s1.new hg)) hP
end
end Jp

set_option Elab.async false
set_option linter.all false
set_option maxRecDepth 100000
set_option maxHeartbeats 4000000
namespace Jp
open PySem PySem.Spec PyProof.Rows L2
section
variable {P : Program} {w : World} {K : PySem.W.Frag} {mg : Str → Option Value} {base : Heap}
def sp_state_before (K : PySem.W.Frag) : Sp := fun vs H Q _ => ∃ (v : V) (p : Jug.Pattern) (m : Nat), vs = [v, .int (m : Nat)] ∧ PatAt H v p ∧ (∀ b ∈ p, Jm.GoodBeat b) ∧ 1 ≤ p.length ∧ p.length ≤ 16 ∧
  ∀ (x : Addr) H', Same H H' → H x = none → H' x = some (.tup (natsV (Jug.airAt p (m % p.length)))) → Q (.ref x) H'
theorem sc_state_before : FnScope ["beats", "moment", "state", "ago", "height"] ["beats", "moment"] (defScope s_state_before) := ⟨rfl, rfl, rfl, by decide +kernel, rfl, by decide +kernel, by decide +kernel⟩
theorem ok_state_before {f : Addr} {fd : FuncData} (F : Fun K "state_before" "state_before" s_state_before f fd) (T : Txt mg) : FnOk P w K mg base CX0 1 f fd ["beats", "moment"] (sp_state_before K) := by
  have sc := sc_state_before
  refine F.ok sc (fun vs H Q E h => ?_) (fun cdv A outer s H vs Q E hr h => ?_)
  · obtain ⟨v, p, m, rfl, _⟩ := h
    rfl
  · obtain ⟨v, p, m, rfl, ⟨x, ws, rfl, hx, hP⟩, hG, hp1, hp16, k⟩ := h
    refine ⟨_, (pss_cons (ps_set (i := 2) sc.nd rfl (by first | exact Or.inl rfl | exact Or.inr rfl) (pe_op op_rep (pe_lst (pa_cons pe_int pa_nil)) (pgl T.c_SPAN)))
      (pss_cons (ps_for PassesOwn.never rfl (pi_range2 rfl T.b_range (pa_cons pe_int (pa_cons (pe_op op_add (pgl T.c_SPAN) pe_int) pa_nil))) (pg_name (i := 3) sc.nd rfl (by first | exact Or.inl rfl | exact Or.inr rfl))
      (pss_one (ps_for PassesOwn.never rfl (pi_list (pe_ix ix_list (pv 0) (pe_op op_mod (pe_op op_sub (pv 1) (pv 3)) (pe_callB call_len_seq (by rfl) T.b_len PySem.boot_len (pa_cons (pv 0) pa_nil))) (fun _ _ => rfl))) (pg_name (i := 4) sc.nd rfl (by first | exact Or.inl rfl | exact Or.inr rfl))
      (pss_one (ps_if (pt_cmp (pc_ge (pv 4) (pv 3))) (pss_one (ps_augS (pv 2) (pe_op op_sub (pv 4) (pv 3)) get_list pe_int ip_add set_list)) pss_nil)))))
      (pss_one (ps_ret (pe_callTy call_tuple_of (by rfl) T.b_tuple PyProof.Rows.boot_tuple (pa_cons (pv 2) pa_nil)))))), ?_⟩
    have hl := hP.length
    refine ⟨by show 1 ≤ sizeLine; decide, fun z hz => ⟨z, _, _, rfl, rfl, upd_same, by omega, by omega, by decide, fun D hD => ?_⟩⟩
    have e15 : (15 : Int).toNat = 15 := rfl
    rw [e15, rep_zero]
    have s0 : Same H (upd H z (.lst [.int 0])) := (Same.refl H).new hz
    have hDH : H D = none := s0.free hD
    have s1 := s0.new (o := .lst (natsV (Jm.cnt 15 []))) hD
    refine ⟨_, _, rfl, rfl, 1, 15 + 1, rfl, ⟨by omega, by omega, by omega, by omega⟩, ?_⟩
    refine for_range (lo := 1) (n := 15) (fun i σ H' => Same H H' ∧ ∃ v3 v4, σ = [some (.ref x), some (.int (m : Nat)), some (.ref D), v3, v4] ∧ H' D = some (.lst (natsV (Jm.cnt 15 (Jm.airKs p (m % p.length) i))))) ⟨s1, none, none, rfl, upd_same⟩ ?_ ?_
    · rintro i σ H' hi ⟨s2, v3, v4, rfl, hDv⟩
      have hbi := Jm.backIx_lt hp1 (m % p.length) i
      obtain ⟨y, b, e1, e2, e3, e4⟩ := PatAt.at (x := x) hP hbi
      have hat : atI ws ((((m : Nat) : Int) - (1 + (i : Int))) % ((ws.length : Nat) : Int)) = some (V.ref y) := at_of (j := Jm.backIx p (m % p.length) i) (by rw [hl]; exact Jm.backIx_int hp1 (by omega)) e1
      obtain ⟨g1, g2, g3⟩ := hG b (List.mem_of_getElem? e2)
      refine ⟨_, rfl, _, rfl, _, rfl, _, _, rfl, rfl, _, rfl, _, _, rfl, .inl (SqL.of (s2 _ _ hx)), _, _, rfl, rfl, by show (0 : Int) < (ws.length : Nat); omega, x, _, _, _, rfl, rfl, SqL.of (s2 _ _ hx), hat, y, rfl, ⟨_, SqL.of (s2 _ _ e4)⟩, ?_⟩
      refine for_list (xs := natsV b) (fun j σ H'' => Same H H'' ∧ ∃ v4, σ = [some (.ref x), some (.int (m : Nat)), some (.ref D), some (.int (1 + (i : Int))), v4] ∧ H'' D = some (.lst (natsV (Jm.cnt 15 (Jm.airKs p (m % p.length) i ++ ((b.take j).filter fun h => decide (i + 1 ≤ h)).map fun h => h - (i + 1))))))
        ⟨s2, v4, rfl, by rw [List.take_zero, List.filter_nil, List.map_nil, List.append_nil]; exact hDv⟩ (fun j σ H'' _ ⟨s3, _⟩ => SqL.of (s3 _ _ e4)) ?_ ?_
      · rintro j w σ H'' hj ⟨s3, v5, rfl, hDw⟩
        obtain ⟨n, en', rfl⟩ := natsV_get hj
        have hn := g2 n (List.mem_of_getElem? en')
        refine ⟨_, rfl, _, rfl, _, _, rfl, rfl, _, rfl, ite2 (fun hc => ?_) (fun hc => ?_)⟩
        · have hc : (1 + (i : Int)) ≤ (n : Int) := of_decide_eq_true hc
          have hlt : n - (i + 1) < 15 := by omega
          have em : ((n : Nat) : Int) - (1 + (i : Int)) = ((n - (i + 1) : Nat) : Int) := by omega
          refine ⟨_, rfl, _, rfl, _, rfl, _, _, rfl, rfl, ?_⟩
          refine ⟨D, _, n - (i + 1), _, rfl, congrArg V.int em, SqL.of hDw, natsV_at (Jm.cnt_at _ hlt), _, _, rfl, rfl, D, _, _, n - (i + 1), rfl, congrArg V.int em, hDw, ?_, ?_⟩
          · rw [natsV_length, Jm.cnt_length]
            exact ixN_nat hlt
          · refine ⟨s3.own hDH, _, rfl, ?_⟩
            rw [upd_same, bump_ok hlt, take_snoc en', List.filter_append, List.filter_cons, if_pos (decide_eq_true (by omega)), List.map_append, ← List.append_assoc]
            rfl
        · have hc : ¬ (1 + (i : Int)) ≤ (n : Int) := fun q => hc (decide_eq_true q)
          refine ⟨s3, _, rfl, ?_⟩
          rw [take_snoc en', List.filter_append, List.filter_cons, if_neg (by simp; omega), List.filter_nil, List.append_nil]
          exact hDw
      · rintro σ H'' ⟨s3, v5, rfl, hDw⟩
        refine ⟨s3, _, _, rfl, ?_⟩
        rw [natsV_length, List.take_length, ← e3] at hDw
        rw [Jm.airKs_succ]
        exact hDw
    · rintro σ H' ⟨s2, v3, v4, rfl, hDv⟩
      refine ⟨_, rfl, D, _, rfl, .inl ⟨SqL.of hDv, fun l hl' => ?_⟩⟩
      refine k l _ (s2.new hl') (s2.free hl') ?_
      rw [upd_same, Jm.airAt_cnt]
end
end Jp

set_option Elab.async false
set_option linter.all false
set_option maxRecDepth 100000
set_option maxHeartbeats 4000000
namespace Jp
open PySem PySem.Spec PyProof.Rows L2
section
variable {P : Program} {w : World} {K : PySem.W.Frag} {mg : Str → Option Value} {base : Heap}
def sp_different_states (K : PySem.W.Frag) : Sp := fun vs H Q _ => ∃ (v : V) (p : Jug.Pattern), vs = [v] ∧ PatAt H v p ∧ (∀ b ∈ p, Jm.GoodBeat b) ∧ 1 ≤ p.length ∧ p.length ≤ 16 ∧
  ∀ H', Same H H' → Q (.int ((Jug.statesOf p : Nat) : Int)) H'
theorem sc_different_states : FnScope ["beats", "moment"] ["beats"] (defScope s_different_states) := ⟨rfl, rfl, rfl, by decide +kernel, rfl, by decide +kernel, by decide +kernel⟩
theorem ok_different_states {f : Addr} {fd : FuncData} (F : Fun K "different_states" "different_states" s_different_states f fd) (T : Txt mg) (d_state_before : Def P w K mg base "state_before" ["beats", "moment"] 1 (sp_state_before K)) : FnOk P w K mg base CX0 2 f fd ["beats"] (sp_different_states K) := by
  have sc := sc_different_states
  refine F.ok sc (fun vs H Q E h => ?_) (fun cdv A outer s H vs Q E hr h => ?_)
  · obtain ⟨v, p, rfl, _⟩ := h
    rfl
  · obtain ⟨v, p, rfl, ⟨x, ws, rfl, hx, hP⟩, hG, hp1, hp16, k⟩ := h
    refine ⟨_, (pss_one (ps_ret (pe_lenSet rfl hr.units (by rfl) T.b_len (by rfl) T.b_set (pa_cons (pe_lc rfl sc.nd (pi_range1 rfl T.b_range (pa_cons (pe_callB call_len_seq (by rfl) T.b_len PySem.boot_len (pa_cons (pv 0) pa_nil)) pa_nil)) (own := [("moment", 1)]) (blkOk_by (N := ["beats", "moment"]) (sc := defScope s_different_states) (by decide +kernel)) (fun _ _ _ _ _ => pg_name (i := 1) sc.nd rfl (by first | exact Or.inl rfl | exact Or.inr rfl)) (fun _ _ _ _ _ => pts_nil) (fun _ _ _ _ _ => (pcall d_state_before (hr.mono (by decide)) (pa_cons (pv 0) (pa_cons (pv 1) pa_nil))))) pa_nil)))), ?_⟩
    have hl := hP.length
    refine ⟨_, rfl, _, _, rfl, .inl (SqL.of hx), _, rfl, by omega, by omega, fun D hD => ?_⟩
    have en : ((ws.length : Nat) : Int).toNat = ws.length := by omega
    rw [en]
    refine lc_range (fun i H' => Same H H' ∧ ∃ ys : List Addr, ys.length = i ∧ H' D = some (.lst (ys.map V.ref)) ∧ ∀ (j : Nat) (y : Addr), ys[j]? = some y → y ≠ D ∧ H' y = some (.tup (natsV (Jug.airAt p (j % p.length)))))
      ⟨(Same.refl H).new hD, [], rfl, upd_same, fun j y h => by simp at h⟩ ?_ ?_
    · rintro i H' hi ⟨s2, ys, hyl, hDv, hys⟩
      refine ⟨rfl, ?_⟩
      unfold tYes
      dsimp only
      rw [if_pos rfl]
      refine ⟨_, rfl, _, rfl, .ref x, p, i, by rw [Int.zero_add]; rfl, ⟨x, ws, rfl, s2 _ _ hx, Paired.imp' (fun _ _ q => q.same s2) hP⟩, hG, hp1, hp16, fun y H2 s3 hy0 hy => ?_⟩
      have hyD : y ≠ D := fun e => by rw [e, hDv] at hy0; cases hy0
      refine ⟨_, s3 _ _ hDv, ?_, (s2.trans s3).own hD, ys ++ [y], by rw [List.length_append, hyl]; rfl, ?_, fun j z hz => ?_⟩
      · rw [List.length_map]
        exact small1000 (by omega)
      · rw [upd_same, List.map_append]
        rfl
      · by_cases hj : j < ys.length
        · rw [List.getElem?_append_left hj] at hz
          obtain ⟨a1, a2⟩ := hys j z hz
          exact ⟨a1, by rw [upd_ne a1]; exact s3 _ _ a2⟩
        · have hjl := (List.getElem?_eq_some_iff.mp hz).1
          rw [List.length_append] at hjl
          have ej : j = ys.length := by simp at hjl; omega
          subst ej
          rw [List.getElem?_append_right (Nat.le_refl _), Nat.sub_self] at hz
          cases hz
          refine ⟨hyD, ?_⟩
          rw [upd_ne hyD, hy, hyl]
    · rintro H' ⟨s2, ys, hyl, hDv, hys⟩
      refine ⟨D, ys, fun j => Jug.airAt p (j % p.length), rfl, hDv, by omega, fun j y hj => (hys j y hj).2, ?_⟩
      have e : ys.length = p.length := by omega
      rw [e, Jst.states_met]
      exact k _ s2
end
end Jp

set_option Elab.async false
set_option linter.all false
set_option maxRecDepth 100000
set_option maxHeartbeats 4000000
namespace Jp
open PySem PySem.Spec PyProof.Rows L2
section
variable {P : Program} {w : World} {K : PySem.W.Frag} {mg : Str → Option Value} {base : Heap}
def sp_prime (K : PySem.W.Frag) : Sp := fun vs H Q _ => ∃ (a : Addr) (t : List Int), vs = [.ref a] ∧ SqL K H a (t.map V.int) ∧ Jm.Ok8 t ∧ t.length ≤ 64 ∧
  ∀ v H', IntsAt H' v (PyWrjugg.prime t) → Q v H'
theorem sc_prime : FnScope ["t", "refusal", "beats", "root"] ["t"] (defScope s_prime) := ⟨rfl, rfl, rfl, by decide +kernel, rfl, by decide +kernel, by decide +kernel⟩
theorem ok_prime {f : Addr} {fd : FuncData} (F : Fun K "prime" "prime" s_prime f fd) (T : Txt mg) (d_pattern_refusal : Def P w K mg base "pattern_refusal" ["t"] 5 (sp_pattern_refusal K)) (d_read_beats : Def P w K mg base "read_beats" ["t"] 2 (sp_read_beats K)) (d_root_of : Def P w K mg base "root_of" ["beats"] 1 (sp_root_of K)) (d_different_states : Def P w K mg base "different_states" ["beats"] 2 (sp_different_states K)) : FnOk P w K mg base CX0 6 f fd ["t"] (sp_prime K) := by
  have sc := sc_prime
  refine F.ok sc (fun vs H Q E h => ?_) (fun cdv A outer s H vs Q E hr h => ?_)
  · obtain ⟨a, t, rfl, _⟩ := h
    rfl
  · obtain ⟨a, t, rfl, hS, h8, h64, k⟩ := h
    refine ⟨_, (pss_cons (ps_set (i := 1) sc.nd rfl (by first | exact Or.inl rfl | exact Or.inr rfl) (pcall d_pattern_refusal (hr.mono (by decide)) (pa_cons (pv 0) pa_nil)))
      (pss_cons (ps_if (pt_cmp (pc_gt (pe_callB call_len_seq (by rfl) T.b_len PySem.boot_len (pa_cons (pv 1) pa_nil)) pe_int)) (pss_one (ps_ret (pv 1))) pss_nil)
      (pss_cons (ps_set (i := 2) sc.nd rfl (by first | exact Or.inl rfl | exact Or.inr rfl) (pcall d_read_beats (hr.mono (by decide)) (pa_cons (pv 0) pa_nil)))
      (pss_cons (ps_set (i := 3) sc.nd rfl (by first | exact Or.inl rfl | exact Or.inr rfl) (pcall d_root_of (hr.mono (by decide)) (pa_cons (pv 2) pa_nil)))
      (pss_one (ps_ret (pe_lst (pa_cons (pe_ifExp (pt_cmp (pc_eqI (pcall d_different_states (hr.mono (by decide)) (pa_cons (pv 3) pa_nil)) (pe_callB call_len_seq (by rfl) T.b_len PySem.boot_len (pa_cons (pv 3) pa_nil)))) pe_int pe_int) (pa_cons (pcall d_different_states (hr.mono (by decide)) (pa_cons (pv 2) pa_nil)) pa_nil))))))))), ?_⟩
    have ef : PyWrjugg.prime t = Jug.of (Jm.by8 t) (fun p => Jug.nats [if Jug.statesOf (Jug.root p) = (Jug.root p).length then 1 else 0, Jug.statesOf p]) := rfl
    rw [ef] at k
    refine ⟨_, rfl, a, t, rfl, hS, h8, h64, fun v H1 s1 hv => ?_⟩
    obtain ⟨x, rfl, hx⟩ := hv
    refine ⟨_, rfl, _, _, rfl, .inl (SqL.of hx), _, _, rfl, rfl, _, rfl, ite2 (fun hc => ?_) (fun hc => ?_)⟩
    · have hne : Jm.refusal t ≠ [] := fun e => by
        rw [e] at hc
        exact absurd (of_decide_eq_true hc) (by decide)
      rw [Jm.of_refused hne] at k
      exact ⟨_, rfl, k _ _ ⟨x, rfl, hx⟩⟩
    · have he : Jm.refusal t = [] := by
        cases e : Jm.refusal t with
        | nil => rfl
        | cons z r =>
          rw [e] at hc
          exact absurd (decide_eq_true (by simp)) hc
      obtain ⟨p, hp, hcl, eo⟩ := Jm.of_right (f := fun p => Jug.nats [if Jug.statesOf (Jug.root p) = (Jug.root p).length then 1 else 0, Jug.statesOf p]) he
      rw [eo] at k
      obtain ⟨hG, g1, g2⟩ := Jm.read_good h8 hp
      refine ⟨_, rfl, a, t, p, rfl, s1.seq hS, h8, h64, hp, fun v2 H2 s2 hPat => ?_⟩
      refine ⟨_, rfl, v2, p, rfl, hPat, g1, g2, fun w H3 s3 hR => ?_⟩
      obtain ⟨r1, r2⟩ := Jm.root_len (p := p) g1
      have hG2 : ∀ b ∈ Jug.root p, Jm.GoodBeat b := fun b hb => by
        unfold Jug.root at hb
        split at hb
        · exact hG b (List.mem_of_mem_take hb)
        · exact hG b hb
      refine ⟨_, rfl, w, Jug.root p, rfl, hR, hG2, r1, by omega, fun H4 s4 => ?_⟩
      have hR4 := hR.same s4
      obtain ⟨x, ws, rfl, hx, hP⟩ := hR4
      have hl := hP.length
      refine ⟨_, rfl, _, _, rfl, .inl (SqL.of hx), _, _, rfl, rfl, _, rfl, ite2 (fun hd => ?_) (fun hd => ?_)⟩
      · have hd : ((Jug.statesOf (Jug.root p) : Nat) : Int) = ((ws.length : Nat) : Int) := of_decide_eq_true hd
        rw [if_pos (by omega)] at k
        refine ⟨_, rfl, v2, p, rfl, hPat.same (s3.trans s4), hG, g1, g2, fun H5 s5 => ⟨by show 2 ≤ sizeLine; decide, fun z hz => k _ _ ⟨z, rfl, ?_⟩⟩⟩
        rw [upd_same]
        rfl
      · have hd : ¬ ((Jug.statesOf (Jug.root p) : Nat) : Int) = ((ws.length : Nat) : Int) := fun q => hd (decide_eq_true q)
        rw [if_neg (by omega)] at k
        refine ⟨_, rfl, v2, p, rfl, hPat.same (s3.trans s4), hG, g1, g2, fun H5 s5 => ⟨by show 2 ≤ sizeLine; decide, fun z hz => k _ _ ⟨z, rfl, ?_⟩⟩⟩
        rw [upd_same]
        rfl
end
end Jp

set_option Elab.async false
set_option linter.all false
set_option maxRecDepth 100000
set_option maxHeartbeats 4000000
namespace Jp
open PySem PySem.Spec PyProof.Rows L2
open PySem.W (Codec)
theorem all_mk {P : Program} {w : World} {K : PySem.W.Frag} {h : Heap} {mg : Str → Option Value} {fa : Addr} (X : K.In h) (G : h.Ns mainGlobals mg) (hfa : mg "prime" = some (.ref fa))
    {f_height_of : Addr} {od_height_of an_height_of : Option Addr} {sl_height_of : Array (Option Value)} {oc_height_of kV_height_of dc_height_of pm_height_of cd_height_of ct_height_of : Value}
    {f_bracket_fault : Addr} {od_bracket_fault an_bracket_fault : Option Addr} {sl_bracket_fault : Array (Option Value)} {oc_bracket_fault kV_bracket_fault dc_bracket_fault pm_bracket_fault cd_bracket_fault ct_bracket_fault : Value}
    {f_beat_fault : Addr} {od_beat_fault an_beat_fault : Option Addr} {sl_beat_fault : Array (Option Value)} {oc_beat_fault kV_beat_fault dc_beat_fault pm_beat_fault cd_beat_fault ct_beat_fault : Value}
    {f_beat_end : Addr} {od_beat_end an_beat_end : Option Addr} {sl_beat_end : Array (Option Value)} {oc_beat_end kV_beat_end dc_beat_end pm_beat_end cd_beat_end ct_beat_end : Value}
    {f_text_fault : Addr} {od_text_fault an_text_fault : Option Addr} {sl_text_fault : Array (Option Value)} {oc_text_fault kV_text_fault dc_text_fault pm_text_fault cd_text_fault ct_text_fault : Value}
    {f_read_beats : Addr} {od_read_beats an_read_beats : Option Addr} {sl_read_beats : Array (Option Value)} {oc_read_beats kV_read_beats dc_read_beats pm_read_beats cd_read_beats ct_read_beats : Value}
    {f_landing_counts : Addr} {od_landing_counts an_landing_counts : Option Addr} {sl_landing_counts : Array (Option Value)} {oc_landing_counts kV_landing_counts dc_landing_counts pm_landing_counts cd_landing_counts ct_landing_counts : Value}
    {f_wrong_beat : Addr} {od_wrong_beat an_wrong_beat : Option Addr} {sl_wrong_beat : Array (Option Value)} {oc_wrong_beat kV_wrong_beat dc_wrong_beat pm_wrong_beat cd_wrong_beat ct_wrong_beat : Value}
    {f_pattern_refusal : Addr} {od_pattern_refusal an_pattern_refusal : Option Addr} {sl_pattern_refusal : Array (Option Value)} {oc_pattern_refusal kV_pattern_refusal dc_pattern_refusal pm_pattern_refusal cd_pattern_refusal ct_pattern_refusal : Value}
    {f_root_of : Addr} {od_root_of an_root_of : Option Addr} {sl_root_of : Array (Option Value)} {oc_root_of kV_root_of dc_root_of pm_root_of cd_root_of ct_root_of : Value}
    {f_state_before : Addr} {od_state_before an_state_before : Option Addr} {sl_state_before : Array (Option Value)} {oc_state_before kV_state_before dc_state_before pm_state_before cd_state_before ct_state_before : Value}
    {f_different_states : Addr} {od_different_states an_different_states : Option Addr} {sl_different_states : Array (Option Value)} {oc_different_states kV_different_states dc_different_states pm_different_states cd_different_states ct_different_states : Value}
    {f_prime : Addr} {od_prime an_prime : Option Addr} {sl_prime : Array (Option Value)} {oc_prime kV_prime dc_prime pm_prime cd_prime ct_prime : Value}
    {t_CLOSING : Tok}
    {t_LETTER_A : Tok}
    {t_LETTER_F : Tok}
    {t_MOST_BEATS : Tok}
    {t_MOST_THROWS : Tok}
    {t_NINE : Tok}
    {t_OPENING : Tok}
    {t_SPAN : Tok}
    {t_ZERO : Tok}
    (a_height_of : PySem.W.nsIn K mainGlobals "height_of" = some (some (.ref f_height_of)))
    (l_height_of : K.lookup f_height_of = some ⟨oc_height_of, od_height_of, .func (PySem.W.fnOf "height_of" "height_of" (defArgs s_height_of) (defBody s_height_of) (defScope s_height_of) .none kV_height_of dc_height_of pm_height_of an_height_of cd_height_of ct_height_of), sl_height_of⟩)
    (c_height_of : PySem.W.codeIn K cd_height_of "height_of" = true)
    (k_height_of : PySem.W.keepIn K (.ref f_height_of) = true)
    (a_bracket_fault : PySem.W.nsIn K mainGlobals "bracket_fault" = some (some (.ref f_bracket_fault)))
    (l_bracket_fault : K.lookup f_bracket_fault = some ⟨oc_bracket_fault, od_bracket_fault, .func (PySem.W.fnOf "bracket_fault" "bracket_fault" (defArgs s_bracket_fault) (defBody s_bracket_fault) (defScope s_bracket_fault) .none kV_bracket_fault dc_bracket_fault pm_bracket_fault an_bracket_fault cd_bracket_fault ct_bracket_fault), sl_bracket_fault⟩)
    (c_bracket_fault : PySem.W.codeIn K cd_bracket_fault "bracket_fault" = true)
    (k_bracket_fault : PySem.W.keepIn K (.ref f_bracket_fault) = true)
    (a_beat_fault : PySem.W.nsIn K mainGlobals "beat_fault" = some (some (.ref f_beat_fault)))
    (l_beat_fault : K.lookup f_beat_fault = some ⟨oc_beat_fault, od_beat_fault, .func (PySem.W.fnOf "beat_fault" "beat_fault" (defArgs s_beat_fault) (defBody s_beat_fault) (defScope s_beat_fault) .none kV_beat_fault dc_beat_fault pm_beat_fault an_beat_fault cd_beat_fault ct_beat_fault), sl_beat_fault⟩)
    (c_beat_fault : PySem.W.codeIn K cd_beat_fault "beat_fault" = true)
    (k_beat_fault : PySem.W.keepIn K (.ref f_beat_fault) = true)
    (a_beat_end : PySem.W.nsIn K mainGlobals "beat_end" = some (some (.ref f_beat_end)))
    (l_beat_end : K.lookup f_beat_end = some ⟨oc_beat_end, od_beat_end, .func (PySem.W.fnOf "beat_end" "beat_end" (defArgs s_beat_end) (defBody s_beat_end) (defScope s_beat_end) .none kV_beat_end dc_beat_end pm_beat_end an_beat_end cd_beat_end ct_beat_end), sl_beat_end⟩)
    (c_beat_end : PySem.W.codeIn K cd_beat_end "beat_end" = true)
    (k_beat_end : PySem.W.keepIn K (.ref f_beat_end) = true)
    (a_text_fault : PySem.W.nsIn K mainGlobals "text_fault" = some (some (.ref f_text_fault)))
    (l_text_fault : K.lookup f_text_fault = some ⟨oc_text_fault, od_text_fault, .func (PySem.W.fnOf "text_fault" "text_fault" (defArgs s_text_fault) (defBody s_text_fault) (defScope s_text_fault) .none kV_text_fault dc_text_fault pm_text_fault an_text_fault cd_text_fault ct_text_fault), sl_text_fault⟩)
    (c_text_fault : PySem.W.codeIn K cd_text_fault "text_fault" = true)
    (k_text_fault : PySem.W.keepIn K (.ref f_text_fault) = true)
    (a_read_beats : PySem.W.nsIn K mainGlobals "read_beats" = some (some (.ref f_read_beats)))
    (l_read_beats : K.lookup f_read_beats = some ⟨oc_read_beats, od_read_beats, .func (PySem.W.fnOf "read_beats" "read_beats" (defArgs s_read_beats) (defBody s_read_beats) (defScope s_read_beats) .none kV_read_beats dc_read_beats pm_read_beats an_read_beats cd_read_beats ct_read_beats), sl_read_beats⟩)
    (c_read_beats : PySem.W.codeIn K cd_read_beats "read_beats" = true)
    (k_read_beats : PySem.W.keepIn K (.ref f_read_beats) = true)
    (a_landing_counts : PySem.W.nsIn K mainGlobals "landing_counts" = some (some (.ref f_landing_counts)))
    (l_landing_counts : K.lookup f_landing_counts = some ⟨oc_landing_counts, od_landing_counts, .func (PySem.W.fnOf "landing_counts" "landing_counts" (defArgs s_landing_counts) (defBody s_landing_counts) (defScope s_landing_counts) .none kV_landing_counts dc_landing_counts pm_landing_counts an_landing_counts cd_landing_counts ct_landing_counts), sl_landing_counts⟩)
    (c_landing_counts : PySem.W.codeIn K cd_landing_counts "landing_counts" = true)
    (k_landing_counts : PySem.W.keepIn K (.ref f_landing_counts) = true)
    (a_wrong_beat : PySem.W.nsIn K mainGlobals "wrong_beat" = some (some (.ref f_wrong_beat)))
    (l_wrong_beat : K.lookup f_wrong_beat = some ⟨oc_wrong_beat, od_wrong_beat, .func (PySem.W.fnOf "wrong_beat" "wrong_beat" (defArgs s_wrong_beat) (defBody s_wrong_beat) (defScope s_wrong_beat) .none kV_wrong_beat dc_wrong_beat pm_wrong_beat an_wrong_beat cd_wrong_beat ct_wrong_beat), sl_wrong_beat⟩)
    (c_wrong_beat : PySem.W.codeIn K cd_wrong_beat "wrong_beat" = true)
    (k_wrong_beat : PySem.W.keepIn K (.ref f_wrong_beat) = true)
    (a_pattern_refusal : PySem.W.nsIn K mainGlobals "pattern_refusal" = some (some (.ref f_pattern_refusal)))
    (l_pattern_refusal : K.lookup f_pattern_refusal = some ⟨oc_pattern_refusal, od_pattern_refusal, .func (PySem.W.fnOf "pattern_refusal" "pattern_refusal" (defArgs s_pattern_refusal) (defBody s_pattern_refusal) (defScope s_pattern_refusal) .none kV_pattern_refusal dc_pattern_refusal pm_pattern_refusal an_pattern_refusal cd_pattern_refusal ct_pattern_refusal), sl_pattern_refusal⟩)
    (c_pattern_refusal : PySem.W.codeIn K cd_pattern_refusal "pattern_refusal" = true)
    (k_pattern_refusal : PySem.W.keepIn K (.ref f_pattern_refusal) = true)
    (a_root_of : PySem.W.nsIn K mainGlobals "root_of" = some (some (.ref f_root_of)))
    (l_root_of : K.lookup f_root_of = some ⟨oc_root_of, od_root_of, .func (PySem.W.fnOf "root_of" "root_of" (defArgs s_root_of) (defBody s_root_of) (defScope s_root_of) .none kV_root_of dc_root_of pm_root_of an_root_of cd_root_of ct_root_of), sl_root_of⟩)
    (c_root_of : PySem.W.codeIn K cd_root_of "root_of" = true)
    (k_root_of : PySem.W.keepIn K (.ref f_root_of) = true)
    (a_state_before : PySem.W.nsIn K mainGlobals "state_before" = some (some (.ref f_state_before)))
    (l_state_before : K.lookup f_state_before = some ⟨oc_state_before, od_state_before, .func (PySem.W.fnOf "state_before" "state_before" (defArgs s_state_before) (defBody s_state_before) (defScope s_state_before) .none kV_state_before dc_state_before pm_state_before an_state_before cd_state_before ct_state_before), sl_state_before⟩)
    (c_state_before : PySem.W.codeIn K cd_state_before "state_before" = true)
    (k_state_before : PySem.W.keepIn K (.ref f_state_before) = true)
    (a_different_states : PySem.W.nsIn K mainGlobals "different_states" = some (some (.ref f_different_states)))
    (l_different_states : K.lookup f_different_states = some ⟨oc_different_states, od_different_states, .func (PySem.W.fnOf "different_states" "different_states" (defArgs s_different_states) (defBody s_different_states) (defScope s_different_states) .none kV_different_states dc_different_states pm_different_states an_different_states cd_different_states ct_different_states), sl_different_states⟩)
    (c_different_states : PySem.W.codeIn K cd_different_states "different_states" = true)
    (k_different_states : PySem.W.keepIn K (.ref f_different_states) = true)
    (a_prime : PySem.W.nsIn K mainGlobals "prime" = some (some (.ref f_prime)))
    (l_prime : K.lookup f_prime = some ⟨oc_prime, od_prime, .func (PySem.W.fnOf "prime" "prime" (defArgs s_prime) (defBody s_prime) (defScope s_prime) .none kV_prime dc_prime pm_prime an_prime cd_prime ct_prime), sl_prime⟩)
    (c_prime : PySem.W.codeIn K cd_prime "prime" = true)
    (k_prime : PySem.W.keepIn K (.ref f_prime) = true)
    (g_CLOSING : PySem.W.nsIn K mainGlobals "CLOSING" = some (some (.int 93 t_CLOSING)))
    (g_LETTER_A : PySem.W.nsIn K mainGlobals "LETTER_A" = some (some (.int 97 t_LETTER_A)))
    (g_LETTER_F : PySem.W.nsIn K mainGlobals "LETTER_F" = some (some (.int 102 t_LETTER_F)))
    (g_MOST_BEATS : PySem.W.nsIn K mainGlobals "MOST_BEATS" = some (some (.int 16 t_MOST_BEATS)))
    (g_MOST_THROWS : PySem.W.nsIn K mainGlobals "MOST_THROWS" = some (some (.int 3 t_MOST_THROWS)))
    (g_NINE : PySem.W.nsIn K mainGlobals "NINE" = some (some (.int 57 t_NINE)))
    (g_OPENING : PySem.W.nsIn K mainGlobals "OPENING" = some (some (.int 91 t_OPENING)))
    (g_SPAN : PySem.W.nsIn K mainGlobals "SPAN" = some (some (.int 15 t_SPAN)))
    (g_ZERO : PySem.W.nsIn K mainGlobals "ZERO" = some (some (.int 48 t_ZERO)))
    (z_len : PySem.W.nsIn K mainGlobals "len" = some none)
    (z_list : PySem.W.nsIn K mainGlobals "list" = some none)
    (z_range : PySem.W.nsIn K mainGlobals "range" = some none)
    (z_set : PySem.W.nsIn K mainGlobals "set" = some none)
    (z_sorted : PySem.W.nsIn K mainGlobals "sorted" = some none)
    (z_tuple : PySem.W.nsIn K mainGlobals "tuple" = some none)
    : ∃ fd : FuncData, (∀ (s : Shared) (us : List Value), us.length = (["t"] : List Str).length → BindsTo s fd ⟨us, []⟩ ((["t"] : List Str).zip us)) ∧ ∀ base : Heap, K.In base → base.Ns mainGlobals mg → FnOk P w K mg base CX0 6 fa fd ["t"] (sp_prime K) := by
  have e := hfa.symm.trans (PySem.W.mg_of X G a_prime)
  cases e
  have T : Txt mg := ⟨⟨_, PySem.W.mg_of X G g_CLOSING⟩, ⟨_, PySem.W.mg_of X G g_LETTER_A⟩, ⟨_, PySem.W.mg_of X G g_LETTER_F⟩, ⟨_, PySem.W.mg_of X G g_MOST_BEATS⟩, ⟨_, PySem.W.mg_of X G g_MOST_THROWS⟩, ⟨_, PySem.W.mg_of X G g_NINE⟩, ⟨_, PySem.W.mg_of X G g_OPENING⟩, ⟨_, PySem.W.mg_of X G g_SPAN⟩, ⟨_, PySem.W.mg_of X G g_ZERO⟩, PySem.W.mg_none_of X G z_len, PySem.W.mg_none_of X G z_list, PySem.W.mg_none_of X G z_range, PySem.W.mg_none_of X G z_set, PySem.W.mg_none_of X G z_sorted, PySem.W.mg_none_of X G z_tuple⟩
  have F_height_of := fun_mk (st := s_height_of) l_height_of c_height_of k_height_of
  have F_bracket_fault := fun_mk (st := s_bracket_fault) l_bracket_fault c_bracket_fault k_bracket_fault
  have F_beat_fault := fun_mk (st := s_beat_fault) l_beat_fault c_beat_fault k_beat_fault
  have F_beat_end := fun_mk (st := s_beat_end) l_beat_end c_beat_end k_beat_end
  have F_text_fault := fun_mk (st := s_text_fault) l_text_fault c_text_fault k_text_fault
  have F_read_beats := fun_mk (st := s_read_beats) l_read_beats c_read_beats k_read_beats
  have F_landing_counts := fun_mk (st := s_landing_counts) l_landing_counts c_landing_counts k_landing_counts
  have F_wrong_beat := fun_mk (st := s_wrong_beat) l_wrong_beat c_wrong_beat k_wrong_beat
  have F_pattern_refusal := fun_mk (st := s_pattern_refusal) l_pattern_refusal c_pattern_refusal k_pattern_refusal
  have F_root_of := fun_mk (st := s_root_of) l_root_of c_root_of k_root_of
  have F_state_before := fun_mk (st := s_state_before) l_state_before c_state_before k_state_before
  have F_different_states := fun_mk (st := s_different_states) l_different_states c_different_states k_different_states
  have F_prime := fun_mk (st := s_prime) l_prime c_prime k_prime
  have b_height_of := F_height_of.binds (ps := ["byte"]) fun _ _ _ _ _ _ us hl => match us, hl with | [_], _ => rfl
  have b_bracket_fault := F_bracket_fault.binds (ps := ["t", "start"]) fun _ _ _ _ _ _ us hl => match us, hl with | [_, _], _ => rfl
  have b_beat_fault := F_beat_fault.binds (ps := ["t", "start"]) fun _ _ _ _ _ _ us hl => match us, hl with | [_, _], _ => rfl
  have b_beat_end := F_beat_end.binds (ps := ["t", "start"]) fun _ _ _ _ _ _ us hl => match us, hl with | [_, _], _ => rfl
  have b_text_fault := F_text_fault.binds (ps := ["t"]) fun _ _ _ _ _ _ us hl => match us, hl with | [_], _ => rfl
  have b_read_beats := F_read_beats.binds (ps := ["t"]) fun _ _ _ _ _ _ us hl => match us, hl with | [_], _ => rfl
  have b_landing_counts := F_landing_counts.binds (ps := ["beats"]) fun _ _ _ _ _ _ us hl => match us, hl with | [_], _ => rfl
  have b_wrong_beat := F_wrong_beat.binds (ps := ["beats"]) fun _ _ _ _ _ _ us hl => match us, hl with | [_], _ => rfl
  have b_pattern_refusal := F_pattern_refusal.binds (ps := ["t"]) fun _ _ _ _ _ _ us hl => match us, hl with | [_], _ => rfl
  have b_root_of := F_root_of.binds (ps := ["beats"]) fun _ _ _ _ _ _ us hl => match us, hl with | [_], _ => rfl
  have b_state_before := F_state_before.binds (ps := ["beats", "moment"]) fun _ _ _ _ _ _ us hl => match us, hl with | [_, _], _ => rfl
  have b_different_states := F_different_states.binds (ps := ["beats"]) fun _ _ _ _ _ _ us hl => match us, hl with | [_], _ => rfl
  refine ⟨PySem.W.fnOf "prime" "prime" (defArgs s_prime) (defBody s_prime) (defScope s_prime) .none kV_prime dc_prime pm_prime an_prime cd_prime ct_prime, fun s us hu => match us, hu with | [_], _ => .of_eq rfl, fun base _ _ => ?_⟩
  have D_height_of : Def P w K mg base "height_of" ["byte"] 1 (sp_height_of K) := ⟨f_height_of, _, ok_height_of F_height_of T, PySem.W.mg_of X G a_height_of, k_height_of, b_height_of⟩
  have D_bracket_fault : Def P w K mg base "bracket_fault" ["t", "start"] 2 (sp_bracket_fault K) := ⟨f_bracket_fault, _, ok_bracket_fault F_bracket_fault T D_height_of, PySem.W.mg_of X G a_bracket_fault, k_bracket_fault, b_bracket_fault⟩
  have D_beat_fault : Def P w K mg base "beat_fault" ["t", "start"] 3 (sp_beat_fault K) := ⟨f_beat_fault, _, ok_beat_fault F_beat_fault T D_bracket_fault D_height_of, PySem.W.mg_of X G a_beat_fault, k_beat_fault, b_beat_fault⟩
  have D_beat_end : Def P w K mg base "beat_end" ["t", "start"] 1 (sp_beat_end K) := ⟨f_beat_end, _, ok_beat_end F_beat_end T, PySem.W.mg_of X G a_beat_end, k_beat_end, b_beat_end⟩
  have D_text_fault : Def P w K mg base "text_fault" ["t"] 4 (sp_text_fault K) := ⟨f_text_fault, _, ok_text_fault F_text_fault T D_beat_fault D_beat_end, PySem.W.mg_of X G a_text_fault, k_text_fault, b_text_fault⟩
  have D_read_beats : Def P w K mg base "read_beats" ["t"] 2 (sp_read_beats K) := ⟨f_read_beats, _, ok_read_beats F_read_beats T D_beat_end D_height_of, PySem.W.mg_of X G a_read_beats, k_read_beats, b_read_beats⟩
  have D_landing_counts : Def P w K mg base "landing_counts" ["beats"] 1 (sp_landing_counts K) := ⟨f_landing_counts, _, ok_landing_counts F_landing_counts T, PySem.W.mg_of X G a_landing_counts, k_landing_counts, b_landing_counts⟩
  have D_wrong_beat : Def P w K mg base "wrong_beat" ["beats"] 2 (sp_wrong_beat K) := ⟨f_wrong_beat, _, ok_wrong_beat F_wrong_beat T D_landing_counts, PySem.W.mg_of X G a_wrong_beat, k_wrong_beat, b_wrong_beat⟩
  have D_pattern_refusal : Def P w K mg base "pattern_refusal" ["t"] 5 (sp_pattern_refusal K) := ⟨f_pattern_refusal, _, ok_pattern_refusal F_pattern_refusal T D_text_fault D_wrong_beat D_read_beats, PySem.W.mg_of X G a_pattern_refusal, k_pattern_refusal, b_pattern_refusal⟩
  have D_root_of : Def P w K mg base "root_of" ["beats"] 1 (sp_root_of K) := ⟨f_root_of, _, ok_root_of F_root_of T, PySem.W.mg_of X G a_root_of, k_root_of, b_root_of⟩
  have D_state_before : Def P w K mg base "state_before" ["beats", "moment"] 1 (sp_state_before K) := ⟨f_state_before, _, ok_state_before F_state_before T, PySem.W.mg_of X G a_state_before, k_state_before, b_state_before⟩
  have D_different_states : Def P w K mg base "different_states" ["beats"] 2 (sp_different_states K) := ⟨f_different_states, _, ok_different_states F_different_states T D_state_before, PySem.W.mg_of X G a_different_states, k_different_states, b_different_states⟩
  exact ok_prime F_prime T D_pattern_refusal D_read_beats D_root_of D_different_states
end Jp
open PySem PySem.W PyProof.Rows
set_option maxRecDepth 100000 in
set_option maxHeartbeats 0 in
theorem PySem.Challenge.cw_jugglebench_s16_prime_holds : PySem.Challenge.rw_jugglebench_s16_prime.Holds := by
  w_on; k_headS; (case hw => exact ⟨[.list []], by decide +kernel, by decide +kernel⟩)
  k_fillS
  refine L2.walk_specK (r := PySem.Challenge.rw_jugglebench_s16_prime) (k := 6) (CX := L2.CX0) (ps := ["t"]) (sp := Jp.sp_prime) (by decide +kernel) rfl rfl ⟨rfl, by decide, by decide⟩ (fun w h Y => PySem.W.kIn_of Y) ?F ?S (fun _ _ _ _ z => z)
  case F =>
    intro w mg fa h Y KX G hmg
    refine' Jp.all_mk KX G hmg ?a_height_of ?l_height_of ?c_height_of ?k_height_of ?a_bracket_fault ?l_bracket_fault ?c_bracket_fault ?k_bracket_fault ?a_beat_fault ?l_beat_fault ?c_beat_fault ?k_beat_fault ?a_beat_end ?l_beat_end ?c_beat_end ?k_beat_end ?a_text_fault ?l_text_fault ?c_text_fault ?k_text_fault ?a_read_beats ?l_read_beats ?c_read_beats ?k_read_beats ?a_landing_counts ?l_landing_counts ?c_landing_counts ?k_landing_counts ?a_wrong_beat ?l_wrong_beat ?c_wrong_beat ?k_wrong_beat ?a_pattern_refusal ?l_pattern_refusal ?c_pattern_refusal ?k_pattern_refusal ?a_root_of ?l_root_of ?c_root_of ?k_root_of ?a_state_before ?l_state_before ?c_state_before ?k_state_before ?a_different_states ?l_different_states ?c_different_states ?k_different_states ?a_prime ?l_prime ?c_prime ?k_prime ?g_CLOSING ?g_LETTER_A ?g_LETTER_F ?g_MOST_BEATS ?g_MOST_THROWS ?g_NINE ?g_OPENING ?g_SPAN ?g_ZERO ?z_len ?z_list ?z_range ?z_set ?z_sorted ?z_tuple
    (case a_height_of => k_is)
    (case l_height_of => k_is)
    (case c_height_of => k_is)
    (case k_height_of => k_is)
    (case a_bracket_fault => k_is)
    (case l_bracket_fault => k_is)
    (case c_bracket_fault => k_is)
    (case k_bracket_fault => k_is)
    (case a_beat_fault => k_is)
    (case l_beat_fault => k_is)
    (case c_beat_fault => k_is)
    (case k_beat_fault => k_is)
    (case a_beat_end => k_is)
    (case l_beat_end => k_is)
    (case c_beat_end => k_is)
    (case k_beat_end => k_is)
    (case a_text_fault => k_is)
    (case l_text_fault => k_is)
    (case c_text_fault => k_is)
    (case k_text_fault => k_is)
    (case a_read_beats => k_is)
    (case l_read_beats => k_is)
    (case c_read_beats => k_is)
    (case k_read_beats => k_is)
    (case a_landing_counts => k_is)
    (case l_landing_counts => k_is)
    (case c_landing_counts => k_is)
    (case k_landing_counts => k_is)
    (case a_wrong_beat => k_is)
    (case l_wrong_beat => k_is)
    (case c_wrong_beat => k_is)
    (case k_wrong_beat => k_is)
    (case a_pattern_refusal => k_is)
    (case l_pattern_refusal => k_is)
    (case c_pattern_refusal => k_is)
    (case k_pattern_refusal => k_is)
    (case a_root_of => k_is)
    (case l_root_of => k_is)
    (case c_root_of => k_is)
    (case k_root_of => k_is)
    (case a_state_before => k_is)
    (case l_state_before => k_is)
    (case c_state_before => k_is)
    (case k_state_before => k_is)
    (case a_different_states => k_is)
    (case l_different_states => k_is)
    (case c_different_states => k_is)
    (case k_different_states => k_is)
    (case a_prime => k_is)
    (case l_prime => k_is)
    (case c_prime => k_is)
    (case k_prime => k_is)
    (case g_CLOSING => k_is)
    (case g_LETTER_A => k_is)
    (case g_LETTER_F => k_is)
    (case g_MOST_BEATS => k_is)
    (case g_MOST_THROWS => k_is)
    (case g_NINE => k_is)
    (case g_OPENING => k_is)
    (case g_SPAN => k_is)
    (case g_ZERO => k_is)
    (case z_len => k_is)
    (case z_list => k_is)
    (case z_range => k_is)
    (case z_set => k_is)
    (case z_sorted => k_is)
    (case z_tuple => k_is)
  case S =>
    intro K H xs a hO hwi hask hx
    obtain ⟨x0, u⟩ := a
    have hx : L2.DwAll K H xs [WData.list (x0.map WData.int)] := hx
    have q : ((Codec.inLen 0 64 x0 && x0.all (Codec.inInt 0 255)) && true) = true := hwi
    obtain ⟨v0, xs0, hv0, hx0, rfl⟩ : ∃ v r, L2.Dw K H v _ ∧ L2.DwAll K H r _ ∧ xs = v :: r := by cases hx with | cons h1 h2 => exact ⟨_, _, h1, h2, rfl⟩
    cases hx0
    obtain ⟨a0, rfl, hs0⟩ : ∃ a, v0 = L2.V.ref a ∧ L2.SqL K H a (x0.map L2.V.int) := by
      cases hv0 with
      | lst hs ha =>
        have e := L2.ints_dw x0 _ ha
        subst e
        exact ⟨_, rfl, hs⟩
    simp only [Bool.and_eq_true] at q

    obtain ⟨⟨q1, q2⟩, _⟩ := q
    exact ⟨a0, x0, rfl, hs0, fun z hz => Codec.inInt_iff.mp (List.all_eq_true.mp q2 z hz), (Codec.inNat_iff.mp q1).2, fun v H' ⟨x, e, hx⟩ => by subst e; exact .lst (L2.SqL.of hx) (L2.dw_ints _)⟩
#print axioms PySem.Challenge.cw_jugglebench_s16_prime_holds
