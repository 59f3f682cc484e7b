import PyProof.Rows.All
import Wide.All
import OpenK.AllK
import Wide.FinOn
import PyProof.EqAt
import PyProof.EqKinds
import PyProof.TupleCall
import KE.BitLaws
import Open.SpecLaws
import KE.OsHead
import KE.OsGo
import PyProof.Rows.SortRev
import PyProof.MinMaxWalk
import PyProof.ListMulRoad
import PyProof.WalksMore
import PyProof.WalkInts
import PyProof.Rows.TupDisplay
import PyProof.ListRange
import PyProof.ZipIter
import PyProof.ListNew
import PySem.Challenge.RW_jugglebench_s15_runs
set_option Elab.async false
set_option linter.all false
set_option maxRecDepth 100000
/-! THE HAND LAYER, for ints, bools, texts, own classes, lists, tuples, dicts, comprehensions, walks over dicts, enumerate, zip, reversed, texts, calls, loops. Paste it whole ahead of your own text; what your proof does not reach may be deleted. -/
namespace L2
open PySem PySem.Spec PyProof.Rows

/-- a key: an int or a str -/
abbrev Key := Sum Int Str
def keyIs : Key → Value → Bool
  | .inl k, v => Value.isInt k v
  | .inr x, v => Value.isStrOf x v
def keyH (w : World) : Key → Int
  | .inl k => hashInt k
  | .inr x => hashStr w x
theorem keyIs_shape : ∀ {k : Key} {v : Value}, keyIs k v = true → (∃ i t, k = Sum.inl i ∧ v = Value.int i t) ∨ (∃ x t, k = Sum.inr x ∧ v = Value.str x t)
  | .inl i, v, h => by
    obtain ⟨t, e⟩ := Value.isInt_shape (k := i) (v := v) h
    exact .inl ⟨i, t, rfl, e⟩
  | .inr x, v, h => by
    obtain ⟨t, e⟩ := Value.isStrOf_shape (x := x) (v := v) h
    exact .inr ⟨x, t, rfl, e⟩

theorem key_ll (a b : Int) : decide ((Sum.inl a : Key) = Sum.inl b) = (a == b) := by
  by_cases e : a = b
  · subst e; simp
  · have h : ¬ (Sum.inl a : Key) = Sum.inl b := fun q => e (Sum.inl.inj q)
    rw [decide_eq_false h]
    exact (beq_eq_false_iff_ne.mpr e).symm
theorem key_rr (a b : Str) : decide ((Sum.inr a : Key) = Sum.inr b) = decide (a = b) := by
  by_cases e : a = b
  · subst e; simp
  · have h : ¬ (Sum.inr a : Key) = Sum.inr b := fun q => e (Sum.inr.inj q)
    rw [decide_eq_false h, decide_eq_false e]
theorem key_lr (a : Int) (b : Str) : decide ((Sum.inl a : Key) = Sum.inr b) = false := decide_eq_false (fun q => nomatch q)
theorem key_rl (a : Str) (b : Int) : decide ((Sum.inr a : Key) = Sum.inl b) = false := decide_eq_false (fun q => nomatch q)

def mixKind (prog : Program) (w : World) : PySem.KeyKind prog w Key where
  is := keyIs
  hash := keyH w
  inj := fun v a b ha hb => by
    rcases keyIs_shape ha with ⟨i, t, rfl, rfl⟩ | ⟨x, t, rfl, rfl⟩
    · rcases keyIs_shape hb with ⟨j, u, rfl, e⟩ | ⟨y, u, rfl, e⟩
      · injection e with e1 _; rw [e1]
      · exact nomatch e
    · rcases keyIs_shape hb with ⟨j, u, rfl, e⟩ | ⟨y, u, rfl, e⟩
      · exact nomatch e
      · injection e with e1 _; rw [e1]
  byValue := fun k v h => by
    rcases keyIs_shape h with ⟨i, t, rfl, rfl⟩ | ⟨x, t, rfl, rfl⟩ <;> rfl
  pyHash := fun hv h => by
    rcases keyIs_shape hv with ⟨i, t, rfl, rfl⟩ | ⟨x, t, rfl, rfl⟩
    · exact wpAny_pyHash_int h
    · exact wpAny_pyHash_str h
  eqBool := fun hu hv h => by
    rcases keyIs_shape hu with ⟨i, t, rfl, rfl⟩ | ⟨x, t, rfl, rfl⟩
    · rcases keyIs_shape hv with ⟨j, u, rfl, rfl⟩ | ⟨y, u, rfl, rfl⟩
      · rw [key_ll] at h; exact wpAny_eqBool_int h
      · rw [key_lr] at h; exact SeqAt.EqAt.int_str i t y u _ _ _ _ h
    · rcases keyIs_shape hv with ⟨j, u, rfl, rfl⟩ | ⟨y, u, rfl, rfl⟩
      · rw [key_rl] at h; exact SeqAt.EqAt.str_int x t j u _ _ _ _ h
      · rw [key_rr] at h; exact wpAny_eqBool_str h
  «strs» := fun k x t v h => by
    rcases keyIs_shape h with ⟨i, u, rfl, e⟩ | ⟨y, u, rfl, e⟩
    · exact nomatch e
    · injection e with e1 _
      subst e1
      cases v <;> rfl

end L2

namespace L2
open PySem PySem.Spec PyProof.Rows

/-- a value, without the heap -/
inductive V where
  | non | bl (b : Bool) | int (i : Int) | str (x : Str) | byt (b : Array UInt8) | flt (b : UInt64) | ref (a : Addr) | ty (n : String)
  deriving DecidableEq

def RelV : V → Value → Prop
  | .non, u => u = Value.none
  | .bl b, u => u = Value.bool b
  | .int i, u => ∃ t, u = Value.int i t
  | .str x, u => ∃ t, u = Value.str x t
  | .byt b, u => ∃ t, u = Value.bytes b t
  | .flt b, u => ∃ t, u = Value.float b t
  | .ref a, u => u = Value.ref a
  | .ty n, u => u = Value.type n

abbrev Vals : List V → List Value → Prop := Paired RelV
theorem Vals.length {xs : List V} {us : List Value} (r : Vals xs us) : xs.length = us.length := Paired.length r
theorem Vals.get : ∀ {xs : List V} {us : List Value} {i : Nat} {x : V}, Vals xs us → xs[i]? = some x → ∃ u, us[i]? = some u ∧ RelV x u
  | _, _, _, _, .nil, e => by simp at e
  | _, _, 0, _, .cons r _, e => by simp at e; subst e; exact ⟨_, rfl, r⟩
  | _, _, i + 1, x, .cons _ t, e => by
    obtain ⟨u, h1, h2⟩ := Vals.get (i := i) (x := x) t (by simpa using e)
    exact ⟨u, by simpa using h1, h2⟩
theorem Vals.set {x : V} {u : Value} (r : RelV x u) : ∀ {xs : List V} {us : List Value} (i : Nat), Vals xs us → Vals (xs.set i x) (us.set i u)
  | _, _, _, .nil => .nil
  | _, _, 0, .cons _ t => .cons r t
  | _, _, i + 1, .cons q t => .cons q (Vals.set r i t)
theorem Vals.append : ∀ {xs ys : List V} {us ws : List Value}, Vals xs us → Vals ys ws → Vals (xs ++ ys) (us ++ ws)
  | _, _, _, _, .nil, s => s
  | _, _, _, _, .cons r t, s => .cons r (Vals.append t s)
theorem Vals.take : ∀ {xs : List V} {us : List Value} (n : Nat), Vals xs us → Vals (xs.take n) (us.take n)
  | _, _, 0, _ => .nil
  | _, _, _ + 1, .nil => .nil
  | _, _, n + 1, .cons r t => .cons r (Vals.take n t)
theorem Vals.drop : ∀ {xs : List V} {us : List Value} (n : Nat), Vals xs us → Vals (xs.drop n) (us.drop n)
  | _, _, 0, r => r
  | _, _, _ + 1, .nil => .nil
  | _, _, n + 1, .cons _ t => Vals.drop n t

def RelO : Option V → Option Value → Prop
  | some v, some u => RelV v u
  | none, none => True
  | _, _ => False
def KV {κ : Type} : List (κ × V) → List (κ × Value) → Prop := Paired fun (p : κ × V) (q : κ × Value) => p.1 = q.1 ∧ RelV p.2 q.2

/-- a key of a dict (00_mix): an int or a text -/
def kV : Key → V
  | .inl i => .int i
  | .inr x => .str x

/-- what stands at a tracked address -/
inductive HO where
  /-- a list -/
  | lst (xs : List V)
  /-- a tuple (never changes) -/
  | tup (xs : List V)
  /-- a dict whose keys are ints and texts; one whose keys are tuples of ints and texts (the empty one is both) -/
  | dK (kvs : List (Key × V)) | dT (kvs : List (List Key × V))
  /-- a set of ints: its members, its size -/
  | set (S : Int → Bool) (n : Nat)
  /-- an instance of the class at C, its dict at dx, its attributes -/
  | ins (C dx : Addr) (fs : List (Str × V))
  /-- the dict of the instance at x -/
  | own (x : Addr)
  /-- the dict of an exception -/
  | xd (fs : List (Str × V))
  /-- a bound method, f of x -/
  | met (f x : Addr)
  /-- a range object lo, lo + 1, .. below hi -/
  | rng (lo hi : Int)
  /-- a thing that is known to the object (the script; a dict while a loop walks it): read, never written while it is so -/
  | frz (o : Obj) (u : HO)
  /-- a code object's table -/
  | tbl (ps : Array Value)
  /-- any other thing, by what is true of its one object (a def of one's own: SetO a S n := HO.ext fun h => ..) -/
  | ext (φ : Heap → Prop)

abbrev Hp := Addr → Option HO
def upd (H : Hp) (a : Addr) (o : HO) : Hp := fun b => if b = a then some o else H b
theorem upd_same {H : Hp} {a : Addr} {o : HO} : upd H a o a = some o := by unfold upd; rw [if_pos rfl]
theorem upd_ne {H : Hp} {a b : Addr} {o : HO} (h : b ≠ a) : upd H a o b = H b := by unfold upd; rw [if_neg h]

theorem ne_of_none {H : Hp} {a b : Addr} {o : HO} (h : H a = some o) (h' : H b = none) : a ≠ b := by
  intro e; subst e; rw [h] at h'; cases h'

section
variable (P : Program) (w : World)
def ObjOk (H : Hp) (h : Heap) (a : Addr) : HO → Prop
  | .lst xs => xs.length ≤ sizeLine ∧ ∃ (its : List Value) (n : Nat), Vals xs its ∧ h.get? a = some { cls := .type "list", data := .seq its.toArray n }
  | .tup xs => xs.length ≤ sizeLine ∧ ∃ its : List Value, Vals xs its ∧ IsTup h a its.toArray
  | .dK kvs => kvs.length ≤ sizeLine ∧ (a == sysModules) = false ∧ ∃ vs, KV kvs vs ∧ h.DictOf (mixKind P w) a vs
  | .dT kvs => kvs.length ≤ sizeLine ∧ (a == sysModules) = false ∧ ∃ xs : List (List Key × Addr × Value),
      Paired (fun (p : List Key × V) (q : List Key × Addr × Value) => p.1 = q.1 ∧ H q.2.1 = some (.tup (p.1.map kV)) ∧ RelV p.2 q.2.2) kvs xs ∧
      ∃ o es ep, h.get? a = some o ∧ o.ExactDict ∧ o.data = .dict es ep ∧ es.toList = xs.map (entryOfKey (tupleKind (mixKind P w))) ∧ (xs.map (·.1)).Nodup
  | .set S n => h.SetOf (intKind P w) a S n
  | .ins C dx fs => H dx = some (.own a) ∧ fs.length ≤ 1000 ∧ dx ≠ a ∧ h.get? a = some (PySem.W.instObj C dx) ∧
      ∃ mA, h.Ns1 dx mA ∧ (∀ f, RelO (fs.lookup f) (mA f)) ∧ PySem.Within mA (fs.map (·.1))
  | .own _ => ∃ o, h.get? a = some o
  | .xd fs => ∃ mA, h.Ns1 a mA ∧ ∀ f, RelO (fs.lookup f) (mA f)
  | .rng lo hi => ∃ t u v, h.get? a = some { cls := .type "range", data := .fields #[.int lo t, .int hi u, .int 1 v] }
  | .frz o u => h.get? a = some o ∧ ObjOk H h a u
  | .tbl ps => h.get? a = some { cls := .none, data := .fields ps }
  | .met f x => h.get? a = some (PySem.W.methodObj (.ref f) (.ref x))
  | .ext φ => φ h ∧ (∃ o, h.get? a = some o) ∧ ∀ h1 h2 : Heap, φ h1 → (∀ o, h1.get? a = some o → h2.get? a = some o) → φ h2
/-- the abstract heap is held -/
def HOk (H : Hp) (h : Heap) : Prop := ∀ a o, H a = some o → ObjOk P w H h a o
end

section
variable {P : Program} {w : World} {H H' : Hp} {h h' : Heap} {a : Addr} {o : HO}
theorem ObjOk.lt (x : ObjOk P w H h a o) : a < h.objs.size := by
  cases o with
  | lst xs => obtain ⟨_, _, _, _, e⟩ := x; exact Heap.lt_size e
  | tup xs => obtain ⟨_, _, _, p⟩ := x; exact p.lt
  | dK kvs => obtain ⟨_, _, _, _, o, _, _, e, _⟩ := x; exact Heap.lt_size e
  | dT kvs => obtain ⟨_, _, _, _, o, _, _, e, _⟩ := x; exact Heap.lt_size e
  | set S n => obtain ⟨o, _, _, _, e, _⟩ := x; exact Heap.lt_size e
  | ins C dx fs => obtain ⟨_, _, _, e, _⟩ := x; exact Heap.lt_size e
  | own y => obtain ⟨_, e⟩ := x; exact Heap.lt_size e
  | xd fs => obtain ⟨_, ⟨_, _, _, e, _⟩, _⟩ := x; exact Heap.lt_size e
  | rng lo hi => obtain ⟨_, _, _, e⟩ := x; exact Heap.lt_size e
  | frz ob u => obtain ⟨e, _⟩ := x; exact Heap.lt_size e
  | tbl ps => exact Heap.lt_size (show h.get? a = some _ from x)
  | met f y => exact Heap.lt_size (show h.get? a = some _ from x)
  | ext φ => obtain ⟨_, ⟨_, e⟩, _⟩ := x; exact Heap.lt_size e
theorem Paired.mapP {α β : Type} {F G : α → β → Prop} : ∀ {l₁ : List α} {l₂ : List β}, Paired F l₁ l₂ → (∀ a b, F a b → G a b) → Paired G l₁ l₂
  | _, _, .nil, _ => .nil
  | _, _, .cons r t, f => .cons (f _ _ r) (Paired.mapP t f)
theorem Paired.imp' {α β : Type} {F G : α → β → Prop} (f : ∀ a b, F a b → G a b) {l₁ : List α} {l₂ : List β} (r : Paired F l₁ l₂) : Paired G l₁ l₂ := Paired.mapP r f
/-- what an object's description leans on: its own object, its own dict, the tuples -/
theorem ObjOk.stay (x : ObjOk P w H h a o) (k : ∀ b u, (b = a ∨ H b = some (.own a)) → h.get? b = some u → h'.get? b = some u)
    (ho : ∀ b, H b = some (.own a) → H' b = some (.own a)) (ht : ∀ b xs, H b = some (.tup xs) → H' b = some (.tup xs)) : ObjOk P w H' h' a o := by
  induction o with
  | lst xs => obtain ⟨z, its, n, r, e⟩ := x; exact ⟨z, its, n, r, k _ _ (.inl rfl) e⟩
  | tup xs => obtain ⟨z, its, r, ob, e, c⟩ := x; exact ⟨z, its, r, ob, k _ _ (.inl rfl) e, c⟩
  | dK kvs => obtain ⟨z, y, vs, r, ob, es, ep, e, c⟩ := x; exact ⟨z, y, vs, r, ob, es, ep, k _ _ (.inl rfl) e, c⟩
  | dT kvs =>
    obtain ⟨z, y, xs, r, ob, es, ep, e, c⟩ := x
    exact ⟨z, y, xs, Paired.mapP r fun p q z => ⟨z.1, ht _ _ z.2.1, z.2.2⟩, ob, es, ep, k _ _ (.inl rfl) e, c⟩
  | set S n => obtain ⟨ob, es, ep, t, e, c⟩ := x; exact ⟨ob, es, ep, t, k _ _ (.inl rfl) e, c⟩
  | ins C dx fs =>
    obtain ⟨d, z, ne, e, mA, ⟨od, es, ep, e2, c⟩, r⟩ := x
    exact ⟨ho _ d, z, ne, k _ _ (.inl rfl) e, mA, ⟨od, es, ep, k _ _ (.inr d) e2, c⟩, r⟩
  | own y => obtain ⟨ob, e⟩ := x; exact ⟨ob, k _ _ (.inl rfl) e⟩
  | xd fs => obtain ⟨mA, ⟨od, es, ep, e, c⟩, r⟩ := x; exact ⟨mA, ⟨od, es, ep, k _ _ (.inl rfl) e, c⟩, r⟩
  | rng lo hi => obtain ⟨t, u, v, e⟩ := x; exact ⟨t, u, v, k _ _ (.inl rfl) e⟩
  | frz ob u ih => obtain ⟨e, q⟩ := x; exact ⟨k _ _ (.inl rfl) e, ih q⟩
  | tbl ps =>
    have e : h.get? a = some { cls := .none, data := .fields ps } := x
    show h'.get? a = some { cls := .none, data := .fields ps }
    exact k a _ (.inl rfl) e
  | met f y =>
    have e : h.get? a = some (PySem.W.methodObj (.ref f) (.ref y)) := x
    show h'.get? a = some (PySem.W.methodObj (.ref f) (.ref y))
    exact k a _ (.inl rfl) e
  | ext φ => obtain ⟨p, ⟨o, e⟩, st⟩ := x; exact ⟨st _ _ p fun o q => k _ _ (.inl rfl) q, ⟨o, k _ _ (.inl rfl) e⟩, st⟩
theorem HOk.lt (x : HOk P w H h) (e : H a = some o) : a < h.objs.size := (x a o e).lt
theorem HOk.fresh (x : HOk P w H h) (e : h.objs.size ≤ a) : H a = none := by
  cases q : H a with
  | none => rfl
  | some u => exact absurd (Nat.lt_of_lt_of_le (x.lt q) e) (Nat.lt_irrefl _)
/-- every object of the heap is kept -/
theorem HOk.kept (x : HOk P w H h) (k : ∀ b u, h.get? b = some u → h'.get? b = some u) : HOk P w H h' := fun a o e =>
  (x a o e).stay (fun b u _ q => k b u q) (fun _ q => q) fun _ _ q => q
/-- a new object is laid and tracked -/
theorem HOk.laid (x : HOk P w H h) (k : ∀ b u, h.get? b = some u → h'.get? b = some u) (hp : h.objs.size ≤ a) (new : ObjOk P w (upd H a o) h' a o) : HOk P w (upd H a o) h' := fun b u e => by
  have hn := x.fresh hp
  by_cases hb : b = a
  · subst hb; rw [upd_same] at e; cases e; exact new
  · rw [upd_ne hb] at e
    exact (x b u e).stay (fun c v _ q => k c v q) (fun c q => by rw [upd_ne (ne_of_none q hn)]; exact q) fun c xs q => by rw [upd_ne (ne_of_none q hn)]; exact q
end

/-- what may be read as u: it is u, or a known u -/
def Rd (H : Hp) (a : Addr) (u : HO) : Prop := H a = some u ∨ ∃ o, H a = some (.frz o u)

theorem Rd.ok {P : Program} {w : World} {H : Hp} {h : Heap} {a : Addr} {u : HO} (r : Rd H a u) (x : HOk P w H h) : ObjOk P w H h a u := by
  rcases r with r | ⟨o, r⟩
  · exact x a u r
  · obtain ⟨_, q⟩ := x a _ r
    exact q
/-- what may be written -/
def Mut : Option HO → Prop
  | some (.lst _) => True
  | some (.dK _) => True
  | some (.dT _) => True
  | some (.set _ _) => True
  | some (.ins _ _ _) => True
  | some (.ext _) => True
  | _ => False
section
variable {P : Program} {w : World} {H : Hp} {h h' : Heap} {x e : Addr} {o' : HO}
/-- the object at e is changed: x itself, or the dict of the instance x -/
theorem HOk.write (ok : HOk P w H h) (mu : Mut (H x)) (he : e = x ∨ H e = some (.own x)) (k : ∀ b u, b ≠ e → h.get? b = some u → h'.get? b = some u) (heo : ∃ u, h'.get? e = some u)
    (new : ObjOk P w (upd H x o') h' x o') : HOk P w (upd H x o') h' := fun b u q => by
  have nown : ∀ c y, H c = some (.own y) → c ≠ x := fun c y r z => by subst z; rw [r] at mu; exact mu
  have ntup : ∀ c xs, H c = some (.tup xs) → c ≠ x := fun c xs r z => by subst z; rw [r] at mu; exact mu
  by_cases hb : b = x
  · subst hb; rw [upd_same] at q; cases q; exact new
  · rw [upd_ne hb] at q
    by_cases hbe : b = e
    · have q' : H b = some (.own x) := by
        rcases he with z | z
        · exact absurd (hbe.trans z) hb
        · rw [hbe]; exact z
      rw [q] at q'; cases q'
      obtain ⟨v, hv⟩ := heo
      exact ⟨v, by rw [hbe]; exact hv⟩
    · refine (ok b u q).stay (fun c v hc r => k c v ?_ r) (fun c r => by rw [upd_ne (nown c b r)]; exact r) fun c xs r => by rw [upd_ne (ntup c xs r)]; exact r
      rcases hc with rfl | hc
      · exact hbe
      · rintro rfl
        rcases he with z | z
        · exact nown c b hc z
        · rw [hc] at z; cases z; exact hb rfl
end

/-! ### kept unless tracked; of the frames at fs (the callers') the slots may change (an exception that passes writes there); of the records at ex (iterators) nothing is said -/
structure Un (fs ex : List Addr) (H H' : Hp) (h h' : Heap) : Prop where
  keep : ∀ b o, h.get? b = some o → H b = none → b ∉ fs → b ∉ ex → h'.get? b = some o
  slot : ∀ b o, h.get? b = some o → H b = none → b ∈ fs → b ∉ ex → ∃ sl, h'.get? b = some { o with slots := sl }
  free : ∀ b o, h.get? b = some o → H b = none → b ∉ ex → H' b = none
  there : ∀ b o, h.get? b = some o → b ∉ ex → ∃ o', h'.get? b = some o'
  tups : ∀ b xs, H b = some (.tup xs) → H' b = some (.tup xs)
  frzs : ∀ b o u, H b = some (.frz o u) → H' b = some (.frz o u)
  tbls : ∀ b ps, H b = some (.tbl ps) → ∃ more, H' b = some (.tbl (ps ++ more))
section
variable {fs fs' ex ex' : List Addr} {H H1 H2 : Hp} {h h1 h2 h' : Heap} {a x e : Addr} {o : HO}
theorem Un.any (u : Un fs ex H H1 h h1) {b : Addr} {ob : Obj} (q : h.get? b = some ob) (n : H b = none) (hx : b ∉ ex) : ∃ sl, h1.get? b = some { ob with slots := sl } := by
  by_cases hb : b ∈ fs
  · exact u.slot b ob q n hb hx
  · exact ⟨ob.slots, u.keep b ob q n hb hx⟩

theorem Un.kept (k : ∀ b u, h.get? b = some u → h'.get? b = some u) : Un fs ex H H h h' :=
  ⟨fun b ob q _ _ _ => k b ob q, fun b ob q _ _ _ => ⟨ob.slots, k b ob q⟩, fun _ _ _ n _ => n, fun b ob q _ => ⟨ob, k b ob q⟩, fun _ _ q => q, fun _ _ _ q => q, fun _ ps q => ⟨#[], by rw [q]; simp⟩⟩
theorem Un.refl : Un fs ex H H h h := Un.kept fun _ _ q => q
theorem Un.laid (k : ∀ b u, h.get? b = some u → h'.get? b = some u) (hp : h.objs.size ≤ a) (hn : H a = none) : Un fs ex H (upd H a o) h h' where
  keep := fun b u q _ _ _ => k b u q
  slot := fun b u q _ _ _ => ⟨u.slots, k b u q⟩
  free := fun b u q n _ => by rw [upd_ne (Nat.ne_of_lt (Nat.lt_of_lt_of_le (Heap.lt_size q) hp))]; exact n
  there := fun b u q _ => ⟨u, k b u q⟩
  tups := fun b xs q => by rw [upd_ne (ne_of_none q hn)]; exact q
  frzs := fun b u xs q => by rw [upd_ne (ne_of_none q hn)]; exact q
  tbls := fun b ps q => ⟨#[], by rw [upd_ne (ne_of_none q hn), q]; simp⟩
theorem Un.write (mu : Mut (H x)) (he : e = x ∨ H e = some (.own x)) (k : ∀ b u, b ≠ e → h.get? b = some u → h'.get? b = some u) (heo : ∃ u, h'.get? e = some u) : Un fs ex H (upd H x o) h h' := by
  have hx : ∀ b, H b = none → b ≠ x := fun b n z => by subst z; rw [n] at mu; exact mu
  have hb : ∀ b, H b = none → b ≠ e := fun b n z => by
    subst z
    rcases he with r | r
    · exact hx b n r
    · rw [n] at r; cases r
  have hm : ∀ b u, H b = some u → ¬ Mut (some u) → b ≠ x := fun b u q nm z => by subst z; rw [q] at mu; exact nm mu
  refine ⟨fun b u q n _ _ => k b u (hb b n) q, fun b u q n _ _ => ⟨u.slots, k b u (hb b n) q⟩, fun b u q n _ => by rw [upd_ne (hx b n)]; exact n, fun b u q _ => ?_,
    fun b xs q => by rw [upd_ne (hm b _ q fun z => z)]; exact q, fun b u xs q => by rw [upd_ne (hm b _ q fun z => z)]; exact q, fun b ps q => ⟨#[], by rw [upd_ne (hm b _ q fun z => z), q]; simp⟩⟩
  by_cases hbe : b = e
  · subst hbe; exact heo
  · exact ⟨u, k b u hbe q⟩

end

/-! ### the heap without what is tracked -/
def trk (h : Heap) (H : Hp) : List Addr := (List.range h.objs.size).filter fun a => (H a).isSome
def hidT (h : Heap) (H : Hp) : Heap := PySem.W.hideAll h (trk h H)
theorem hidT_size (h : Heap) (H : Hp) : (hidT h H).objs.size = h.objs.size := PySem.W.hideAll_size _ _
theorem hidT_get {h : Heap} {H : Hp} {b : Addr} {o : Obj} (e : h.get? b = some o) (n : H b = none) : (hidT h H).get? b = some o :=
  PySem.W.hideAll_get _ e fun hm => by
    have q : (H b).isSome = true := (List.mem_filter.mp hm).2
    rw [n] at q; simp at q
theorem of_hidT {h : Heap} {H : Hp} {b : Addr} {o : Obj} (e : (hidT h H).get? b = some o) : h.get? b = some o ∧ H b = none := by
  have e' : h.get? b = some o := PySem.W.of_hideAll (trk h H) e
  refine ⟨e', ?_⟩
  cases q : H b with
  | none => rfl
  | some x =>
    have hm : b ∈ trk h H := List.mem_filter.mpr ⟨List.mem_range.mpr (Heap.lt_size e'), by simp [q]⟩
    have z : (hidT h H).get? b = none := PySem.W.hideAll_none (trk h H) hm
    rw [z] at e; cases e

/-! ### OpenK's ledger, filled with every new object but one -/

end L2

namespace L2
open PySem PySem.Spec PyProof.Rows

/-- the module's facts, over the base: the heap at the law's entry without what is tracked there -/
structure Mod (K : PySem.W.Frag) (mg : Str → Option Value) (base : Heap) : Prop where
  kin : K.In base
  glob : base.Ns mainGlobals mg
  blt : ∃ mb, base.Ns builtinsNs mb ∧ ∀ x : Str, x ≠ "__name__" → mb x = bootBuiltins x
  nolimit : base.NoLimit

/-- the context: a def's body (or a comprehension's block) running. base: fixed through the whole law; s₀, H₀: the entry; outer: the frames whose slots others may change (a def's callers); stack: all frames that run;
   ex: iterators that were made ahead of the entry and are walked here (a comprehension's); fn: the names whose cells were made at the entry (a def: all; a comprehension's block: its own); calm: not within an except suite; pn: pins that every state bears; xe: what is wanted of an exception that leaves the code -/
structure Cx where
  prog : Program
  w : World
  K : PySem.W.Frag
  mg : Str → Option Value
  base : Heap
  A : Around
  N : List Str
  s_0 : Shared
  H_0 : Hp
  env : Env
  outer : List Env
  stack : List Env
  ex : List Addr
  fn : Str → Bool
  calm : Bool
  pn : List (Addr × Obj)
  xe : Value → Shared → Prop
/-- the callers' frames -/
def frs (l : List Env) : List Addr := l.filterMap (·.frame)
abbrev Cx.fs (X : Cx) : List Addr := frs X.outer

def Vis (sc : Scope) (x : Str) : Prop := sc.names.lookup x = some .local ∨ sc.names.lookup x = some .cell ∨ sc.names.lookup x = some .free
def Loc (sc : Scope) (x : Str) : Prop := sc.names.lookup x = some .local ∨ sc.names.lookup x = some .cell
def Look (env : Env) (h : Heap) (m : Str → Option Value) (x : Str) (u : Value) : Prop :=
  (env.kindOf x = some .local ∧ m x = some u) ∨ ((env.kindOf x = some .cell ∨ env.kindOf x = some .free) ∧ ∃ c, env.cells.lookup x = some c ∧ h.IsCell c (some u))

structure Cx.Ok (X : Cx) : Prop where
  mod : Mod X.K X.mg X.base
  kind : X.env.scope.kind = .function
  glob : X.env.globals = mainGlobals
  blt : X.env.builtins = builtinsNs
  above : X.s_0.heap.objs.size ≤ X.env.locals
  inj : ∀ x y c, X.env.cells.lookup x = some c → X.env.cells.lookup y = some c → x = y
  has : ∀ x, (X.env.kindOf x = some .cell ∨ X.env.kindOf x = some .free) → ∃ c, X.env.cells.lookup x = some c
  cab : ∀ x c, X.fn x = true → X.env.cells.lookup x = some c → X.s_0.heap.objs.size ≤ c
  hd : X.calm = true → X.A.handled = none
  frames : X.A.frames = some X.stack
  stk : X.stack = X.outer ∨ (X.stack = X.env :: X.outer ∧ X.env.frame = some X.env.locals)
  exf : ∀ b ∈ X.ex, b ≠ X.env.locals ∧ ∀ x c, X.env.cells.lookup x = some c → c ≠ b
  bs : ∀ b o, X.base.get? b = some o → X.s_0.heap.get? b = some o ∧ X.H_0 b = none
  bsz : X.base.objs.size ≤ X.s_0.heap.objs.size
  noex : ∀ b o, X.base.get? b = some o → b ∉ X.ex
  exfs : ∀ b ∈ X.ex, b ∉ X.fs
  funs : X.s_0.heap.FunFrames X.base X.outer
  frf : ∀ b ∈ X.fs, X.H_0 b = none

structure Inv (X : Cx) (pins : List (Addr × Obj)) (σ : List (Option V)) (H : Hp) (s : Shared) : Prop where
  ok : X.Ok
  os : s.os = X.s_0.os
  bare : AllBare s.gens
  base : Un X.fs X.ex X.H_0 H X.s_0.heap s.heap
  loc : ∃ m, s.heap.Ns X.env.locals m ∧ ∀ (i : Nat) (x : Str) (v : V), X.N[i]? = some x → σ[i]? = some (some v) → Vis X.env.scope x → ∃ u, RelV v u ∧ Look X.env s.heap m x u
  cell : ∀ x c, X.env.cells.lookup x = some c → ∃ v, s.heap.IsCell c v
  free : H X.env.locals = none
  freeC : ∀ x c, X.env.cells.lookup x = some c → H c = none
  pin : ∀ p ∈ X.pn ++ pins, s.heap.get? p.1 = some p.2 ∧ H p.1 = none ∧ p.1 ≠ X.env.locals ∧ p.1 ∉ X.fs ∧ ∀ v, p.2.data ≠ .cell v
  hok : HOk X.prog X.w H s.heap
  len : σ.length = X.N.length

section
variable {X : Cx} {pins : List (Addr × Obj)} {σ : List (Option V)} {H H' : Hp} {s : Shared} {h' : Heap}

theorem Cx.Ok.nofr (ok : X.Ok) {b : Addr} {o : Obj} (e : X.base.get? b = some o) : b ∉ X.fs := fun hb => by
  have := (ok.funs.mem hb).1
  rw [e] at this; cases this
theorem Inv.bs (I : Inv X pins σ H s) : ∀ b o, X.base.get? b = some o → s.heap.get? b = some o ∧ H b = none := fun b o e =>
  ⟨I.base.keep b o (I.ok.bs b o e).1 (I.ok.bs b o e).2 (I.ok.nofr e) (I.ok.noex b o e), I.base.free b o (I.ok.bs b o e).1 (I.ok.bs b o e).2 (I.ok.noex b o e)⟩
theorem Inv.bk (I : Inv X pins σ H s) : ∀ b o, X.base.get? b = some o → s.heap.get? b = some o := fun b o e => (I.bs b o e).1
theorem Inv.mod (I : Inv X pins σ H s) : Mod X.K X.mg X.base := I.ok.mod
theorem Inv.kIn (I : Inv X pins σ H s) : X.K.In s.heap := I.ok.mod.kin.keeps I.bk

theorem Inv.lt (I : Inv X pins σ H s) : X.env.locals < s.heap.objs.size := let ⟨_, hn, _⟩ := I.loc; hn.lt
theorem Inv.sz (I : Inv X pins σ H s) : X.s_0.heap.objs.size ≤ s.heap.objs.size := Nat.le_trans I.ok.above (Nat.le_of_lt I.lt)
theorem Inv.nofs (I : Inv X pins σ H s) {a : Addr} (h : s.heap.objs.size ≤ a) : a ∉ X.fs := fun hb => by
  obtain ⟨_, o, ho, _⟩ := I.ok.funs.mem hb
  exact absurd (Nat.lt_of_lt_of_le (Heap.lt_size ho) (Nat.le_trans I.sz h)) (Nat.lt_irrefl _)
theorem Inv.cne (I : Inv X pins σ H s) : ∀ x c, X.env.cells.lookup x = some c → c ≠ X.env.locals := fun x c e z => by
  obtain ⟨v, o, ho, hd⟩ := I.cell x c e
  obtain ⟨m, ⟨o', es, ep, ho', hd', _⟩, _⟩ := I.loc
  rw [z, ho'] at ho; cases ho; rw [hd'] at hd; cases hd
theorem Inv.funs (I : Inv X pins σ H s) : s.heap.FunFrames X.base X.outer := by
  have all : ∀ (l : List Env), (∀ b ∈ frs l, b ∈ X.fs) → X.s_0.heap.FunFrames X.base l → s.heap.FunFrames X.base l := by
    intro l
    induction l with
    | nil => intro _ _; trivial
    | cons env r ih =>
      intro hs hl
      obtain ⟨hk, ⟨L, o, hf, hn, ho, hd⟩, hr⟩ := hl
      have hL : L ∈ X.fs := hs L (by unfold frs; rw [List.filterMap_cons, hf]; exact List.mem_cons_self)
      obtain ⟨sl, e⟩ := I.base.slot L o ho (I.ok.frf L hL) hL fun z => I.ok.exfs L z hL
      exact ⟨hk, ⟨L, _, hf, hn, e, hd⟩, ih (fun b hb => hs b (by unfold frs; rw [List.filterMap_cons, hf]; exact List.mem_cons_of_mem _ hb)) hr⟩
  exact all X.outer (fun _ hb => hb) I.ok.funs

/-- the frames that run, for a call -/
theorem Inv.stack (I : Inv X pins σ H s) : s.heap.FunFrames X.base X.stack := by
  rcases I.ok.stk with e | ⟨e, hf⟩
  · rw [e]; exact I.funs
  · rw [e]
    obtain ⟨m, hn, _⟩ := I.loc
    refine .cons (by rw [I.ok.kind]; decide) hf hn ?_ I.funs
    exact Heap.get?_none_of_le (Nat.le_trans I.ok.bsz I.ok.above)
theorem Inv.stkSub (I : Inv X pins σ H s) : ∀ b ∈ frs X.stack, b ∈ X.env.locals :: X.fs := fun b hb => by
  rcases I.ok.stk with e | ⟨e, hf⟩
  · rw [e] at hb; exact List.mem_cons_of_mem _ hb
  · rw [e] at hb
    unfold frs at hb
    rw [List.filterMap_cons, hf] at hb
    exact hb
theorem Inv.stkFree (I : Inv X pins σ H s) : ∀ b ∈ frs X.stack, H b = none := fun b hb => by
  rcases List.mem_cons.mp (I.stkSub b hb) with e | hb
  · rw [e]; exact I.free
  · obtain ⟨_, o, ho, _⟩ := I.ok.funs.mem hb
    exact I.base.free b o ho (I.ok.frf b hb) fun z => I.ok.exfs b z hb

/-- THE STEP: the untracked objects but the frame and the records at ch are kept (the callers' frames up to slots), the frame's map is kept, the new abstract heap is held -/
theorem Inv.step {g' : Array GenState} {t' : Nat} {d' : Drawn} {ch : List Addr} (I : Inv X pins σ H s)
    (hch : ∀ b ∈ ch, (b ∈ X.ex ∨ X.s_0.heap.objs.size ≤ b) ∧ b ≠ X.env.locals ∧ (∀ x c, X.env.cells.lookup x = some c → c ≠ b) ∧ ∀ p ∈ X.pn ++ pins, p.1 ≠ b)
    (keep : ∀ b o, b ≠ X.env.locals → b ∉ X.fs → b ∉ ch → s.heap.get? b = some o → H b = none → h'.get? b = some o)
    (slot : ∀ b o, b ≠ X.env.locals → b ∈ X.fs → b ∉ ch → s.heap.get? b = some o → H b = none → ∃ sl, h'.get? b = some { o with slots := sl }) (free : ∀ b o, b ∉ ch → s.heap.get? b = some o → H b = none → H' b = none)
    (there : ∀ b o, b ∉ ch → s.heap.get? b = some o → ∃ o', h'.get? b = some o')
    (tups : ∀ b xs, H b = some (.tup xs) → H' b = some (.tup xs)) (frzs : ∀ b o u, H b = some (.frz o u) → H' b = some (.frz o u)) (tbls : ∀ b ps, H b = some (.tbl ps) → ∃ more, H' b = some (.tbl (ps ++ more)))
    (ns : ∀ m, s.heap.Ns X.env.locals m → h'.Ns X.env.locals m) (hok : HOk X.prog X.w H' h') (hg : AllBare g') :
    Inv X pins σ H' { s with heap := h', gens := g', drawn := d', toks := t' } := by
  have neL : ∀ b o, X.s_0.heap.get? b = some o → b ≠ X.env.locals := fun b o e => Nat.ne_of_lt (Nat.lt_of_lt_of_le (Heap.lt_size e) I.ok.above)
  have neC : ∀ b o, X.s_0.heap.get? b = some o → b ∉ X.ex → b ∉ ch := fun b o e hx hb => by
    rcases (hch b hb).1 with z | z
    · exact hx z
    · exact absurd (Nat.lt_of_lt_of_le (Heap.lt_size e) z) (Nat.lt_irrefl _)
  have cellK : ∀ x c, X.env.cells.lookup x = some c → ∀ v, s.heap.IsCell c v → h'.IsCell c v := fun x c e v ⟨o, ho, hd⟩ => by
    have nch : c ∉ ch := fun z => (hch c z).2.2.1 x c e rfl
    by_cases hc : c ∈ X.fs
    · obtain ⟨sl, q⟩ := slot c o (I.cne x c e) hc nch ho (I.freeC x c e)
      exact ⟨_, q, hd⟩
    · exact ⟨o, keep c o (I.cne x c e) hc nch ho (I.freeC x c e), hd⟩
  refine ⟨I.ok, I.os, hg, ⟨fun b o e n hb hx => ?_, fun b o e n hb hx => ?_, fun b o e n hx => ?_, fun b o e hx => ?_, fun b xs e => tups b xs (I.base.tups b xs e), fun b o xs e => frzs b o xs (I.base.frzs b o xs e), fun b ps e => ?_⟩, ?_, fun x c e => ?_, ?_, fun x c e => ?_, fun p hp => ?_, hok, I.len⟩
  · exact keep b o (neL b o e) hb (neC b o e hx) (I.base.keep b o e n hb hx) (I.base.free b o e n hx)
  · obtain ⟨sl, e1⟩ := I.base.slot b o e n hb hx
    obtain ⟨sl', e2⟩ := slot b _ (neL b o e) hb (neC b o e hx) e1 (I.base.free b o e n hx)
    exact ⟨sl', e2⟩
  · obtain ⟨o', e1⟩ := I.base.there b o e hx
    exact free b o' (neC b o e hx) e1 (I.base.free b o e n hx)
  · obtain ⟨o', e1⟩ := I.base.there b o e hx
    exact there b o' (neC b o e hx) e1
  · obtain ⟨m1, e1⟩ := I.base.tbls b ps e
    obtain ⟨m2, e2⟩ := tbls b _ e1
    exact ⟨m1 ++ m2, by rw [e2, Array.append_assoc]⟩
  · obtain ⟨m, hn, hl⟩ := I.loc
    refine ⟨m, ns m hn, fun i x v e1 e2 e3 => ?_⟩
    obtain ⟨u, r, l⟩ := hl i x v e1 e2 e3
    refine ⟨u, r, ?_⟩
    rcases l with l | ⟨k, c, e, z⟩
    · exact .inl l
    · exact .inr ⟨k, c, e, cellK x c e _ z⟩
  · obtain ⟨v, z⟩ := I.cell x c e
    exact ⟨v, cellK x c e v z⟩
  · obtain ⟨m, ⟨o, _, _, ho, _⟩, _⟩ := I.loc
    exact free _ o (fun z => (hch _ z).2.1 rfl) ho I.free
  · obtain ⟨v, o, ho, hd⟩ := I.cell x c e
    exact free c o (fun z => (hch c z).2.2.1 x c e rfl) ho (I.freeC x c e)
  · obtain ⟨e, n, ne, nf, d⟩ := I.pin p hp
    have nch : p.1 ∉ ch := fun z => (hch p.1 z).2.2.2 p hp rfl
    exact ⟨keep p.1 p.2 ne nf nch e n, free p.1 p.2 nch e n, ne, nf, d⟩
/-- .. where the frame's own object is kept too -/
theorem Inv.un {t' : Nat} (I : Inv X pins σ H s) (u : Un X.fs [] H H' s.heap h') (hok : HOk X.prog X.w H' h') : Inv X pins σ H' { s with heap := h', toks := t' } := by
  obtain ⟨m, ⟨o, es, ep, ho, r⟩, _⟩ := id I.loc
  obtain ⟨sl, hL⟩ := u.any ho I.free (by simp)
  exact I.step (g' := s.gens) (d' := s.drawn) (ch := []) (fun _ z => nomatch z) (fun b o _ hb _ e n => u.keep b o e n hb (by simp)) (fun b o _ hb _ e n => u.slot b o e n hb (by simp)) (fun b o _ e n => u.free b o e n (by simp)) (fun b o _ e => u.there b o e (by simp)) u.tups u.frzs u.tbls (fun m' hm => by
    obtain ⟨o', es', ep', ho', r'⟩ := hm
    rw [ho] at ho'; cases ho'
    exact ⟨_, es', ep', hL, r'⟩) hok I.bare
/-- behind a call (or a comprehension's block): the slots of this frame may have changed too, the records at ch may have turned -/
theorem Inv.call {g' : Array GenState} {t' : Nat} {d' : Drawn} {ch : List Addr} (I : Inv X pins σ H s) (u : Un (frs X.stack) ch H H' s.heap h') (hok : HOk X.prog X.w H' h') (hg : AllBare g')
    (hch : ∀ b ∈ ch, (b ∈ X.ex ∨ X.s_0.heap.objs.size ≤ b) ∧ b ≠ X.env.locals ∧ (∀ x c, X.env.cells.lookup x = some c → c ≠ b) ∧ ∀ p ∈ X.pn ++ pins, p.1 ≠ b) :
    Inv X pins σ H' { s with heap := h', gens := g', drawn := d', toks := t' } := by
  obtain ⟨m, ⟨o, es, ep, ho, r⟩, _⟩ := id I.loc
  obtain ⟨sl, hL⟩ := u.any ho I.free fun z => (hch _ z).2.1 rfl
  exact I.step (ch := ch) hch (fun b o hL hb hc e n => u.keep b o e n (fun z => (List.mem_cons.mp (I.stkSub b z)).elim hL hb) hc) (fun b o _ _ hc e n => u.any e n hc) (fun b o hc e n => u.free b o e n hc) (fun b o hc e => u.there b o e hc) u.tups u.frzs u.tbls (fun m' hm => by
    obtain ⟨o', es', ep', ho', r'⟩ := hm
    rw [ho] at ho'; cases ho'
    exact ⟨_, es', ep', hL, r'⟩) hok hg
/-- an untracked record of ours (an iterator) has turned -/
theorem Inv.turned {t' : Nat} {it : Addr} (I : Inv X pins σ H s) (k : ∀ b o, b ≠ it → s.heap.get? b = some o → h'.get? b = some o) (hn : H it = none) (hL : it ≠ X.env.locals)
    (h1 : it ∈ X.ex ∨ X.s_0.heap.objs.size ≤ it) (h2 : ∀ x c, X.env.cells.lookup x = some c → c ≠ it) (h3 : ∀ p ∈ X.pn ++ pins, p.1 ≠ it) : Inv X pins σ H { s with heap := h', toks := t' } := by
  have nit : ∀ b u, H b = some u → b ≠ it := fun b u e z => by rw [z, hn] at e; cases e
  refine I.step (g' := s.gens) (d' := s.drawn) (ch := [it]) (fun b hb => ?_) (fun b o _ _ hc e _ => k b o (fun z => hc (by simp [z])) e) (fun b o _ _ hc e _ => ⟨o.slots, k b o (fun z => hc (by simp [z])) e⟩) (fun _ _ _ _ n => n)
    (fun b o hc e => ⟨o, k b o (fun z => hc (by simp [z])) e⟩) (fun _ _ e => e) (fun _ _ _ e => e) (fun b ps e => ⟨#[], by rw [e]; simp⟩) (fun m hm => ?_) (fun b u e => ?_) I.bare
  · have e : b = it := by simpa using hb
    subst e
    exact ⟨h1, hL, h2, h3⟩
  · obtain ⟨o, es, ep, ho, r⟩ := hm
    exact ⟨o, es, ep, k _ o (Ne.symm hL) ho, r⟩
  · refine (I.hok b u e).stay (fun c v hc q => k c v ?_ q) (fun _ q => q) fun _ _ q => q
    rcases hc with z | z
    · rw [z]; exact nit b u e
    · exact nit c _ z
theorem Inv.tok (I : Inv X pins σ H s) (t : Nat) : Inv X pins σ H { s with toks := t } := I.un (h' := s.heap) (t' := t) Un.refl I.hok
/-- all objects kept -/
theorem Inv.kept {t' : Nat} (I : Inv X pins σ H s) (k : ∀ b u, s.heap.get? b = some u → h'.get? b = some u) : Inv X pins σ H { s with heap := h', toks := t' } := I.un (Un.kept k) (I.hok.kept k)
/-- a new object laid and tracked -/
theorem Inv.laid {a : Addr} {o : HO} {t' : Nat} (I : Inv X pins σ H s) (k : ∀ b u, s.heap.get? b = some u → h'.get? b = some u) (hp : s.heap.objs.size ≤ a) (new : ObjOk X.prog X.w (upd H a o) h' a o) :
    Inv X pins σ (upd H a o) { s with heap := h', toks := t' } := I.un (Un.laid k hp (I.hok.fresh hp)) (I.hok.laid k hp new)
/-- an object written -/
theorem Inv.write {x e : Addr} {o : HO} {t' : Nat} (I : Inv X pins σ H s) (mu : Mut (H x)) (he : e = x ∨ H e = some (.own x)) (k : ∀ b u, b ≠ e → s.heap.get? b = some u → h'.get? b = some u) (heo : ∃ u, h'.get? e = some u)
    (new : ObjOk X.prog X.w (upd H x o) h' x o) : Inv X pins σ (upd H x o) { s with heap := h', toks := t' } := I.un (Un.write mu he k heo) (I.hok.write mu he k heo new)
/-- forgetting slots, pins -/
theorem Inv.weak {σ' : List (Option V)} (I : Inv X pins σ H s) (hl : σ'.length = σ.length) (w : ∀ (i : Nat) v, σ'[i]? = some (some v) → σ[i]? = some (some v)) : Inv X pins σ' H s :=
  ⟨I.ok, I.os, I.bare, I.base, let ⟨m, hn, hl'⟩ := I.loc; ⟨m, hn, fun i x v e1 e2 e3 => hl' i x v e1 (w i v e2) e3⟩, I.cell, I.free, I.freeC, I.pin, I.hok, hl.trans I.len⟩
theorem Inv.pins_of {pins' : List (Addr × Obj)} (I : Inv X pins σ H s) (h : ∀ p ∈ pins', s.heap.get? p.1 = some p.2 ∧ H p.1 = none ∧ p.1 ≠ X.env.locals ∧ p.1 ∉ X.fs ∧ ∀ v, p.2.data ≠ .cell v) : Inv X pins' σ H s :=
  ⟨I.ok, I.os, I.bare, I.base, I.loc, I.cell, I.free, I.freeC, fun p hp => (List.mem_append.mp hp).elim (fun z => I.pin p (List.mem_append_left _ z)) (h p), I.hok, I.len⟩

theorem nodup_ix {N : List Str} (hN : N.Nodup) {i j : Nat} {x : Str} (a : N[i]? = some x) (b : N[j]? = some x) : i = j := by
  obtain ⟨h1, e1⟩ := List.getElem?_eq_some_iff.mp a
  obtain ⟨h2, e2⟩ := List.getElem?_eq_some_iff.mp b
  exact (List.getElem_inj hN).mp (e1.trans e2.symm)

/-- a name is stored; what changed -/
theorem store_ok2 {M : Model} {A : Around} {E : Value → Shared → Prop} {i : Nat} {x : Str} {v : V} {u : Value} {Q : Unit → Shared → Prop} (I : Inv X pins σ H s) (hN : X.N.Nodup) (hi : X.N[i]? = some x) (hx : Loc X.env.scope x) (r : RelV v u)
    (h : ∀ s', Inv X pins (σ.set i (some v)) H s' → (∃ a, Heap.SameBut a s.heap s'.heap ∧ (a = X.env.locals ∨ X.env.cells.lookup x = some a)) → Q () s') (hf : X.fn x = true ∨ X.env.scope.names.lookup x = some .local := by first | exact .inl rfl | exact .inr rfl | assumption) : wpAny M A (storeName X.env x u) Q E s := by
  obtain ⟨m, hn, hl⟩ := id I.loc
  have hcls : (X.env.scope.kind == .class || (X.env.scope.kind == .module && X.env.locals != X.env.globals)) = false := by rw [I.ok.kind]; rfl
  have hiσ : i < σ.length := by rw [I.len]; exact (List.getElem?_eq_some_iff.mp hi).1
  have cne := I.cne
  have tracked : ∀ {a : Addr} {h' : Heap}, (∃ o, s.heap.get? a = some o ∧ H a = none) → Heap.SameBut a s.heap h' → HOk X.prog X.w H h' := fun {a h'} ha hs b ob e => by
    obtain ⟨_, _, hfree⟩ := ha
    refine (I.hok b ob e).stay (fun c w' hc q => (hs.2 c ?_).trans q) (fun _ q => q) fun _ _ q => q
    rintro rfl
    rcases hc with rfl | hc
    · rw [hfree] at e; cases e
    · rw [hfree] at hc; cases hc
  rcases hx with hk | hk
  · refine wpAny_storeName_local hk hn (fun h' hn' hs => ?_) hcls
    obtain ⟨oL, _, _, hoL, _⟩ := id hn
    refine h _ ⟨I.ok, I.os, I.bare, ⟨fun b o e n hb hx => ?_, fun b o e n hb hx => ?_, I.base.free, fun b o e hx => ?_, I.base.tups, I.base.frzs, I.base.tbls⟩, ⟨_, hn', fun j y v' e1 e2 e3 => ?_⟩, fun y c e => ?_, I.free, I.freeC, fun p hp => ?_, tracked ⟨oL, hoL, I.free⟩ hs, by simpa using I.len⟩ ⟨_, hs, .inl rfl⟩
    · exact (hs.2 b (Nat.ne_of_lt (Nat.lt_of_lt_of_le (Heap.lt_size e) I.ok.above))).trans (I.base.keep b o e n hb hx)
    · obtain ⟨sl, e1⟩ := I.base.slot b o e n hb hx
      exact ⟨sl, (hs.2 b (Nat.ne_of_lt (Nat.lt_of_lt_of_le (Heap.lt_size e) I.ok.above))).trans e1⟩
    · obtain ⟨o', e1⟩ := I.base.there b o e hx
      exact ⟨o', (hs.2 b (Nat.ne_of_lt (Nat.lt_of_lt_of_le (Heap.lt_size e) I.ok.above))).trans e1⟩
    · by_cases hj : j = i
      · subst hj
        rw [hi] at e1; cases e1
        rw [List.getElem?_set_self hiσ] at e2
        cases e2
        exact ⟨u, r, .inl ⟨hk, by simp⟩⟩
      · rw [List.getElem?_set_ne (Ne.symm hj)] at e2
        obtain ⟨u', r', q⟩ := hl j y v' e1 e2 e3
        refine ⟨u', r', ?_⟩
        rcases q with ⟨k, e⟩ | ⟨k, c, e, z⟩
        · refine .inl ⟨k, ?_⟩
          have : y ≠ x := fun e => hj (nodup_ix hN e1 (e ▸ hi))
          simp [this, e]
        · exact .inr ⟨k, c, e, z.sameBut hs (cne y c e)⟩
    · obtain ⟨w', z⟩ := I.cell y c e
      exact ⟨w', z.sameBut hs (cne y c e)⟩
    · obtain ⟨e, n, ne, nf, d⟩ := I.pin p hp
      exact ⟨(hs.2 p.1 ne).trans e, n, ne, nf, d⟩
  · have hfn : X.fn x = true := by
      rcases hf with z | z
      · exact z
      · rw [z] at hk; cases hk
    obtain ⟨c, hc⟩ := I.ok.has x (.inl hk)
    obtain ⟨w', z⟩ := I.cell x c hc
    refine wpAny_storeName_cell I.ok.kind hk hc z (fun h' hc' hs => ?_)
    obtain ⟨oc, hoc, hocd⟩ := id z
    refine h { s with heap := h' } ⟨I.ok, I.os, I.bare, ⟨fun b o e n hb hx => ?_, fun b o e n hb hx => ?_, I.base.free, fun b o e hx => ?_, I.base.tups, I.base.frzs, I.base.tbls⟩, ⟨m, hn.sameBut hs (Ne.symm (cne x c hc)), fun j y v' e1 e2 e3 => ?_⟩, fun y c' e => ?_, I.free, I.freeC, fun p hp => ?_, tracked ⟨oc, hoc, I.freeC x c hc⟩ hs, by simpa using I.len⟩ ⟨c, hs, .inr hc⟩
    · exact (hs.2 b (Nat.ne_of_lt (Nat.lt_of_lt_of_le (Heap.lt_size e) (I.ok.cab x c hfn hc)))).trans (I.base.keep b o e n hb hx)
    · obtain ⟨sl, e1⟩ := I.base.slot b o e n hb hx
      exact ⟨sl, (hs.2 b (Nat.ne_of_lt (Nat.lt_of_lt_of_le (Heap.lt_size e) (I.ok.cab x c hfn hc)))).trans e1⟩
    · obtain ⟨o', e1⟩ := I.base.there b o e hx
      exact ⟨o', (hs.2 b (Nat.ne_of_lt (Nat.lt_of_lt_of_le (Heap.lt_size e) (I.ok.cab x c hfn hc)))).trans e1⟩
    · by_cases hj : j = i
      · subst hj
        rw [hi] at e1; cases e1
        rw [List.getElem?_set_self hiσ] at e2
        cases e2
        exact ⟨u, r, .inr ⟨.inl hk, c, hc, hc'⟩⟩
      · rw [List.getElem?_set_ne (Ne.symm hj)] at e2
        obtain ⟨u', r', q⟩ := hl j y v' e1 e2 e3
        refine ⟨u', r', ?_⟩
        rcases q with q | ⟨k, c', e, z'⟩
        · exact .inl q
        · refine .inr ⟨k, c', e, z'.sameBut hs ?_⟩
          rintro rfl
          exact hj (nodup_ix hN e1 (I.ok.inj _ _ _ e hc ▸ hi))
    · by_cases hcc : c' = c
      · subst hcc; exact ⟨_, hc'⟩
      · obtain ⟨w2, z2⟩ := I.cell y c' e
        exact ⟨w2, z2.sameBut hs hcc⟩
    · obtain ⟨e, n, ne, nf, d⟩ := I.pin p hp
      refine ⟨(hs.2 p.1 ?_).trans e, n, ne, nf, d⟩
      intro q
      rw [q, hoc] at e
      have q' : oc = p.2 := Option.some.inj e
      exact d w' (by rw [← q']; exact hocd)
theorem store_ok {M : Model} {A : Around} {E : Value → Shared → Prop} {i : Nat} {x : Str} {v : V} {u : Value} {Q : Unit → Shared → Prop} (I : Inv X pins σ H s) (hN : X.N.Nodup) (hi : X.N[i]? = some x) (hx : Loc X.env.scope x) (r : RelV v u)
    (h : ∀ s', Inv X pins (σ.set i (some v)) H s' → Q () s') (hf : X.fn x = true ∨ X.env.scope.names.lookup x = some .local := by first | exact .inl rfl | exact .inr rfl | assumption) : wpAny M A (storeName X.env x u) Q E s :=
  store_ok2 I hN hi hx r (fun s' I' _ => h s' I') hf
/-- behind a call or a block, the state as it is -/
theorem Inv.call' {s' : Shared} {ch : List Addr} (I : Inv X pins σ H s) (ho : s'.os = s.os) (u : Un (frs X.stack) ch H H' s.heap s'.heap) (hok : HOk X.prog X.w H' s'.heap) (hg : AllBare s'.gens)
    (hch : ∀ b ∈ ch, (b ∈ X.ex ∨ X.s_0.heap.objs.size ≤ b) ∧ b ≠ X.env.locals ∧ (∀ x c, X.env.cells.lookup x = some c → c ≠ b) ∧ ∀ p ∈ X.pn ++ pins, p.1 ≠ b) : Inv X pins σ H' s' := by
  obtain ⟨h', g', d', t', o'⟩ := s'
  have e : o' = s.os := ho
  subst e
  exact I.call (g' := g') (t' := t') (d' := d') u hok hg hch
end

/-! ### the judgements -/
/-- an exception: its class, its own dict's address (where it has one), the abstract heap behind it -/
abbrev XK := Value → Option Addr → Hp → Prop
abbrev St := List (Option V)
abbrev VK := V → Hp → Prop
/-- an expression's reading; a test's; an argument list's -/
abbrev TE := St → Hp → VK → Prop
abbrev TT := St → Hp → (Bool → Hp → Prop) → Prop
abbrev TA := St → Hp → (List V → Hp → Prop) → Prop
/-- what is wanted behind a statement -/
structure Ends where
  nx : St → Hp → Prop
  rt : VK
  bk : St → Hp → Prop := fun _ _ => False
  ct : St → Hp → Prop := fun _ _ => False
abbrev TS := Ends → St → Hp → Prop

def EP (X : Cx) (pins : List (Addr × Obj)) (σ : St) (Q : VK) (u : Value) (s' : Shared) : Prop := ∃ v H', Inv X pins σ H' s' ∧ RelV v u ∧ Q v H'
def TP (X : Cx) (pins : List (Addr × Obj)) (σ : St) (Q : Bool → Hp → Prop) (b : Bool) (s' : Shared) : Prop := ∃ H', Inv X pins σ H' s' ∧ Q b H'
def AP (X : Cx) (pins : List (Addr × Obj)) (σ : St) (Q : List V → Hp → Prop) (us : List Value) (s' : Shared) : Prop := ∃ vs H', Inv X pins σ H' s' ∧ Vals vs us ∧ Q vs H'
def SP (X : Cx) (pins : List (Addr × Obj)) (D : Ends) (f : Flow) (s' : Shared) : Prop :=
  match f with
  | .next => ∃ σ' H', Inv X pins σ' H' s' ∧ D.nx σ' H'
  | .brk => ∃ σ' H', Inv X pins σ' H' s' ∧ D.bk σ' H'
  | .cont => ∃ σ' H', Inv X pins σ' H' s' ∧ D.ct σ' H'
  | .ret u => ∃ v σ' H', Inv X pins σ' H' s' ∧ RelV v u ∧ D.rt v H'

def PE (X : Cx) (e : Expr) (t : TE) : Prop :=
  ∀ (pins : List (Addr × Obj)) (s : Shared) (σ : St) (H : Hp) (Q : VK), Inv X pins σ H s → t σ H Q → wpAny (model X.prog X.w) X.A (eval e X.env) (EP X pins σ Q) X.xe s
def PT (X : Cx) (e : Expr) (t : TT) : Prop :=
  ∀ (pins : List (Addr × Obj)) (s : Shared) (σ : St) (H : Hp) (Q : Bool → Hp → Prop), Inv X pins σ H s → t σ H Q → wpAny (model X.prog X.w) X.A (isTrue e X.env (eval e X.env)) (TP X pins σ Q) X.xe s
/-- a test whatever its 'whole' is (and, or) -/
def PW (X : Cx) (e : Expr) (t : TT) : Prop :=
  ∀ (whole : Sem Value) (pins : List (Addr × Obj)) (s : Shared) (σ : St) (H : Hp) (Q : Bool → Hp → Prop), Inv X pins σ H s → t σ H Q → wpAny (model X.prog X.w) X.A (isTrue e X.env whole) (TP X pins σ Q) X.xe s
theorem PW.pt {X : Cx} {e : Expr} {t : TT} (h : PW X e t) : PT X e t := h _
/-- an argument list (no star), from the left -/
def PA (X : Cx) (es : List Expr) (t : TA) : Prop :=
  ∀ (pos : Pos) (pins : List (Addr × Obj)) (s : Shared) (σ : St) (H : Hp) (Q : List V → Hp → Prop), Inv X pins σ H s → t σ H Q → wpAny (model X.prog X.w) X.A (spliced (backTo pos (starEach es X.env))) (AP X pins σ Q) X.xe s
def PS (X : Cx) (st : Stmt) (t : TS) : Prop :=
  ∀ (pins : List (Addr × Obj)) (s : Shared) (σ : St) (H : Hp) (D : Ends), Inv X pins σ H s → t D σ H → wpAny (model X.prog X.w) X.A (exec st X.env) (SP X pins D) X.xe s
def PSs (X : Cx) (st : List Stmt) (t : TS) : Prop :=
  ∀ (pins : List (Addr × Obj)) (s : Shared) (σ : St) (H : Hp) (D : Ends), Inv X pins σ H s → t D σ H → wpAny (model X.prog X.w) X.A (execs st X.env) (SP X pins D) X.xe s
/-- weaken the end -/
theorem thn {α : Type} {t : Sem α} {Q Q' : α → Shared → Prop} {M : Model} {A : Around} {E : Value → Shared → Prop} {s : Shared} (h : wpAny M A t Q E s) (hQ : ∀ a s, Q a s → Q' a s) : wpAny M A t Q' E s := wpAny_mono h hQ fun _ _ x => x
end L2

namespace L2
open PySem PySem.Spec PyProof.Rows
section
variable {X : Cx}

/-- two expressions in a row -/
theorem bin {a b : Expr} {ta tb : TE} (ha : PE X a ta) (hb : PE X b tb) {pins : List (Addr × Obj)} {s : Shared} {σ : St} {H : Hp} {R : V → V → Hp → Prop} (I : Inv X pins σ H s) (h : ta σ H fun x H1 => tb σ H1 fun y H2 => R x y H2)
    {α : Type} {Q : α → Shared → Prop} {f : Value → Value → Sem α}
    (hf : ∀ v u s2 x y H2, Inv X pins σ H2 s2 → RelV x v → RelV y u → R x y H2 → wpAny (model X.prog X.w) X.A (f v u) Q X.xe s2) :
    wpAny (model X.prog X.w) X.A (eval a X.env) (fun v s₁ => wpAny (model X.prog X.w) X.A (eval b X.env) (fun u s₂ => wpAny (model X.prog X.w) X.A (f v u) Q X.xe s₂) X.xe s₁) X.xe s := by
  refine thn (ha pins s σ H _ I h) fun v s1 ⟨x, H1, I1, r1, q1⟩ => ?_
  refine thn (hb pins s1 σ H1 _ I1 q1) fun u s2 ⟨y, H2, I2, r2, q2⟩ => ?_
  exact hf v u s2 x y H2 I2 r1 r2 q2

/-! ### names and constants -/
def tVar (i : Nat) : TE := fun σ H Q => ∃ v, σ[i]? = some (some v) ∧ Q v H
def tC (v : V) : TE := fun _ H Q => Q v H
theorem pe_var {i : Nat} {x : Str} {pos : Pos} (hN : X.N[i]? = some x) (hv : Vis X.env.scope x) (hd : (x == ("__debug__" : Str)) = false := by decide) (hcd : (x == ("__classdict__" : Str)) = false := by decide) : PE X (.Name x pos) (tVar i) := by
  intro pins s σ H Q I h
  obtain ⟨v, e, h⟩ := h
  obtain ⟨m, hn, hl⟩ := I.loc
  obtain ⟨u, r, l⟩ := hl i x v hN e hv
  have fin : EP X pins σ Q u s := ⟨v, H, I, r, h⟩
  rcases l with ⟨hk, hm⟩ | ⟨hk, c, hc, hcell⟩
  · exact wpAny_Name (wpAny_loadName_local I.ok.kind hk hn hm fin) hd
  · rcases hk with hk | hk
    · exact wpAny_Name (wpAny_loadName_cell I.ok.kind hk hc hcell fin) hd
    · exact wpAny_Name (wpAny_loadName_free I.ok.kind hk hc hcell fin hcd) hd
theorem pe_int {i j pos} : PE X (.Constant (.int i) j pos) (tC (.int i)) := fun _ _ _ H _ I h => wpAny_Constant_int ⟨.int i, H, I.tok _, ⟨_, rfl⟩, h⟩
theorem pe_bl {b j pos} : PE X (.Constant (.bool b) j pos) (tC (.bl b)) := fun _ _ _ H _ I h => Constant_bool ⟨.bl b, H, I, rfl, h⟩

/-- a global name of the def -/
def Gl (X : Cx) (x : Str) : Prop := X.env.kindOf x = some .globalImplicit
theorem ld_glob {E : Value → Shared → Prop} {pins : List (Addr × Obj)} {s : Shared} {σ : St} {H : Hp} {x : Str} {u : Value} {pos : Pos} {Q : Value → Shared → Prop} (I : Inv X pins σ H s) (hg : Gl X x) (hm : X.mg x = some u) (h : Q u s)
    (hd : (x == ("__debug__" : Str)) = false := by decide) : wpAny (model X.prog X.w) X.A (eval (.Name x pos) X.env) Q E s :=
  Calls.Name_function_global I.ok.kind hg (Calls.loadGlobal_global (by rw [I.ok.glob]; exact I.mod.glob.keeps I.bk) hm h) hd
theorem ld_blt {E : Value → Shared → Prop} {pins : List (Addr × Obj)} {s : Shared} {σ : St} {H : Hp} {x : Str} {u : Value} {pos : Pos} {Q : Value → Shared → Prop} (I : Inv X pins σ H s) (hg : Gl X x) (hm : X.mg x = none) (hv : bootBuiltins x = some u) (h : Q u s)
    (hn : x ≠ "__name__" := by decide) (hd : (x == ("__debug__" : Str)) = false := by decide) : wpAny (model X.prog X.w) X.A (eval (.Name x pos) X.env) Q E s := by
  obtain ⟨mb, h1, h2⟩ := I.mod.blt
  exact Calls.Name_function_global I.ok.kind hg (Calls.loadGlobal_builtin (by rw [I.ok.glob]; exact I.mod.glob.keeps I.bk) hm (by rw [I.ok.blt]; exact h1.keeps I.bk) ((h2 x hn).trans hv) h) hd
/-- a module's constant, a class, a function, as a value -/
theorem pe_glob {x : Str} {v : V} {u : Value} {pos : Pos} (hg : Gl X x) (hm : X.mg x = some u) (r : RelV v u) (hd : (x == ("__debug__" : Str)) = false := by decide) : PE X (.Name x pos) (tC v) :=
  fun _ _ _ H _ I h => ld_glob I hg hm ⟨v, H, I, r, h⟩ hd

/-! ### arithmetic -/
/-- two ints -/
def t2I (ta tb : TE) (k : Int → Int → Hp → Prop) : St → Hp → Prop := fun σ H => ta σ H fun x H1 => tb σ H1 fun y H2 => ∃ i j, x = .int i ∧ y = .int j ∧ k i j H2

variable {a b : Expr} {ta tb : TE} {pos : Pos}

/-! ### comparisons -/
def PC (X : Cx) (op : CmpOp) (a b : Expr) (t : TE) : Prop :=
  ∀ (pins : List (Addr × Obj)) (s : Shared) (σ : St) (H : Hp) (Q : VK), Inv X pins σ H s → t σ H Q →
    wpAny (model X.prog X.w) X.A (eval a X.env) (fun v s₁ => wpAny (model X.prog X.w) X.A (eval b X.env) (fun u s₂ => wpAny (model X.prog X.w) X.A (compareOp op v u) (EP X pins σ Q) X.xe s₂) X.xe s₁) X.xe s
theorem nobehind (b : Expr) {op : CmpOp} (h : op ≠ .In) (h2 : op ≠ .NotIn) : behindInMarks op b = false := by
  have e1 : (op == CmpOp.In) = false := by cases op <;> first | rfl | exact absurd rfl h
  have e2 : (op == CmpOp.NotIn) = false := by cases op <;> first | rfl | exact absurd rfl h2
  cases b <;> simp [behindInMarks, e1, e2]
def tCmp (p : Int → Int → Bool) (ta tb : TE) : TE := fun σ H Q => t2I ta tb (fun i j H2 => Q (.bl (p i j)) H2) σ H
abbrev tLt : TE → TE → TE := tCmp fun i j => decide (i < j)

abbrev tGt : TE → TE → TE := tCmp fun i j => decide (j < i)
abbrev tGe : TE → TE → TE := tCmp fun i j => decide (j ≤ i)
abbrev tEqI : TE → TE → TE := tCmp fun i j => decide (i = j)
abbrev tNeI : TE → TE → TE := tCmp fun i j => !decide (i = j)
/-- a comparison of two ints, by its rule -/
theorem pc_int {op : CmpOp} {p : Int → Int → Bool} (ha : PE X a ta) (hb : PE X b tb)
    (rule : ∀ (i j : Int) (t u : Tok) (Q : Value → Shared → Prop) (s : Shared), Q (.bool (p i j)) s → wpAny (model X.prog X.w) X.A (compareOp op (.int i t) (.int j u)) Q X.xe s) : PC X op a b (tCmp p ta tb) := by
  intro pins s σ H Q I h
  refine bin ha hb I h fun v u s2 x y H2 I2 rx ry q => ?_
  obtain ⟨i, j, rfl, rfl, q⟩ := q
  obtain ⟨t, rfl⟩ := rx
  obtain ⟨t', rfl⟩ := ry
  exact rule i j t t' _ s2 ⟨.bl _, H2, I2, rfl, q⟩
theorem pc_lt (ha : PE X a ta) (hb : PE X b tb) : PC X .Lt a b (tLt ta tb) := pc_int ha hb fun _ _ _ _ _ _ h => lt_int h

theorem pc_gt (ha : PE X a ta) (hb : PE X b tb) : PC X .Gt a b (tGt ta tb) := pc_int ha hb fun _ _ _ _ _ _ h => gt_int h
theorem pc_ge (ha : PE X a ta) (hb : PE X b tb) : PC X .GtE a b (tGe ta tb) := pc_int ha hb fun _ _ _ _ _ _ h => ge_int h
theorem pc_eqI (ha : PE X a ta) (hb : PE X b tb) : PC X .Eq a b (tEqI ta tb) := pc_int ha hb fun _ _ _ _ _ _ h => eq_int (by rw [Bool.beq_eq_decide_eq]; exact h)
theorem pc_neI (ha : PE X a ta) (hb : PE X b tb) : PC X .NotEq a b (tNeI ta tb) := pc_int ha hb fun _ _ _ _ _ _ h => ne_int (by rw [bne, Bool.beq_eq_decide_eq]; exact h)

/-- a comparison as a value, as a test -/
def tB (t : TE) : TT := fun σ H Q => t σ H fun x H1 => ∃ c, x = .bl c ∧ Q c H1

theorem pt_cmp {op : CmpOp} {t : TE} (h : PC X op a b t) (h1 : behindInMarks op b = false := by first | exact nobehind _ (by decide) (by decide) | rfl) : PT X (.Compare a [op] [b] pos) (tB t) := by
  intro pins s σ H Q I hw
  refine wpAny_isTrue_Compare1 (thn (h pins s σ H _ I hw) fun v s1 h1 => thn h1 fun u s2 h2 => thn h2 fun c s3 ⟨x, H1, I1, r1, q1⟩ => ?_) h1
  obtain ⟨d, rfl, q⟩ := q1
  cases r1
  exact wpAny_truthy_bool ⟨H1, I1, q⟩

/-! ### and, or, not -/
variable {tA tB' : TT} {rest : List Expr}

def tOr (t u : TT) : TT := fun σ H Q => t σ H fun c H1 => if c = true then Q true H1 else u σ H1 Q

theorem pw_or1 (ha : PT X a tA) : PW X (.BoolOp .Or [a] pos) tA := by
  intro wh pins s σ H Q I h
  refine isTrue_or (thn (ha pins s σ H Q I h) fun c s1 e => ?_)
  cases c with
  | false => exact isTrue_or_nil e
  | true => exact e

theorem pw_or (ha : PT X a tA) (hb : PW X (.BoolOp .Or (b :: rest) pos) tB') : PW X (.BoolOp .Or (a :: b :: rest) pos) (tOr tA tB') := by
  intro wh pins s σ H Q I h
  refine isTrue_or (thn (ha pins s σ H _ I h) fun c s1 ⟨H1, I1, q1⟩ => ?_)
  cases c with
  | true => exact ⟨H1, I1, q1⟩
  | false => exact hb wh pins s1 σ H1 Q I1 q1

/-- a if t else b -/
def tIf (t : TT) (ta tb : TE) : TE := fun σ H Q => t σ H fun c H1 => if c = true then ta σ H1 Q else tb σ H1 Q
theorem pe_ifExp {c : Expr} (hc : PT X c tA) (ha : PE X a ta) (hb : PE X b tb) : PE X (.IfExp c a b pos) (tIf tA ta tb) := by
  intro pins s σ H Q I h
  refine wpAny_IfExp (thn (hc pins s σ H _ I h) fun d s1 ⟨H1, I1, q1⟩ => ?_)
  cases d with
  | true => exact ha pins s1 σ H1 Q I1 q1
  | false => exact hb pins s1 σ H1 Q I1 q1
end
end L2

namespace L2
open PySem PySem.Spec PyProof.Rows

/-! ### a list, a tuple that is read: tracked, frozen, or an object of the module -/
def SqL (K : PySem.W.Frag) (H : Hp) (a : Addr) (xs : List V) : Prop :=
  Rd H a (.lst xs) ∨
    ∃ (o : Obj) (its : Array Value) (n : Nat), K.lookup a = some o ∧ o.cls = .type "list" ∧ o.dict = none ∧ o.data = .seq its n ∧ its.size ≤ sizeLine ∧ Vals xs its.toList
def SqT (K : PySem.W.Frag) (H : Hp) (a : Addr) (xs : List V) : Prop :=
  Rd H a (.tup xs) ∨
    ∃ (o : Obj) (its : Array Value) (n : Nat), K.lookup a = some o ∧ o.cls = .type "tuple" ∧ o.data = .seq its n ∧ its.size ≤ sizeLine ∧ Vals xs its.toList
def absV : Value → Option V
  | .none => some .non
  | .bool b => some (.bl b)
  | .int i _ => some (.int i)
  | .str x _ => some (.str x)
  | .bytes b _ => some (.byt b)
  | .float b _ => some (.flt b)
  | .ref a => some (.ref a)
  | .type n => some (.ty n)
  | _ => none
theorem RelV.abs {x : V} {u : Value} (r : RelV x u) : absV u = some x := by
  cases x with
  | non => cases r; rfl
  | bl _ => cases r; rfl
  | int _ => obtain ⟨t, rfl⟩ := r; rfl
  | str _ => obtain ⟨t, rfl⟩ := r; rfl
  | byt _ => obtain ⟨t, rfl⟩ := r; rfl
  | flt _ => obtain ⟨t, rfl⟩ := r; rfl
  | ref _ => cases r; rfl
  | ty _ => cases r; rfl
theorem RelV.inj {x y : V} {u : Value} (r : RelV x u) (q : RelV y u) : x = y := Option.some.inj (r.abs.symm.trans q.abs)
theorem Vals.inj : ∀ {xs ys : List V} {us : List Value}, Vals xs us → Vals ys us → xs = ys
  | _, _, _, .nil, .nil => rfl
  | _, _, _, .cons r t, .cons r' t' => by rw [r.inj r', Vals.inj t t']
section
variable {X : Cx} {pins : List (Addr × Obj)} {σ : St} {H : Hp} {s : Shared} {a : Addr} {xs ys : List V}
theorem SqL.of {K : PySem.W.Frag} (h : H a = some (.lst xs)) : SqL K H a xs := .inl (.inl h)
theorem SqT.of {K : PySem.W.Frag} (h : H a = some (.tup xs)) : SqT K H a xs := .inl (.inl h)
theorem Inv.list (I : Inv X pins σ H s) (h : SqL X.K H a xs) : ∃ its : List Value, Vals xs its ∧ PlainL s.heap a its.toArray ∧ xs.length ≤ sizeLine := by
  rcases h with h | ⟨o, its, n, hk, hc, hd, hs, hz, r⟩
  · obtain ⟨z, its, n, r, e⟩ := h.ok I.hok
    exact ⟨its, r, ⟨_, n, e, rfl, rfl, rfl⟩, z⟩
  · refine ⟨its.toList, r, ⟨o, n, I.kIn a o hk, hc, hd, by simpa using hs⟩, ?_⟩
    have e := r.length
    simp only [Array.length_toList] at e
    omega
theorem Inv.tuple (I : Inv X pins σ H s) (h : SqT X.K H a xs) : ∃ its : List Value, Vals xs its ∧ IsTup s.heap a its.toArray ∧ xs.length ≤ sizeLine := by
  rcases h with h | ⟨o, its, n, hk, hc, hs, hz, r⟩
  · obtain ⟨z, its, r, p⟩ := h.ok I.hok
    exact ⟨its, r, p, z⟩
  · refine ⟨its.toList, r, ⟨o, I.kIn a o hk, hc, n, by simpa using hs⟩, ?_⟩
    have e := r.length
    simp only [Array.length_toList] at e
    omega
theorem Inv.list_inj (I : Inv X pins σ H s) (h : SqL X.K H a xs) (h' : SqL X.K H a ys) : xs = ys := by
  obtain ⟨its, r, ⟨o, n, e, _, _, d⟩, _⟩ := I.list h
  obtain ⟨its', r', ⟨o', n', e', _, _, d'⟩, _⟩ := I.list h'
  rw [e] at e'; cases e'
  rw [d] at d'
  injection d' with d1 _
  have : its = its' := by simpa using congrArg Array.toList d1
  subst this
  exact r.inj r'
theorem Inv.tuple_inj (I : Inv X pins σ H s) (h : SqT X.K H a xs) (h' : SqT X.K H a ys) : xs = ys := by
  obtain ⟨its, r, ⟨o, e, _, n, d⟩, _⟩ := I.tuple h
  obtain ⟨its', r', ⟨o', e', _, n', d'⟩, _⟩ := I.tuple h'
  rw [e] at e'; cases e'
  rw [d] at d'
  injection d' with d1 _
  have : its = its' := by simpa using congrArg Array.toList d1
  subst this
  exact r.inj r'
end

/-! ### another wish about exceptions -/
abbrev Cx.wish (X : Cx) (E : Value → Shared → Prop) : Cx := { X with xe := E }
/-- no exception leaves -/
abbrev Cx.nox (X : Cx) : Cx := X.wish fun _ _ => False
theorem Cx.Ok.wish {X : Cx} (ok : X.Ok) (E : Value → Shared → Prop) : (X.wish E).Ok :=
  ⟨ok.mod, ok.kind, ok.glob, ok.blt, ok.above, ok.inj, ok.has, ok.cab, ok.hd, ok.frames, ok.stk, ok.exf, ok.bs, ok.bsz, ok.noex, ok.exfs, ok.funs, ok.frf⟩
theorem Cx.Ok.unwish {X : Cx} {E : Value → Shared → Prop} (ok : (X.wish E).Ok) : X.Ok :=
  ⟨ok.mod, ok.kind, ok.glob, ok.blt, ok.above, ok.inj, ok.has, ok.cab, ok.hd, ok.frames, ok.stk, ok.exf, ok.bs, ok.bsz, ok.noex, ok.exfs, ok.funs, ok.frf⟩
section
variable {X : Cx} {pins : List (Addr × Obj)} {σ : St} {H : Hp} {s : Shared} {E : Value → Shared → Prop}
theorem Inv.wish (I : Inv X pins σ H s) (E : Value → Shared → Prop) : Inv (X.wish E) pins σ H s := ⟨I.ok.wish E, I.os, I.bare, I.base, I.loc, I.cell, I.free, I.freeC, I.pin, I.hok, I.len⟩
theorem Inv.unwish (I : Inv (X.wish E) pins σ H s) : Inv X pins σ H s := ⟨I.ok.unwish, I.os, I.bare, I.base, I.loc, I.cell, I.free, I.freeC, I.pin, I.hok, I.len⟩
theorem SP.unwish {D : Ends} {f : Flow} {s' : Shared} (h : SP (X.wish E) pins D f s') : SP X pins D f s' := by
  cases f with
  | next => obtain ⟨σ', H', I, q⟩ := h; exact ⟨σ', H', I.unwish, q⟩
  | brk => obtain ⟨σ', H', I, q⟩ := h; exact ⟨σ', H', I.unwish, q⟩
  | cont => obtain ⟨σ', H', I, q⟩ := h; exact ⟨σ', H', I.unwish, q⟩
  | ret u => obtain ⟨v, σ', H', I, r, q⟩ := h; exact ⟨v, σ', H', I.unwish, r, q⟩

theorem PSs.nox {st : List Stmt} {t : TS} (h : PSs X.nox st t) : PSs X st t := fun pins s σ H D I hw =>
  wpAny_mono (h pins s σ H D (I.wish _) hw) (fun _ _ q => q.unwish) fun _ _ z => False.elim z
end

/-! ### blocks and small statements -/
section
variable {X : Cx} {st : Stmt} {rest : List Stmt} {t u : TS} {e : Expr} {te : TE} {pos : Pos}
def tNext : TS := fun D σ H => D.nx σ H
def tSeq (t u : TS) : TS := fun D σ H => t { D with nx := u D } σ H
theorem pss_nil : PSs X [] tNext := fun _ _ σ H _ I h => wpAny_execs_nil ⟨σ, H, I, h⟩
theorem pss_cons (h1 : PS X st t) (h2 : PSs X rest u) : PSs X (st :: rest) (tSeq t u) := by
  intro pins s σ H D I h
  refine wpAny_execs_cons (thn (h1 pins s σ H { D with nx := u D } I h) fun f s1 q => ?_)
  cases f with
  | next =>
    obtain ⟨σ', H', I', q⟩ := q
    exact h2 pins s1 σ' H' D I' q
  | ret v => exact q
  | brk => exact q
  | cont => exact q
theorem pss_one (h1 : PS X st t) : PSs X [st] t := by
  intro pins s σ H D I h
  refine wpAny_execs_cons (thn (h1 pins s σ H D I h) fun f s1 q => ?_)
  cases f with
  | next => exact wpAny_execs_nil q
  | ret v => exact q
  | brk => exact q
  | cont => exact q

/-- in a def's body nothing is shown -/
theorem Inv.quiet {pins : List (Addr × Obj)} {σ : St} {H : Hp} {s : Shared} (I : Inv X pins σ H s) : interactive X.env = false := by simp [interactive, I.ok.kind]

/-- an expression whose value is dropped -/
def tDrop (te : TE) : TS := fun D σ H => te σ H fun _ H1 => D.nx σ H1
theorem ps_expr (he : PE X e te) (hs : swapsWith e none pos.line X.env = pure false := by rfl) : PS X (.Expr e pos) (tDrop te) := by
  intro pins s σ H D I h
  exact wpAny_Expr_any (thn (he pins s σ H _ I h) fun v s1 ⟨x, H1, I1, r1, q1⟩ => ⟨σ, H1, I1, q1⟩) I.quiet hs
def tRet (te : TE) : TS := fun D σ H => te σ H D.rt
theorem ps_ret (he : PE X e te) : PS X (.Return (some e) pos) (tRet te) := by
  intro pins s σ H D I h
  exact wpAny_Return_some (thn (he pins s σ H _ I h) fun v s1 ⟨x, H1, I1, r1, q1⟩ => ⟨x, σ, H1, I1, r1, q1⟩)

def tIfS (c : TT) (t u : TS) : TS := fun D σ H => c σ H fun b H1 => if b = true then t D σ H1 else u D σ H1
theorem ps_if {c : Expr} {a b : List Stmt} {tc : TT} (hc : PT X c tc) (ha : PSs X a t) (hb : PSs X b u) : PS X (.If c a b pos) (tIfS tc t u) := by
  intro pins s σ H D I h
  refine wpAny_If (thn (hc pins s σ H _ I h) fun d s1 ⟨H1, I1, q1⟩ => ?_)
  cases d with
  | true => exact ha pins s1 σ H1 D I1 q1
  | false => exact hb pins s1 σ H1 D I1 q1

end

/-! ### targets -/
abbrev TG := V → St → Hp → (St → Hp → Prop) → Prop

def PG (X : Cx) (target : Expr) (t : TG) : Prop :=
  ∀ (pins : List (Addr × Obj)) (s : Shared) (σ : St) (H : Hp) (v : V) (u : Value) (Q : St → Hp → Prop), Inv X pins σ H s → RelV v u → t v σ H Q →
    wpAny (model X.prog X.w) X.A (assign target X.env u) (fun _ s' => ∃ σ' H', Inv X pins σ' H' s' ∧ Q σ' H') X.xe s

/-- o[i] = v, by values -/
abbrev TSet := V → V → V → Hp → (Hp → Prop) → Prop
def PSet (X : Cx) (t : TSet) : Prop :=
  ∀ (pins : List (Addr × Obj)) (s : Shared) (σ : St) (H : Hp) (o i v : V) (ov iv u : Value) (Q : Hp → Prop), Inv X pins σ H s → RelV o ov → RelV i iv → RelV v u → t o i v H Q →
    wpAny (model X.prog X.w) X.A (setItem ov iv u) (fun _ s' => ∃ H', Inv X pins σ H' s' ∧ Q H') X.xe s
/-- a op= b, by values -/
abbrev TIp := V → V → Hp → VK → Prop
def PIp (X : Cx) (op : Operator) (t : TIp) : Prop :=
  ∀ (pins : List (Addr × Obj)) (s : Shared) (σ : St) (H : Hp) (x y : V) (v u : Value) (Q : VK), Inv X pins σ H s → RelV x v → RelV y u → t x y H Q →
    wpAny (model X.prog X.w) X.A (inplaceOp op v u) (EP X pins σ Q) X.xe s
section
variable {X : Cx} {pos : Pos}
def gName (i : Nat) : TG := fun v σ H Q => Q (σ.set i (some v)) H
theorem pg_name {i : Nat} {x : Str} (hN : X.N.Nodup) (hi : X.N[i]? = some x) (hx : Loc X.env.scope x) (hf : X.fn x = true ∨ X.env.scope.names.lookup x = some .local := by first | exact .inl rfl | exact .inr rfl | assumption) : PG X (.Name x pos) (gName i) := by
  intro pins s σ H v u Q I r h
  exact wpAny_assign_Name (store_ok I hN hi hx r (fun s' I' => ⟨_, H, I', h⟩) hf)

/-- target = value -/
def tAsg (te : TE) (g : TG) : TS := fun D σ H => te σ H fun x H1 => g x σ H1 D.nx

/-- name = value -/
theorem ps_set {i : Nat} {x : Str} {e : Expr} {te : TE} {pos' : Pos} (hN : X.N.Nodup) (hi : X.N[i]? = some x) (hx : Loc X.env.scope x) (he : PE X e te) (hs : swapsWith e (some (.Name x pos')) pos.line X.env = pure false := by rfl) (hf : X.fn x = true ∨ X.env.scope.names.lookup x = some .local := by first | exact .inl rfl | exact .inr rfl | assumption) :
    PS X (.Assign [.Name x pos'] e pos) (tAsg te (gName i)) := by
  intro pins s σ H D I h
  refine wpAny_Assign_Name (thn (he pins s σ H _ I h) fun v s1 ⟨y, H1, I1, r1, q1⟩ => ?_) hs
  exact store_ok I1 hN hi hx r1 (fun s2 I2 => ⟨_, H1, I2, q1⟩) hf

/-- name op= e -/
def tAug (i : Nat) (te : TE) (ti : TIp) : TS := fun D σ H => ∃ x, σ[i]? = some (some x) ∧ te σ H fun y H1 => ti x y H1 fun z H2 => D.nx (σ.set i (some z)) H2
theorem ps_aug {i : Nat} {x : Str} {e : Expr} {te : TE} {op : Operator} {ti : TIp} {pos' : Pos} (hN : X.N.Nodup) (hi : X.N[i]? = some x) (hx : Loc X.env.scope x) (he : PE X e te) (ho : PIp X op ti) (hf : X.fn x = true ∨ X.env.scope.names.lookup x = some .local := by first | exact .inl rfl | exact .inr rfl | assumption) :
    PS X (.AugAssign (.Name x pos') op e pos) (tAug i te ti) := by
  intro pins s σ H D I h
  obtain ⟨v, e1, h⟩ := h
  obtain ⟨m, hn, hl⟩ := I.loc
  have vis : Vis X.env.scope x := by rcases hx with k | k; exact .inl k; exact .inr (.inl k)
  obtain ⟨u, r, l⟩ := hl i x v hi e1 vis
  refine wpAny_AugAssign_Name ?_
  have go : wpAny (model X.prog X.w) X.A (eval e X.env) (fun w s₂ => wpAny (model X.prog X.w) X.A (inplaceOp op u w) (fun r s₃ => wpAny (model X.prog X.w) X.A (storeName X.env x r) (fun _ => SP X pins D .next) X.xe s₃) X.xe s₂) X.xe s := by
    refine thn (he pins s σ H _ I h) fun w s1 ⟨y, H1, I1, r1, q1⟩ => ?_
    refine thn (ho pins s1 σ H1 v y u w _ I1 r r1 q1) fun z s2 ⟨zv, H2, I2, r2, q2⟩ => ?_
    exact store_ok I2 hN hi hx r2 (fun s3 I3 => ⟨_, H2, I3, q2⟩) hf
  rcases l with ⟨hk, hm⟩ | ⟨hk, c, hc, hcell⟩
  · exact wpAny_loadName_local I.ok.kind hk hn hm go
  · rcases hk with hk | hk
    · exact wpAny_loadName_cell I.ok.kind hk hc hcell go
    · rcases hx with k | k
      · have : X.env.scope.names.lookup x = some .free := hk
        rw [k] at this; cases this
      · have : X.env.scope.names.lookup x = some .free := hk
        rw [k] at this; cases this
/-- o[i] op= e -/
def tAugS (to ti te : TE) (tget : V → V → Hp → VK → Prop) (tip : TIp) (tset : TSet) : TS := fun D σ H => to σ H fun o H1 => ti σ H1 fun i H2 => tget o i H2 fun x H3 => te σ H3 fun y H4 => tip x y H4 fun z H5 => tset o i z H5 fun H6 => D.nx σ H6
/-- o[i], by values -/
def PGet (X : Cx) (t : V → V → Hp → VK → Prop) : Prop :=
  ∀ (pins : List (Addr × Obj)) (s : Shared) (σ : St) (H : Hp) (o i : V) (ov iv : Value) (Q : VK), Inv X pins σ H s → RelV o ov → RelV i iv → t o i H Q →
    wpAny (model X.prog X.w) X.A (getItem ov iv) (EP X pins σ Q) X.xe s
theorem ps_augS {o i e : Expr} {to ti te : TE} {tget : V → V → Hp → VK → Prop} {tip : TIp} {tset : TSet} {op : Operator} {tpos : Pos} (ho : PE X o to) (hi : PE X i ti) (hg : PGet X tget) (he : PE X e te) (hp : PIp X op tip) (hs : PSet X tset)
    (ha : ∀ ov iv new, augStore i ov iv new = (do holding [new, ov, iv] (setItem ov iv new); release [new, ov, iv] []; pure .next) := by intros; rfl) : PS X (.AugAssign (.Subscript o i tpos) op e pos) (tAugS to ti te tget tip tset) := by
  intro pins s σ H D I h
  refine wpAny_AugAssign_SubscriptAny (thn (ho pins s σ H _ I h) fun ov s1 ⟨x1, H1, I1, r1, q1⟩ => ?_) ha
  refine thn (hi pins s1 σ H1 _ I1 q1) fun iv s2 ⟨x2, H2, I2, r2, q2⟩ => ?_
  refine thn (hg pins s2 σ H2 x1 x2 ov iv _ I2 r1 r2 q2) fun old s3 ⟨x3, H3, I3, r3, q3⟩ => ?_
  refine thn (he pins s3 σ H3 _ I3 q3) fun v s4 ⟨x4, H4, I4, r4, q4⟩ => ?_
  refine thn (hp pins s4 σ H4 x3 x4 old v _ I4 r3 r4 q4) fun new s5 ⟨x5, H5, I5, r5, q5⟩ => ?_
  exact thn (hs pins s5 σ H5 x1 x2 x5 ov iv new _ I5 r1 r2 r5 q5) fun _ s6 ⟨H6, I6, q6⟩ => ⟨σ, H6, I6, q6⟩
/-- ints -/
def ipI (f : Int → Int → Int) : TIp := fun x y H Q => ∃ i j, x = .int i ∧ y = .int j ∧ Q (.int (f i j)) H
theorem ip_add : PIp X .Add (ipI fun i j => i + j) := by
  intro pins s σ H x y v u Q I r1 r2 h
  obtain ⟨i, j, e1, e2, q⟩ := h
  subst e1; subst e2
  obtain ⟨t, rfl⟩ := r1
  obtain ⟨t', rfl⟩ := r2
  exact iadd_int ⟨.int _, H, I.tok _, ⟨_, rfl⟩, q⟩

end

/-! ### while -/
section
variable {X : Cx} {pos : Pos}
/-- the invariant W with its measure -/
def tWhile (c : TT) (tb : TS) : TS := fun D σ H => ∃ W : Nat → St → Hp → Prop, (∃ m, W m σ H) ∧ ∀ m σ H, W m σ H →
  c σ H fun b H1 => if b = true then ∃ N : St → Hp → Prop, (∀ σ' H', N σ' H' → ∃ m', m' < m ∧ W m' σ' H') ∧ tb { D with nx := N, ct := N, bk := D.nx } σ H1 else D.nx σ H1
theorem ps_while {c : Expr} {body : List Stmt} {tc : TT} {tb : TS} (hp : PassesOwn (model X.prog X.w) X.A X.env X.xe) (hc : PT X c tc) (hb : PSs X body tb) : PS X (.While c body [] pos) (tWhile tc tb) := by
  intro pins s σ H D I h
  obtain ⟨W, ⟨m0, w0⟩, turn⟩ := h
  refine wpAny_While (codeAny_whileLoop (fun n s' => ∃ σ' H', Inv X pins σ' H' s' ∧ W n σ' H') ?_ m0 ⟨σ, H, I, w0⟩)
  rintro n s1 ⟨σ1, H1, I1, w1⟩
  refine wpAny_passesOwn hp (thn (hc pins s1 σ1 H1 _ I1 (turn n σ1 H1 w1)) fun b s2 ⟨H2, I2, q2⟩ => ?_)
  cases b with
  | true =>
    obtain ⟨N, hN, q2⟩ := q2
    rw [if_pos rfl]
    refine wpAny_passesOwn hp (thn (hb pins s2 σ1 H2 _ I2 q2) fun f s3 q3 => ?_)
    cases f with
    | next =>
      obtain ⟨σ3, H3, I3, n3⟩ := q3
      obtain ⟨m', hm, w3⟩ := hN σ3 H3 n3
      exact ⟨m', hm, σ3, H3, I3, w3⟩
    | cont =>
      obtain ⟨σ3, H3, I3, n3⟩ := q3
      obtain ⟨m', hm, w3⟩ := hN σ3 H3 n3
      exact ⟨m', hm, σ3, H3, I3, w3⟩
    | brk => exact q3
    | ret v => exact q3
  | false =>
    rw [if_neg Bool.false_ne_true]
    exact wpAny_execs_nil ⟨σ1, H2, I2, q2⟩
end

/-! ### what a loop or a comprehension walks -/
/-- at turn i: it yields x (the heap may grow), or it stops -/
structure It where
  go : Nat → Hp → Prop
  yld : Nat → Hp → V → Hp → Prop
  stop : Nat → Hp → Prop
/-- the iterator's own objects may turn: they are not the frame's, not pinned, younger than the entry (or a comprehension's own) -/
def FpOk (X : Cx) (pins : List (Addr × Obj)) (H : Hp) (b : Addr) : Prop :=
  H b = none ∧ b ≠ X.env.locals ∧ b ∉ X.fs ∧ (b ∈ X.ex ∨ X.s_0.heap.objs.size ≤ b) ∧ (∀ x c, X.env.cells.lookup x = some c → c ≠ b) ∧ ∀ p ∈ X.pn ++ pins, p.1 ≠ b
theorem Inv.fpOk {X : Cx} {pins : List (Addr × Obj)} {σ : St} {H H' : Hp} {s : Shared} {b : Addr} (I : Inv X pins σ H s) (hb : s.heap.objs.size ≤ b) (hn : H' b = none) : FpOk X pins H' b := by
  refine ⟨hn, Nat.ne_of_gt (Nat.lt_of_lt_of_le I.lt hb), I.nofs hb, .inr (Nat.le_trans I.sz hb), fun x c e z => ?_, fun p hp z => ?_⟩
  · obtain ⟨v, q⟩ := I.cell x c e
    exact absurd (Nat.lt_of_lt_of_le q.lt (by rw [z]; exact hb)) (Nat.lt_irrefl _)
  · exact absurd (Nat.lt_of_lt_of_le (Heap.lt_size (I.pin p hp).1) (by rw [z]; exact hb)) (Nat.lt_irrefl _)
structure Turn (P : Program) (w : World) (K : PySem.W.Frag) (tg : Expr) (J : It) (fp : List Addr) (it : Addr) (tn : Nat → Heap → Prop) : Prop where
  mem : it ∈ fp
  obj : ∀ i h, tn i h → ∀ b ∈ fp, ∃ o, h.get? b = some o ∧ ∀ v, o.data ≠ .cell v
  keep : ∀ i h h', tn i h → (∀ b ∈ fp, ∀ o, h.get? b = some o → h'.get? b = some o) → tn i h'
  item : ∀ (X : Cx), X.prog = P → X.w = w → X.K = K → X.calm = true → ∀ (i : Nat) (pins : List (Addr × Obj)) (s : Shared) (σ : St) (H : Hp) (E : Value → Shared → Prop), Inv X pins σ H s → (∀ b ∈ fp, FpOk X pins H b) → tn i s.heap → J.go i H →
    wpAny (model P w) X.A (pyNext (.ref it)) (fun r s1 => ∃ u, r = some u ∧
      wpAny (model P w) X.A (letOwnedTupleGo tg (.ref it) u) (fun _ s2 => ∃ x H', Inv X pins σ H' s2 ∧ RelV x u ∧ J.yld i H x H' ∧ tn (i + 1) s2.heap ∧ ∀ b ∈ fp, H' b = none) E s1) E s
  done : ∀ (X : Cx), X.prog = P → X.w = w → X.K = K → X.calm = true → ∀ (i : Nat) (pins : List (Addr × Obj)) (s : Shared) (σ : St) (H : Hp) (E : Value → Shared → Prop), Inv X pins σ H s → (∀ b ∈ fp, FpOk X pins H b) → tn i s.heap → J.stop i H →
    wpAny (model P w) X.A (pyNext (.ref it)) (fun r s1 => r = none ∧ Inv X pins σ H s1) E s
  self : ∀ (A : Around) (i : Nat) (s : Shared) (Q : Value → Shared → Prop) (E : Value → Shared → Prop), tn i s.heap → Q (.ref it) s → wpAny (model P w) A (pyIter (.ref it)) Q E s
abbrev TI := St → Hp → (It → Hp → Prop) → Prop
/-- an iterator has come -/
def PIE (X : Cx) (pins : List (Addr × Obj)) (σ : St) (tg : Expr) (R : It → Hp → Prop) (itv : Value) (s2 : Shared) : Prop :=
  ∃ (it : Addr) (fp : List Addr) (tn : Nat → Heap → Prop) (J : It) (H' : Hp), itv = .ref it ∧ Inv X pins σ H' s2 ∧ Turn X.prog X.w X.K tg J fp it tn ∧ tn 0 s2.heap ∧ (∀ b ∈ fp, FpOk X pins H' b) ∧ R J H'
def PI (X : Cx) (tg iter : Expr) (wi : TI) : Prop :=
  ∀ (pins : List (Addr × Obj)) (s : Shared) (σ : St) (H : Hp) (R : It → Hp → Prop), Inv X pins σ H s → wi σ H R →
    wpAny (model X.prog X.w) X.A (eval iter X.env) (fun v s1 => wpAny (model X.prog X.w) X.A (pyIter v) (PIE X pins σ tg R) X.xe s1) X.xe s

/-- the step ahead of the store is nothing for an iterator that keeps no tuple -/
theorem go_of {M : Model} {A : Around} {E : Value → Shared → Prop} {s : Shared} {tg : Expr} {it : Addr} {u : Value} {o : Obj} {n : String} {vs : Array Value} {Q : Unit → Shared → Prop} (ho : s.heap.get? it = some o) (hc : o.cls = .type n) (hd : o.data = .fields vs)
    (hn : ["enumerate", "zip", "dict_itemiterator", "dict_reverseitemiterator", "odict_iterator", "itertools.zip_longest", "itertools.pairwise"].contains n = false) (hQ : Q () s) : wpAny M A (letOwnedTupleGo tg (.ref it) u) Q E s := by
  unfold letOwnedTupleGo
  cases tg <;> first
    | exact wpAny_pure hQ
    | (cases u <;> first
        | exact wpAny_pure hQ
        | (refine wpAny_bind (wpAny_load ho ?_)
           rw [hc, hd]
           show wpAny M A (if (["enumerate", "zip", "dict_itemiterator", "dict_reverseitemiterator", "odict_iterator", "itertools.zip_longest", "itertools.pairwise"].contains n && vs[0]? == some (rawInt _)) = true then _ else _) Q E s
           rw [if_neg (by intro h; rw [hn, Bool.false_and] at h; cases h)]
           exact wpAny_pure hQ))

/-- the list at a, as it stands at each turn (a loop may append to it) -/
def Itl (K : PySem.W.Frag) (a : Addr) : It :=
  ⟨fun i H => ∃ xs x, SqL K H a xs ∧ xs[i]? = some x, fun i H x H' => H' = H ∧ ∀ xs, SqL K H a xs → xs[i]? = some x, fun i H => ∃ xs, SqL K H a xs ∧ xs.length ≤ i⟩
def Itt (K : PySem.W.Frag) (a : Addr) : It :=
  ⟨fun i H => ∃ xs x, SqT K H a xs ∧ xs[i]? = some x, fun i H x H' => H' = H ∧ ∀ xs, SqT K H a xs → xs[i]? = some x, fun i H => ∃ xs, SqT K H a xs ∧ xs.length ≤ i⟩
/-- lo, lo + 1, .. (n of them) -/
def Itr (lo : Int) (n : Nat) : It := ⟨fun i _ => i < n, fun i H x H' => H' = H ∧ x = .int (lo + i), fun i _ => n ≤ i⟩
theorem turn_list {P : Program} {w : World} {K : PySem.W.Frag} {tg : Expr} (a it : Addr) : Turn P w K tg (Itl K a) [it] it (fun i h => h.IsListIter it a i) where
  mem := by simp
  obj := fun i h st b hb => by
    have e : b = it := by simpa using hb
    subst e
    obtain ⟨o, e, c, d⟩ := st
    exact ⟨o, e, fun v z => by rw [d] at z; cases z⟩
  keep := fun i h h' st k => st.at fun o e => k it (by simp) o e
  item := by
    intro X hP hw hK hc i pins s σ H E I hf st hg
    subst hP hw hK
    obtain ⟨xs, x, hq, hx⟩ := hg
    obtain ⟨its, rv, p, hz⟩ := I.list hq
    obtain ⟨u, hu, ru⟩ := rv.get hx
    obtain ⟨f0, f1, f2, f3, f4, f5⟩ := hf it (by simp)
    refine wpAny_pyNext_list_item st p.isList (x := u) (by simpa using hu) fun h' st' sb => ?_
    have I1 : Inv X pins σ H { s with heap := h' } := I.turned (t' := s.toks) (fun b o hb e => (sb.2 b hb).trans e) f0 f1 f3 f4 f5
    obtain ⟨o, e, c, d⟩ := id st'
    exact ⟨u, rfl, go_of (s := { s with heap := h' }) e c d (by decide) ⟨x, H, I1, ru, ⟨rfl, fun ys hy => by rw [I.list_inj hy hq]; exact hx⟩, st', fun b hb => (hf b hb).1⟩⟩
  done := by
    intro X hP hw hK hc i pins s σ H E I hf st hg
    subst hP hw hK
    obtain ⟨xs, hq, hx⟩ := hg
    obtain ⟨its, rv, p, hz⟩ := I.list hq
    obtain ⟨f0, f1, f2, f3, f4, f5⟩ := hf it (by simp)
    have hl := rv.length
    exact wpAny_pyNext_list_end (I.ok.hd hc) st p.isList (by simp; omega) fun h' eb => ⟨rfl, I.turned (t' := s.toks) (fun b o hb e => eb b o hb e) f0 f1 f3 f4 f5⟩
  self := fun _ _ _ _ _ st h => wpAny_pyIter_listiter st h
theorem turn_tuple {P : Program} {w : World} {K : PySem.W.Frag} {tg : Expr} (a it : Addr) : Turn P w K tg (Itt K a) [it] it (fun i h => h.IsTupleIter it a i) where
  mem := by simp
  obj := fun i h st b hb => by
    have e : b = it := by simpa using hb
    subst e
    obtain ⟨o, e, c, d⟩ := st
    exact ⟨o, e, fun v z => by rw [d] at z; cases z⟩
  keep := fun i h h' st k => st.at fun o e => k it (by simp) o e
  item := by
    intro X hP hw hK hc i pins s σ H E I hf st hg
    subst hP hw hK
    obtain ⟨xs, x, hq, hx⟩ := hg
    obtain ⟨its, rv, p, hz⟩ := I.tuple hq
    obtain ⟨u, hu, ru⟩ := rv.get hx
    obtain ⟨f0, f1, f2, f3, f4, f5⟩ := hf it (by simp)
    refine wpAny_pyNext_tuple_item st (show s.heap.IsTuple a its.toArray from p) (x := u) (by simpa using hu) fun h' st' sb => ?_
    have I1 : Inv X pins σ H { s with heap := h' } := I.turned (t' := s.toks) (fun b o hb e => (sb.2 b hb).trans e) f0 f1 f3 f4 f5
    obtain ⟨o, e, c, d⟩ := id st'
    exact ⟨u, rfl, go_of (s := { s with heap := h' }) e c d (by decide) ⟨x, H, I1, ru, ⟨rfl, fun ys hy => by rw [I.tuple_inj hy hq]; exact hx⟩, st', fun b hb => (hf b hb).1⟩⟩
  done := by
    intro X hP hw hK hc i pins s σ H E I hf st hg
    subst hP hw hK
    obtain ⟨xs, hq, hx⟩ := hg
    obtain ⟨its, rv, p, hz⟩ := I.tuple hq
    obtain ⟨f0, f1, f2, f3, f4, f5⟩ := hf it (by simp)
    have hl := rv.length
    exact wpAny_pyNext_tuple_end (I.ok.hd hc) st (show s.heap.IsTuple a its.toArray from p) (by simp; omega) fun h' eb => ⟨rfl, I.turned (t' := s.toks) (fun b o hb e => eb b o hb e) f0 f1 f3 f4 f5⟩
  self := fun _ _ _ _ _ st h => wpAny_pyIter_tupleiter st h
theorem turn_range {P : Program} {w : World} {K : PySem.W.Frag} {tg : Expr} (it : Addr) (lo : Int) (n : Nat) : Turn P w K tg (Itr lo n) [it] it (fun i h => IsRangeIter h it (lo + (i : Nat) * 1) ((n : Int) - (i : Nat)) 1) where
  mem := by simp
  obj := fun i h st b hb => by
    have e : b = it := by simpa using hb
    subst e
    exact ⟨_, st, fun v z => by
      have z' : Data.fields _ = Data.cell v := z
      cases z'⟩
  keep := fun i h h' st k => k it (by simp) _ st
  item := by
    intro X hP hw hK hc i pins s σ H E I hf st hg
    subst hP hw hK
    obtain ⟨f0, f1, f2, f3, f4, f5⟩ := hf it (by simp)
    have W := Walks.range (prog := X.prog) (w := X.w) (I.ok.hd hc) it lo 1 n
    refine W.item i s _ _ hg st fun v h' tk hv st' kk => ?_
    obtain ⟨t, rfl⟩ := hv
    have I1 : Inv X pins σ H { s with heap := h', toks := tk } := I.turned (fun b o hb e => kk b o (by simpa using hb) e) f0 f1 f3 f4 f5
    refine ⟨_, rfl, go_of (s := { s with heap := h', toks := tk }) (n := "range_iterator") st' rfl rfl (by decide) ⟨.int (lo + i), H, I1, ⟨t, ?_⟩, ⟨rfl, rfl⟩, st', fun b hb => (hf b hb).1⟩⟩
    rw [Int.mul_one]
  done := by
    intro X hP hw hK hc i pins s σ H E I hf st hg
    subst hP hw hK
    obtain ⟨f0, f1, f2, f3, f4, f5⟩ := hf it (by simp)
    exact wpAny_pyNext_range_end (I.ok.hd hc) st (by have : n ≤ i := hg; omega) fun h' eb => ⟨rfl, I.turned (t' := s.toks) (fun b o hb e => eb b o hb e) f0 f1 f3 f4 f5⟩
  self := fun _ _ _ _ _ st h => wpAny_pyIter_rangeiter st h
end L2

namespace L2
open PySem PySem.Spec PyProof.Rows
section
variable {X : Cx} {tg : Expr}
def iList (K : PySem.W.Frag) (tl : TE) : TI := fun σ H R => tl σ H fun x H1 => ∃ a, x = .ref a ∧ (∃ xs, SqL K H1 a xs) ∧ R (Itl K a) H1
def iTup (K : PySem.W.Frag) (tl : TE) : TI := fun σ H R => tl σ H fun x H1 => ∃ a, x = .ref a ∧ (∃ xs, SqT K H1 a xs) ∧ R (Itt K a) H1
theorem pi_list {l : Expr} {tl : TE} (hl : PE X l tl) : PI X tg l (iList X.K tl) := by
  intro pins s σ H R I h
  refine thn (hl pins s σ H _ I h) fun v s1 ⟨x, H1, I1, r1, q1⟩ => ?_
  obtain ⟨a, e, ⟨xs, hq⟩, q⟩ := q1
  subst e
  cases r1
  obtain ⟨its, rv, p, hz⟩ := I1.list hq
  refine wpAny_pyIter_list p.isList ?_
  refine ⟨s1.heap.objs.size, [s1.heap.objs.size], _, _, H1, rfl, I1.kept (t' := s1.toks) fun b o e => Heap.get?_push_of_some _ e, turn_list a _, ⟨_, Heap.get?_push_size _ rfl, rfl, rfl⟩, fun b hb => ?_, q⟩
  have e : b = s1.heap.objs.size := by simpa using hb
  subst e
  exact I1.fpOk (Nat.le_refl _) (I1.hok.fresh (Nat.le_refl _))
theorem pi_tup {l : Expr} {tl : TE} (hl : PE X l tl) : PI X tg l (iTup X.K tl) := by
  intro pins s σ H R I h
  refine thn (hl pins s σ H _ I h) fun v s1 ⟨x, H1, I1, r1, q1⟩ => ?_
  obtain ⟨a, e, ⟨xs, hq⟩, q⟩ := q1
  subst e
  cases r1
  obtain ⟨its, rv, p, hz⟩ := I1.tuple hq
  refine wpAny_pyIter_tuple (show s1.heap.IsTuple a its.toArray from p) ?_
  refine ⟨s1.heap.objs.size, [s1.heap.objs.size], _, _, H1, rfl, I1.kept (t' := s1.toks) fun b o e => Heap.get?_push_of_some _ e, turn_tuple a _, ⟨_, Heap.get?_push_size _ rfl, rfl, rfl⟩, fun b hb => ?_, q⟩
  have e : b = s1.heap.objs.size := by simpa using hb
  subst e
  exact I1.fpOk (Nat.le_refl _) (I1.hok.fresh (Nat.le_refl _))
/-- a range object just made, walked -/
theorem range_it {pins : List (Addr × Obj)} {σ : St} {H : Hp} {s : Shared} {R : It → Hp → Prop} {E : Value → Shared → Prop} {lo hi : Int} {t u v : Tok} {tk : Nat} (I : Inv X pins σ H s) (h1 : -(2 ^ 62) ≤ lo) (h2 : lo < 2 ^ 62) (h3 : -(2 ^ 62) ≤ hi) (h4 : hi < 2 ^ 62)
    (q : R (Itr lo (hi - lo).toNat) H) : wpAny (model X.prog X.w) X.A (pyIter (.ref s.heap.objs.size)) (PIE X pins σ tg R) E { s with heap := s.heap.push { cls := .type "range", data := .fields #[.int lo t, .int hi u, .int 1 v] }, toks := tk } := by
  refine wpAny_pyIter_range (IsRange.new ..) (small_one h1 h2 h3 h4) ?_
  have I1 : Inv X pins σ H { s with heap := s.heap.push { cls := .type "range", data := .fields #[.int lo t, .int hi u, .int 1 v] }, toks := tk } := I.kept fun b o e => Heap.get?_push_of_some _ e
  refine ⟨(s.heap.push { cls := .type "range", data := .fields #[.int lo t, .int hi u, .int 1 v] }).objs.size, [(s.heap.push { cls := .type "range", data := .fields #[.int lo t, .int hi u, .int 1 v] }).objs.size], _, _, H, rfl,
    I1.kept (t' := tk) fun b o e => Heap.get?_push_of_some _ e, turn_range _ lo (hi - lo).toNat, ?_, fun b hb => ?_, q⟩
  · have e1 : lo + ((0 : Nat) : Int) * 1 = lo := by simp
    have e2 : (((hi - lo).toNat : Nat) : Int) - ((0 : Nat) : Int) = Builtin.Range.rangeSize lo hi 1 := by rw [rangeSize_one]; split <;> omega
    show IsRangeIter _ _ (lo + ((0 : Nat) : Int) * 1) ((((hi - lo).toNat : Nat) : Int) - ((0 : Nat) : Int)) 1
    rw [e1, e2]
    exact Heap.get?_push_size _ rfl
  · have e : b = (s.heap.push { cls := .type "range", data := .fields #[.int lo t, .int hi u, .int 1 v] }).objs.size := by simpa using hb
    subst e
    exact I1.fpOk (Nat.le_refl _) (I1.hok.fresh (Nat.le_refl _))
def iRng1 (ta : TA) : TI := fun σ H R => ta σ H fun vs H1 => ∃ j : Int, vs = [.int j] ∧ -(2 ^ 62) ≤ j ∧ j < 2 ^ 62 ∧ R (Itr 0 j.toNat) H1
def iRng2 (ta : TA) : TI := fun σ H R => ta σ H fun vs H1 => ∃ i j : Int, vs = [.int i, .int j] ∧ (-(2 ^ 62) ≤ i ∧ i < 2 ^ 62 ∧ -(2 ^ 62) ≤ j ∧ j < 2 ^ 62) ∧ R (Itr i (j - i).toNat) H1
theorem pi_range1 {a : Expr} {ta : TA} {p pos : Pos} (hg : Gl X "range") (hm : X.mg "range" = none) (ha : PA X [a] ta) (hs : starEach [a] X.env = [(false, eval a X.env)] := by rfl) : PI X tg (.Call (.Name "range" p) [a] [] pos) (iRng1 ta) := by
  intro pins s σ H R I h
  refine Call_ (ld_blt I hg hm boot_range (PyProof.Rows.callWith_type1 (thn (ha pos pins s σ H _ I h) fun us s1 ⟨vs, H1, I1, r1, q1⟩ => ?_) hs rfl))
  obtain ⟨j, e, q1, q2, q⟩ := q1
  subst e
  cases r1 with
  | cons r rr =>
    cases rr
    obtain ⟨t, rfl⟩ := r
    exact call_range_1 (range_it I1 (by omega) (by omega) q1 q2 (by simpa using q))
theorem pi_range2 {a b : Expr} {ta : TA} {p pos : Pos} (hg : Gl X "range") (hm : X.mg "range" = none) (ha : PA X [a, b] ta) (hs : starEach [a, b] X.env = [(false, eval a X.env), (false, eval b X.env)] := by rfl) (hs2 : starEach [b] X.env = [(false, eval b X.env)] := by rfl) :
    PI X tg (.Call (.Name "range" p) [a, b] [] pos) (iRng2 ta) := by
  intro pins s σ H R I h
  refine Call_ (ld_blt I hg hm boot_range (PyProof.Rows.callWith_type1 (thn (ha pos pins s σ H _ I h) fun us s1 ⟨vs, H1, I1, r1, q1⟩ => ?_) (by rw [hs, hs2]) (by rw [hs2]; rfl)))
  obtain ⟨i, j, e, ⟨q1, q2, q3, q4⟩, q⟩ := q1
  subst e
  cases r1 with
  | cons r rr =>
    cases rr with
    | cons r' rr =>
      cases rr
      obtain ⟨t, rfl⟩ := r
      obtain ⟨t', rfl⟩ := r'
      exact call_range_2 (range_it I1 q1 q2 q3 q4 q)

/-! ### for -/
/-- W: the invariant by the turn and a measure; N: what the body is to reach -/
def tFor (wi : TI) (g : TG) (tb : TS) : TS := fun D σ H => wi σ H fun J H1 => ∃ W : Nat → Nat → St → Hp → Prop, (∃ m, W 0 m σ H1) ∧ ∀ i m σ H, W i m σ H →
  (J.stop i H ∧ D.nx σ H) ∨ (J.go i H ∧ ∃ N : St → Hp → Prop, (∀ σ' H', N σ' H' → ∃ m', m' < m ∧ W (i + 1) m' σ' H') ∧ ∀ x H', J.yld i H x H' → g x σ H' fun σ2 H2 => tb { D with nx := N, ct := N, bk := D.nx } σ2 H2)
/-- the records at fp as they stand -/
def pinsAt (fp : List Addr) (h : Heap) : List (Addr × Obj) := fp.filterMap fun b => (h.get? b).map fun o => (b, o)
theorem mem_pinsAt {fp : List Addr} {h : Heap} {b : Addr} {o : Obj} (hb : b ∈ fp) (e : h.get? b = some o) : (b, o) ∈ pinsAt fp h := List.mem_filterMap.mpr ⟨b, hb, by rw [e]; rfl⟩
theorem of_pinsAt {fp : List Addr} {h : Heap} {p : Addr × Obj} (hp : p ∈ pinsAt fp h) : p.1 ∈ fp ∧ h.get? p.1 = some p.2 := by
  obtain ⟨b, hb, e⟩ := List.mem_filterMap.mp hp
  cases q : h.get? b with
  | none => rw [q] at e; cases e
  | some o =>
    rw [q] at e
    have e' : (b, o) = p := Option.some.inj e
    subst e'
    exact ⟨hb, q⟩
theorem Inv.pinned {pins : List (Addr × Obj)} {σ : St} {H : Hp} {s : Shared} {fp : List Addr} (I : Inv X pins σ H s) (hf : ∀ b ∈ fp, FpOk X pins H b) (ho : ∀ b ∈ fp, ∃ o, s.heap.get? b = some o ∧ ∀ v, o.data ≠ .cell v) : Inv X (pins ++ pinsAt fp s.heap) σ H s :=
  I.pins_of fun p hp => (List.mem_append.mp hp).elim (fun z => I.pin p (List.mem_append_right _ z)) fun z => by
    obtain ⟨hb, e⟩ := of_pinsAt z
    obtain ⟨f0, f1, f2, _⟩ := hf p.1 hb
    obtain ⟨o, e', d⟩ := ho p.1 hb
    rw [e] at e'; cases e'
    exact ⟨e, f0, f1, f2, d⟩
theorem Inv.unpinned {pins pl : List (Addr × Obj)} {σ : St} {H : Hp} {s : Shared} (I : Inv X (pins ++ pl) σ H s) : Inv X pins σ H s := I.pins_of fun p hp => I.pin p (List.mem_append_right _ (List.mem_append_left _ hp))
theorem ps_for {iter : Expr} {body : List Stmt} {wi : TI} {g : TG} {tb : TS} {pos : Pos} (hp : PassesOwn (model X.prog X.w) X.A X.env X.xe) (hc : X.calm = true) (hi : PI X tg iter wi) (hg : PG X tg g) (hb : PSs X body tb)
    (hs : ∀ x, foldedSetIterable iter X.env x = pure x := by intro _; rfl) : PS X (.For tg iter body [] pos) (tFor wi g tb) := by
  intro pins s σ H D I h
  refine wpAny_For (thn (hi pins s σ H _ I h) fun v s1 h1 => thn h1 fun itv s2 h2 => ?_) hs
  obtain ⟨it, fp, tn, J, H2, e, I2, T, st2, f2, W, ⟨m0, w0⟩, turn⟩ := h2
  subst e
  -- what stays true of the iterator's objects through the loop
  have stat : ∀ {H' : Hp}, (∀ b ∈ fp, H' b = none) → ∀ b ∈ fp, FpOk X pins H' b := fun hn b hb => ⟨hn b hb, (f2 b hb).2⟩
  refine codeAny_forLoop_any (fun n s' => ∃ i σ' H', Inv X pins σ' H' s' ∧ tn i s'.heap ∧ (∀ b ∈ fp, H' b = none) ∧ W i n σ' H') ?_ m0 ⟨0, σ, H2, I2, st2, fun b hb => (f2 b hb).1, w0⟩
  rintro n s3 ⟨i, σ3, H3, I3, st3, fr3, w3⟩
  rcases turn i n σ3 H3 w3 with ⟨stop, qn⟩ | ⟨go, N, hN, step⟩
  · refine wpAny_passesOwn hp (thn (T.done X rfl rfl rfl hc i pins s3 σ3 H3 X.xe I3 (stat fr3) st3 stop) fun r s4 ⟨hr, I4⟩ => ?_)
    subst hr
    exact wpAny_execs_nil ⟨σ3, H3, I4, qn⟩
  · refine wpAny_passesOwn hp (thn (T.item X rfl rfl rfl hc i pins s3 σ3 H3 X.xe I3 (stat fr3) st3 go) fun r s4 ⟨u, hr, h4⟩ => ?_)
    subst hr
    refine wpAny_passesOwn hp (thn h4 fun _ s5 ⟨x, H5, I5, r5, y5, st5, fr5⟩ => ?_)
    have I5' := I5.pinned (stat fr5) (T.obj _ _ st5)
    refine wpAny_passesOwn hp (thn (hg _ s5 σ3 H5 x u _ I5' r5 (step x H5 y5)) fun _ s6 ⟨σ6, H6, I6, q6⟩ => ?_)
    refine wpAny_passesOwn hp (thn (hb _ s6 σ6 H6 _ I6 q6) fun f s7 q7 => ?_)
    have again : ∀ {σ7 : St} {H7 : Hp}, Inv X (pins ++ pinsAt fp s5.heap) σ7 H7 s7 → N σ7 H7 → ∃ m, m < n ∧ ∃ i σ' H', Inv X pins σ' H' s7 ∧ tn i s7.heap ∧ (∀ b ∈ fp, H' b = none) ∧ W i m σ' H' := fun {σ7 H7} I7 n7 => by
      obtain ⟨m', hm, w7⟩ := hN σ7 H7 n7
      refine ⟨m', hm, i + 1, σ7, H7, I7.unpinned, T.keep _ _ _ st5 fun b hb o e => (I7.pin (b, o) (List.mem_append_right _ (List.mem_append_right _ (mem_pinsAt hb e)))).1, fun b hb => ?_, w7⟩
      obtain ⟨o, e, d⟩ := T.obj _ _ st5 b hb
      exact (I7.pin (b, o) (List.mem_append_right _ (List.mem_append_right _ (mem_pinsAt hb e)))).2.1
    cases f with
    | next => obtain ⟨σ7, H7, I7, n7⟩ := q7; exact again I7 n7
    | cont => obtain ⟨σ7, H7, I7, n7⟩ := q7; exact again I7 n7
    | brk => obtain ⟨σ7, H7, I7, q7⟩ := q7; exact ⟨σ7, H7, I7.unpinned, q7⟩
    | ret v => obtain ⟨x7, σ7, H7, I7, r7, q7⟩ := q7; exact ⟨x7, σ7, H7, I7.unpinned, r7, q7⟩
end

/-! ### the forms one uses -/
/-- over a list that the body leaves as it is -/
theorem for_list {K : PySem.W.Frag} {a : Addr} {xs : List V} {g : TG} {tb : TS} {D : Ends} {σ : St} {H : Hp} (Pv : Nat → St → Hp → Prop) (h0 : Pv 0 σ H) (hl : ∀ i σ H, i ≤ xs.length → Pv i σ H → SqL K H a xs)
    (hs : ∀ i x σ H, xs[i]? = some x → Pv i σ H → g x σ H fun σ2 H2 => tb { D with nx := Pv (i + 1), ct := Pv (i + 1), bk := D.nx } σ2 H2) (hd : ∀ σ H, Pv xs.length σ H → D.nx σ H) :
    ∃ W : Nat → Nat → St → Hp → Prop, (∃ m, W 0 m σ H) ∧ ∀ i m σ H, W i m σ H →
      ((Itl K a).stop i H ∧ D.nx σ H) ∨ ((Itl K a).go i H ∧ ∃ N : St → Hp → Prop, (∀ σ' H', N σ' H' → ∃ m', m' < m ∧ W (i + 1) m' σ' H') ∧ ∀ x H', (Itl K a).yld i H x H' → g x σ H' fun σ2 H2 => tb { D with nx := N, ct := N, bk := D.nx } σ2 H2) := by
  refine ⟨fun i m σ H => m = xs.length - i ∧ i ≤ xs.length ∧ Pv i σ H, ⟨xs.length, by simp, Nat.zero_le _, h0⟩, ?_⟩
  rintro i m σ H ⟨rfl, hi, p⟩
  have q := hl i σ H hi p
  by_cases hlt : i < xs.length
  · refine .inr ⟨⟨xs, xs[i], q, by simp [hlt]⟩, Pv (i + 1), fun σ' H' p' => ⟨xs.length - (i + 1), by omega, rfl, hlt, p'⟩, fun x H' y => ?_⟩
    obtain ⟨e, y⟩ := y
    subst e
    exact hs i x σ _ (y xs q) p
  · have e : i = xs.length := by omega
    subst e
    exact .inl ⟨⟨xs, q, Nat.le_refl _⟩, hd σ H p⟩
theorem for_tup {K : PySem.W.Frag} {a : Addr} {xs : List V} {g : TG} {tb : TS} {D : Ends} {σ : St} {H : Hp} (Pv : Nat → St → Hp → Prop) (h0 : Pv 0 σ H) (hl : ∀ i σ H, i ≤ xs.length → Pv i σ H → SqT K H a xs)
    (hs : ∀ i x σ H, xs[i]? = some x → Pv i σ H → g x σ H fun σ2 H2 => tb { D with nx := Pv (i + 1), ct := Pv (i + 1), bk := D.nx } σ2 H2) (hd : ∀ σ H, Pv xs.length σ H → D.nx σ H) :
    ∃ W : Nat → Nat → St → Hp → Prop, (∃ m, W 0 m σ H) ∧ ∀ i m σ H, W i m σ H →
      ((Itt K a).stop i H ∧ D.nx σ H) ∨ ((Itt K a).go i H ∧ ∃ N : St → Hp → Prop, (∀ σ' H', N σ' H' → ∃ m', m' < m ∧ W (i + 1) m' σ' H') ∧ ∀ x H', (Itt K a).yld i H x H' → g x σ H' fun σ2 H2 => tb { D with nx := N, ct := N, bk := D.nx } σ2 H2) := by
  refine ⟨fun i m σ H => m = xs.length - i ∧ i ≤ xs.length ∧ Pv i σ H, ⟨xs.length, by simp, Nat.zero_le _, h0⟩, ?_⟩
  rintro i m σ H ⟨rfl, hi, p⟩
  have q := hl i σ H hi p
  by_cases hlt : i < xs.length
  · refine .inr ⟨⟨xs, xs[i], q, by simp [hlt]⟩, Pv (i + 1), fun σ' H' p' => ⟨xs.length - (i + 1), by omega, rfl, hlt, p'⟩, fun x H' y => ?_⟩
    obtain ⟨e, y⟩ := y
    subst e
    exact hs i x σ _ (y xs q) p
  · have e : i = xs.length := by omega
    subst e
    exact .inl ⟨⟨xs, q, Nat.le_refl _⟩, hd σ H p⟩
theorem for_range {lo : Int} {n : Nat} {g : TG} {tb : TS} {D : Ends} {σ : St} {H : Hp} (Pv : Nat → St → Hp → Prop) (h0 : Pv 0 σ H)
    (hs : ∀ i σ H, i < n → Pv i σ H → g (.int (lo + i)) σ H fun σ2 H2 => tb { D with nx := Pv (i + 1), ct := Pv (i + 1), bk := D.nx } σ2 H2) (hd : ∀ σ H, Pv n σ H → D.nx σ H) :
    ∃ W : Nat → Nat → St → Hp → Prop, (∃ m, W 0 m σ H) ∧ ∀ i m σ H, W i m σ H →
      ((Itr lo n).stop i H ∧ D.nx σ H) ∨ ((Itr lo n).go i H ∧ ∃ N : St → Hp → Prop, (∀ σ' H', N σ' H' → ∃ m', m' < m ∧ W (i + 1) m' σ' H') ∧ ∀ x H', (Itr lo n).yld i H x H' → g x σ H' fun σ2 H2 => tb { D with nx := N, ct := N, bk := D.nx } σ2 H2) := by
  refine ⟨fun i m σ H => m = n - i ∧ i ≤ n ∧ Pv i σ H, ⟨n, by simp, Nat.zero_le _, h0⟩, ?_⟩
  rintro i m σ H ⟨rfl, hi, p⟩
  by_cases hlt : i < n
  · refine .inr ⟨hlt, Pv (i + 1), fun σ' H' p' => ⟨n - (i + 1), by omega, rfl, hlt, p'⟩, fun x H' y => ?_⟩
    obtain ⟨e, y⟩ := y
    subst e y
    exact hs i σ _ hlt p
  · have e : i = n := by omega
    subst e
    exact .inl ⟨Nat.le_refl _, hd σ H p⟩

end L2

namespace L2
open PySem PySem.Spec PyProof.Rows

abbrev R2 := V → V → Hp → VK → Prop
/-- a two-place operation on values: f is binaryOp op, inplaceOp op or compareOp op -/
def OpR (X : Cx) (f : Value → Value → Sem Value) (r : R2) : Prop :=
  ∀ (pins : List (Addr × Obj)) (s : Shared) (σ : St) (H : Hp) (x y : V) (v u : Value) (Q : VK), Inv X pins σ H s → RelV x v → RelV y u → r x y H Q →
    wpAny (model X.prog X.w) X.A (f v u) (EP X pins σ Q) X.xe s
/-- a one-place operation -/
def UnR (X : Cx) (f : Value → Sem Value) (r : V → Hp → VK → Prop) : Prop :=
  ∀ (pins : List (Addr × Obj)) (s : Shared) (σ : St) (H : Hp) (x : V) (v : Value) (Q : VK), Inv X pins σ H s → RelV x v → r x H Q →
    wpAny (model X.prog X.w) X.A (f v) (EP X pins σ Q) X.xe s
/-- a call of a value that is known (a builtin, a type) with values -/
def CallR (X : Cx) (f : Value) (r : List V → Hp → VK → Prop) : Prop :=
  ∀ (pins : List (Addr × Obj)) (s : Shared) (σ : St) (H : Hp) (xs : List V) (us : List Value) (Q : VK), Inv X pins σ H s → Vals xs us → r xs H Q →
    wpAny (model X.prog X.w) X.A (call f us) (EP X pins σ Q) X.xe s

def tOp (r : R2) (ta tb : TE) : TE := fun σ H Q => ta σ H fun x H1 => tb σ H1 fun y H2 => r x y H2 Q
def tUn (r : V → Hp → VK → Prop) (ta : TE) : TE := fun σ H Q => ta σ H fun x H1 => r x H1 Q
/-- ints in, under C, and a value out -/
def rI (C : Int → Int → Prop) (g : Int → Int → V) : R2 := fun x y H Q => ∃ i j, x = .int i ∧ y = .int j ∧ C i j ∧ Q (g i j) H
def rI0 (g : Int → Int → V) : R2 := fun x y H Q => ∃ i j, x = .int i ∧ y = .int j ∧ Q (g i j) H
def rU (g : Int → V) : V → Hp → VK → Prop := fun x H Q => ∃ i, x = .int i ∧ Q (g i) H

section
variable {X : Cx} {a b c : Expr} {ta tb tc : TE} {pos : Pos}

theorem binT (ha : PE X a ta) (hb : PE X b tb) {pins : List (Addr × Obj)} {s : Shared} {σ : St} {H : Hp} {R : V → V → Hp → Prop} (I : Inv X pins σ H s)
    (h : ta σ H fun x H1 => tb σ H1 fun y H2 => R x y H2) {Q : Value → Shared → Prop} {f : Value → Value → Sem Value}
    (hf : ∀ v u s2 x y H2, Inv X pins σ H2 s2 → RelV x v → RelV y u → R x y H2 → wpAny (model X.prog X.w) X.A (f v u) Q X.xe s2) :
    wpAny (model X.prog X.w) X.A (eval a X.env) (fun v s₁ => wpAny (model X.prog X.w) X.A (eval b X.env) (fun u s₂ => wpAny (model X.prog X.w) X.A (f v u) Q X.xe s₂) X.xe s₁) X.xe s := by
  refine thn (ha pins s σ H _ I h) fun v s1 ⟨x, H1, I1, r1, q1⟩ => ?_
  refine thn (hb pins s1 σ H1 _ I1 q1) fun u s2 ⟨y, H2, I2, r2, q2⟩ => ?_
  exact hf v u s2 x y H2 I2 r1 r2 q2

theorem pe_op {op : Operator} {r : R2} (ho : OpR X (binaryOp op) r) (ha : PE X a ta) (hb : PE X b tb) : PE X (.BinOp a op b pos) (tOp r ta tb) := by
  intro pins s σ H Q I h
  exact wpAny_BinOp (binT ha hb I h fun v u s2 x y H2 I2 rx ry q => ho pins s2 σ H2 x y v u Q I2 rx ry q)
theorem pe_un {op : UnaryOp} {r : V → Hp → VK → Prop} (ho : UnR X (unaryOp op) r) (ha : PE X a ta) : PE X (.UnaryOp op a pos) (tUn r ta) := by
  intro pins s σ H Q I h
  exact UnaryOp_ (thn (ha pins s σ H _ I h) fun v s1 ⟨x, H1, I1, r1, q1⟩ => ho pins s1 σ H1 x v Q I1 r1 q1)

/-! ### ints -/
theorem opI {f : Value → Value → Sem Value} {C : Int → Int → Prop} {g : Int → Int → Int}
    (rule : ∀ (i j : Int) (t u : Tok) (s : Shared) (Q : Value → Shared → Prop) (E : Value → Shared → Prop), C i j → Q (.int (g i j) s.toks) { s with toks := s.toks + 1 } → wpAny (model X.prog X.w) X.A (f (.int i t) (.int j u)) Q E s) :
    OpR X f (rI C fun i j => .int (g i j)) := by
  intro pins s σ H x y v u Q I rx ry h
  obtain ⟨i, j, rfl, rfl, hc, q⟩ := h
  obtain ⟨t, rfl⟩ := rx
  obtain ⟨t', rfl⟩ := ry
  exact rule i j t t' s _ _ hc ⟨.int (g i j), H, I.tok _, ⟨_, rfl⟩, q⟩
theorem opI0 {f : Value → Value → Sem Value} {g : Int → Int → Int}
    (rule : ∀ (i j : Int) (t u : Tok) (s : Shared) (Q : Value → Shared → Prop) (E : Value → Shared → Prop), Q (.int (g i j) s.toks) { s with toks := s.toks + 1 } → wpAny (model X.prog X.w) X.A (f (.int i t) (.int j u)) Q E s) :
    OpR X f (rI0 fun i j => .int (g i j)) := by
  intro pins s σ H x y v u Q I rx ry h
  obtain ⟨i, j, rfl, rfl, q⟩ := h
  obtain ⟨t, rfl⟩ := rx
  obtain ⟨t', rfl⟩ := ry
  exact rule i j t t' s _ _ ⟨.int (g i j), H, I.tok _, ⟨_, rfl⟩, q⟩
theorem opB0 {f : Value → Value → Sem Value} {g : Int → Int → Bool}
    (rule : ∀ (i j : Int) (t u : Tok) (s : Shared) (Q : Value → Shared → Prop) (E : Value → Shared → Prop), Q (.bool (g i j)) s → wpAny (model X.prog X.w) X.A (f (.int i t) (.int j u)) Q E s) :
    OpR X f (rI0 fun i j => .bl (g i j)) := by
  intro pins s σ H x y v u Q I rx ry h
  obtain ⟨i, j, rfl, rfl, q⟩ := h
  obtain ⟨t, rfl⟩ := rx
  obtain ⟨t', rfl⟩ := ry
  exact rule i j t t' s _ _ ⟨.bl (g i j), H, I, rfl, q⟩

theorem op_add : OpR X (binaryOp .Add) (rI0 fun i j => .int (i + j)) := opI0 fun _ _ _ _ _ _ _ q => add_int q
theorem op_sub : OpR X (binaryOp .Sub) (rI0 fun i j => .int (i - j)) := opI0 fun _ _ _ _ _ _ _ q => sub_int q

/-- % by a positive divisor of any size -/
theorem op_mod : OpR X (binaryOp .Mod) (rI (fun _ j => 0 < j) fun i j => .int (i % j)) := opI fun i j _ _ _ _ _ hc q => by
  have h1 : (0 : Int) < j := hc
  exact mod_int' (by omega) (by rw [Int.fmod_eq_emod_of_nonneg i (by omega)]; exact q)

theorem unI {f : Value → Sem Value} {g : Int → Int}
    (rule : ∀ (i : Int) (t : Tok) (s : Shared) (Q : Value → Shared → Prop) (E : Value → Shared → Prop), Q (.int (g i) s.toks) { s with toks := s.toks + 1 } → wpAny (model X.prog X.w) X.A (f (.int i t)) Q E s) :
    UnR X f (rU fun i => .int (g i)) := by
  intro pins s σ H x v Q I rx h
  obtain ⟨i, rfl, q⟩ := h
  obtain ⟨t, rfl⟩ := rx
  exact rule i t s _ _ ⟨.int (g i), H, I.tok _, ⟨_, rfl⟩, q⟩
theorem un_neg : UnR X (unaryOp .USub) (rU fun i => .int (-i)) := unI fun _ _ _ _ _ q => neg_int q

/-! ### bools among ints: n += (a < b) -/

end

/-! ### comparisons -/

section
variable {X : Cx} {a b c : Expr} {ta tb tc : TE} {pos : Pos}

theorem op_le : OpR X (compareOp .LtE) (rI0 fun i j => .bl (decide (i ≤ j))) := opB0 fun _ _ _ _ _ _ _ q => le_int q

/-- a reading of a value as a test -/
def tTest (t : TE) : TT := fun σ H Q => t σ H fun x H' => ∃ k, x = .bl k ∧ Q k H'

/-- a op1 b op2 c -/
def tChain (r r' : R2) (ta tb tc : TE) : TE := fun σ H Q => ta σ H fun x H1 => tb σ H1 fun y H2 => r x y H2 fun z H3 => ∃ k, z = .bl k ∧
  (if k = true then tc σ H3 fun w' H4 => r' y w' H4 Q else Q (.bl false) H3)

theorem pt_chain {op op' : CmpOp} {r r' : R2} (ho : OpR X (compareOp op) r) (ho' : OpR X (compareOp op') r') (ha : PE X a ta) (hb : PE X b tb) (hc : PE X c tc)
    (hm : lastMarks [op, op'] [b, c] = false := by with_unfolding_all rfl) : PT X (.Compare a [op, op'] [b, c] pos) (tTest (tChain r r' ta tb tc)) := by
  intro pins s σ H Q I h
  refine isTrue_chain (thn (ha pins s σ H _ I h) fun v s1 ⟨x, H1, I1, r1, q1⟩ => test_link (thn (hb pins s1 σ H1 _ I1 q1) fun u s2 ⟨y, H2, I2, r2, q2⟩ =>
    thn (ho pins s2 σ H2 x y v u _ I2 r1 r2 q2) fun d s3 ⟨z, H3, I3, r3, k, e, q3⟩ => ?_)) hm
  subst e
  cases r3
  refine wpAny_truthy_bool ?_
  cases k with
  | false =>
    obtain ⟨k', e', q'⟩ := q3
    cases e'
    exact ite_ff ⟨H3, I3, q'⟩
  | true =>
    refine ite_tt (test_last (thn (hc pins s3 σ H3 _ I3 q3) fun w' s4 ⟨z', H4, I4, r4, q4⟩ => thn (ho' pins s4 σ H4 y z' u w' _ I4 r2 r4 q4) fun d' s5 ⟨z2, H5, I5, r5, k2, e2, q5⟩ => ?_))
    subst e2
    cases r5
    exact wpAny_truthy_bool ⟨H5, I5, q5⟩

/-! ### truth -/

theorem line63 : (sizeLine : Nat) < 2 ^ 63 := by rw [sizeLine_eq]; decide

/-! ### strs and bytes -/

/-! ### scalar builtins, by CallR -/
theorem vals1 {x : V} {us : List Value} (r : Vals [x] us) : ∃ u, us = [u] ∧ RelV x u := by
  cases r with
  | cons r1 r2 => cases r2; exact ⟨_, rfl, r1⟩

end
end L2

namespace L2
open PySem PySem.Spec PyProof.Rows

/-! ### an instance, its attributes a map -/

section
variable {prog : Program} {w : World} {A : Around} {E : Value → Shared → Prop} {s : Shared} {K : PySem.W.Frag} {x dx C f : Addr} {mA : Str → Option Value} {name : Str} {v : Value}

end

/-! ### the attributes as a list of pairs -/

section
variable {P : Program} {w : World} {H H' : Hp} {h h' : Heap} {a C dx : Addr} {fs fs' : List (Str × V)}

end

/-! ### what of the text a class must have -/

section
variable {X : Cx} {pins : List (Addr × Obj)} {σ : St} {H : Hp} {s : Shared} {a C dx : Addr} {fs : List (Str × V)} {f : Str} {v : V} {A : Around} {E : Value → Shared → Prop}

end

/-! ### readings and rules -/

section
variable {X : Cx} {o e value : Expr} {f : Str} {pos pos' tpos : Pos} {ta tv : TE}

end

/-! ### isinstance -/
section
variable {X : Cx} {pins : List (Addr × Obj)} {σ : St} {H : Hp} {s : Shared} {A : Around} {E : Value → Shared → Prop} {Q : Value → Shared → Prop} {c : Value} {b : Bool}

end
end L2

namespace L2
open PySem PySem.Spec PyProof.Rows

/-! ### room -/
structure Room (k : Nat) (A : Around) : Prop where
  hd : A.handled = none
  dp : A.depth + 3 * k + 5 < recursionLimit
  un : A.units + 16 * k + 200 < cLine
theorem Room.mono {j k : Nat} {A : Around} (r : Room k A) (h : j ≤ k) : Room j A := ⟨r.hd, by have := r.dp; omega, by have := r.un; omega⟩
theorem Room.deeper {k : Nat} {A : Around} (r : Room (k + 1) A) (env : Env) : Room k (A.deeper env) :=
  ⟨r.hd, by have := r.dp; show A.depth + 1 + 3 * k + 5 < _; omega, by have := r.un; show A.units + 3 + 16 * k + 200 < _; omega⟩

theorem Room.depth {k : Nat} {A : Around} (r : Room k A) : A.depth < recursionLimit := by have := r.dp; omega

/-! ### argument lists and displays -/
def tNil : TA := fun _ H Q => Q [] H
def tCons (ta : TE) (tr : TA) : TA := fun σ H Q => ta σ H fun x H1 => tr σ H1 fun xs H2 => Q (x :: xs) H2
section
variable {X : Cx} {e : Expr} {es : List Expr} {te : TE} {t : TA} {pos : Pos}
theorem pa_nil : PA X [] tNil := fun _ _ _ _ H Q I h => Calls.spliced_nil ⟨[], H, I, .nil, h⟩
theorem pa_cons (ha : PE X e te) (hr : PA X es t) (hs : starEach (e :: es) X.env = (false, eval e X.env) :: starEach es X.env := by rfl) : PA X (e :: es) (tCons te t) := by
  intro pos pins s σ H Q I h
  rw [hs]
  show wpAny _ _ (spliced ((false, eval e X.env) :: backTo pos (starEach es X.env))) _ _ s
  refine Calls.spliced_cons (thn (ha pins s σ H _ I h) fun u s1 ⟨x, H1, I1, r1, q1⟩ => ?_)
  exact thn (hr pos pins s1 σ H1 _ I1 q1) fun us s2 ⟨xs, H2, I2, r2, q2⟩ => ⟨x :: xs, H2, I2, .cons r1 r2, q2⟩

def tLst (t : TA) : TE := fun σ H Q => t σ H fun xs H1 => xs.length ≤ sizeLine ∧ ∀ p, H1 p = none → Q (.ref p) (upd H1 p (.lst xs))

theorem pe_lst (h : PA X es t) : PE X (.List es pos) (tLst t) := by
  intro pins s σ H Q I hq
  refine wpAny_List_spliced (thn (h pos pins s σ H _ I hq) fun us s1 ⟨xs, H1, I1, r, z, q⟩ => ⟨by rw [← r.length]; exact z, ?_⟩)
  have hf : H1 s1.heap.objs.size = none := I1.hok.fresh (Nat.le_refl _)
  refine ⟨.ref s1.heap.objs.size, upd H1 s1.heap.objs.size (.lst xs), I1.laid (t' := s1.toks) (fun b u e => Heap.get?_push_of_some _ e) (Nat.le_refl _) ?_, rfl, q _ hf⟩
  exact ⟨z, us, 0, r, Heap.get?_push_size _ rfl⟩
end

/-! ### what a def promises -/
/-- a def's promise: the bound arguments in the parameters' order, the heap, the wanted end, the wanted exception -/
abbrev Sp := List V → Hp → VK → XK → Prop
/-- how an exception lies behind a call (file 08 gives it): the callers' frames, abstract heap and state ahead of the call, the wish, the exception, the state -/
abbrev CXT := List Env → Hp → Shared → XK → Value → Shared → Prop

/-- the state at a call -/
structure Env0 (P : Program) (w : World) (K : PySem.W.Frag) (mg : Str → Option Value) (base : Heap) (A : Around) (outer : List Env) (s : Shared) (H : Hp) : Prop where
  frames : A.frames = some outer
  mod : Mod K mg base
  bs : ∀ b o, base.get? b = some o → s.heap.get? b = some o ∧ H b = none
  bsz : base.objs.size ≤ s.heap.objs.size
  funs : s.heap.FunFrames base outer
  frf : ∀ b ∈ frs outer, H b = none
  hok : HOk P w H s.heap
  bare : AllBare s.gens
/-- a call's end -/
def CE (outer : List Env) (P : Program) (w : World) (H : Hp) (s : Shared) (Q : VK) (u : Value) (s' : Shared) : Prop :=
  ∃ v H', s'.os = s.os ∧ AllBare s'.gens ∧ Un (frs outer) [] H H' s.heap s'.heap ∧ HOk P w H' s'.heap ∧ RelV v u ∧ Q v H'
def CR (CX : CXT) (outer : List Env) (P : Program) (w : World) (H : Hp) (s : Shared) (Q : VK) (E : XK) (r : Result) (s' : Shared) : Prop :=
  match r with
  | .ok (.ret u) => CE outer P w H s Q u s'
  | .ok _ => False
  | .error e => CX outer H s E e s'
structure FnOk (P : Program) (w : World) (K : PySem.W.Frag) (mg : Str → Option Value) (base : Heap) (CX : CXT) (k : Nat) (f : Addr) (fd : FuncData) (ps : List Str) (sp : Sp) : Prop where
  len : ∀ vs H Q E, sp vs H Q E → vs.length = ps.length
  run : ∀ (A : Around) (outer : List Env) (s : Shared) (H : Hp) (args : Args) (us : List Value) (vs : List V) (Q : VK) (E : XK), Room k A → Env0 P w K mg base A outer s H → BindsTo s fd args (ps.zip us) → Vals vs us → sp vs H Q E →
    codeAny (model P w) A (.call (.ref f) args) (CR CX outer P w H s Q E) s

section
variable {X : Cx} {pins : List (Addr × Obj)} {σ : St} {H : Hp} {s s' : Shared}
/-- from a body: what a callee wants -/
theorem Inv.env0 (I : Inv X pins σ H s) : Env0 X.prog X.w X.K X.mg X.base X.A X.stack s H :=
  ⟨I.ok.frames, I.ok.mod, I.bs, Nat.le_trans I.ok.bsz I.sz, I.stack, I.stkFree, I.hok, I.bare⟩
/-- behind a call -/
theorem Inv.after {Q : VK} {u : Value} (I : Inv X pins σ H s) (h : CE X.stack X.prog X.w H s Q u s') : EP X pins σ Q u s' := by
  obtain ⟨v, H', os, bare, un, hok, r, q⟩ := h
  obtain ⟨hh, g, d, t, os'⟩ := s'
  obtain rfl : os' = s.os := os
  exact ⟨v, H', I.call (h' := hh) (g' := g) (d' := d) (t' := t) (ch := []) un hok bare (fun b z => absurd z (by simp)), r, q⟩
end

/-! ### calls -/
/-- f(..): the written arguments, then the defaults dvs; E: what is wanted of an exception -/
def tCall (sp : Sp) (dvs : List V) (E : XK) (t : TA) : TE := fun σ H Q => t σ H fun vs H1 => sp (vs ++ dvs) H1 Q E

/-- how the parameters are bound: us the positional arguments, kw the keywords' values by name, ds the defaults that fill up -/
def Binds (K : PySem.W.Frag) (fd : FuncData) (ps : List Str) (ds : List Value) : Prop :=
  ∀ (s : Shared) (us : List Value), K.In s.heap → (us ++ ds).length = ps.length → BindsTo s fd ⟨us, []⟩ (ps.zip (us ++ ds))
/-- every parameter is given -/
theorem Binds.all {K : PySem.W.Frag} {fd : FuncData} {ps : List Str} (h : ∀ us : List Value, us.length = ps.length → bindArgs fd ⟨us, []⟩ = pure (ps.zip us)) : Binds K fd ps [] := fun s us _ hl => by
  rw [List.append_nil] at hl ⊢
  exact .of_eq (h us hl)

/-- an exception of a callee reaches what this body wants of exceptions -/
def Passes (CX : CXT) (X : Cx) (E : XK) : Prop := ∀ (pins : List (Addr × Obj)) (σ : St) (H : Hp) (s : Shared) (e : Value) (s' : Shared), Inv X pins σ H s → CX X.stack H s E e s' → X.xe e s'

section
variable {X : Cx} {CX : CXT} {k : Nat} {f C : Addr} {fd : FuncData} {ps : List Str} {sp : Sp} {dvs : List V} {ds : List Value} {E : XK} {x m : Str} {p pos apos : Pos} {e o : Expr} {es : List Expr} {ta : TE} {t : TA}

/-- the callee runs -/
theorem run_fn {pins : List (Addr × Obj)} {σ : St} {H : Hp} {s : Shared} {Q : VK} {us : List Value} {vs : List V} (F : FnOk X.prog X.w X.K X.mg X.base CX k f fd ps sp) (hr : Room k X.A) (hb : Binds X.K fd ps ds) (hd : Vals dvs ds) (hx : Passes CX X E)
    (I : Inv X pins σ H s) (r : Vals vs us) (h : sp (vs ++ dvs) H Q E) : wpAny (model X.prog X.w) X.A (call (.ref f) us) (EP X pins σ Q) X.xe s := by
  have r2 : Vals (vs ++ dvs) (us ++ ds) := r.append hd
  have hl : (us ++ ds).length = ps.length := by rw [← r2.length]; exact F.len _ _ _ _ h
  refine wpAny_call (codeAny_mono (F.run X.A X.stack s H ⟨us, []⟩ (us ++ ds) (vs ++ dvs) Q E hr I.env0 (hb s us I.kIn hl) r2 h) fun r s' hq => ?_)
  cases r with
  | error e => exact hx pins σ H s e s' I hq
  | ok fl =>
    cases fl with
    | ret u => exact I.after hq
    | next => exact False.elim hq
    | brk => exact False.elim hq
    | cont => exact False.elim hq

theorem pe_call (F : FnOk X.prog X.w X.K X.mg X.base CX k f fd ps sp) (hr : Room k X.A) (hg : Gl X x) (hm : X.mg x = some (.ref f)) (hk : PySem.W.keepIn X.K (.ref f) = true) (hb : Binds X.K fd ps ds) (hd : Vals dvs ds) (hx : Passes CX X E)
    (ha : PA X (e :: es) t) (hdb : (x == ("__debug__" : Str)) = false := by decide) (he : starEach (e :: es) X.env = (false, eval e X.env) :: starEach es X.env := by rfl) (hpl : (backTo pos (starEach es X.env)).any (·.1) = false := by rfl) :
    PE X (.Call (.Name x p) (e :: es) [] pos) (tCall sp dvs E t) := by
  intro pins s σ H Q I h
  refine wpAny_Call_Name_kw (ld_glob I hg hm ?_ hdb)
  refine PySem.W.callWith_K (h₀ := X.base) I.ok.mod.kin hk (thn (ha pos pins s σ H _ I h) fun us s1 ⟨vs, H1, I1, r, q⟩ => ⟨I1.kIn, ?_⟩) he hpl
  exact run_fn F hr hb hd hx I1 r q

end

/-! ### keywords -/
/-- the values of the keywords, from the left -/
def PK (X : Cx) (kws : List Keyword) (t : TA) : Prop :=
  ∀ (pos : Pos) (pins : List (Addr × Obj)) (s : Shared) (σ : St) (H : Hp) (Q : List V → Hp → Prop), Inv X pins σ H s → t σ H Q → wpAny (model X.prog X.w) X.A (evalAll ((backToKw pos (keywordEach kws X.env)).map (·.2))) (AP X pins σ Q) X.xe s
section
variable {X : Cx} {CX : CXT} {k : Nat} {f C : Addr} {fd : FuncData} {ps ks : List Str} {sp : Sp} {E : XK} {x m : Str} {p pos apos kpos : Pos} {e o : Expr} {es : List Expr} {kws : List Keyword} {te ta : TE} {t tk : TA} {nm : Option Str}
theorem pk_nil : PK X [] tNil := fun _ _ _ _ H Q I h => wpAny_evalAll_nil ⟨[], H, I, .nil, h⟩
theorem pk_cons (ha : PE X e te) (hr : PK X kws t) : PK X (⟨nm, e, kpos⟩ :: kws) (tCons te t) := by
  intro pos pins s σ H Q I h
  show wpAny _ _ (evalAll ((do let v ← eval e X.env; standAt pos; pure v) :: (backToKw pos (keywordEach kws X.env)).map (·.2))) _ _ s
  refine wpAny_evalAll_cons (wpAny_bind (thn (ha pins s σ H _ I h) fun u s1 ⟨x, H1, I1, r1, q1⟩ => wpAny_bind (wpAny_standAt (wpAny_pure ?_))))
  exact thn (hr pos pins s1 σ H1 _ I1 q1) fun us s2 ⟨xs, H2, I2, r2, q2⟩ => ⟨x :: xs, H2, I2, .cons r1 r2, q2⟩

variable {g : List Value → List Value → List Value} {gV : List V → List V → List V}

end

/-! ### a def's body keeps its promise -/
/-- names: the parameters first -/
structure FnScope (N P : List Str) (sc : Scope) : Prop where
  kind : sc.kind = .function
  co : sc.isCoroutine = false
  gen : sc.isGenerator = false
  nd : N.Nodup
  pre : N.take P.length = P
  par : ∀ x ∈ P, sc.names.lookup x = some .local ∨ sc.names.lookup x = some .cell
  nofree : ∀ y ∈ sc.names, y.2 ≠ .free

theorem bindL_out {kindOf : Str → Option NameKind} {x : Str} : ∀ {binds : List (Str × Value)} {m : Str → Option Value}, (∀ v, (x, v) ∉ binds) → bindL kindOf binds m x = m x
  | [], _, _ => rfl
  | (n, v) :: r, m, h => by
    unfold bindL
    rw [bindL_out fun w hw => h w (List.mem_cons_of_mem _ hw)]
    split
    · have : x ≠ n := by rintro rfl; exact h v List.mem_cons_self
      simp [this]
    · rfl
theorem bindC_out {kindOf : Str → Option NameKind} {x : Str} : ∀ {binds : List (Str × Value)} {m : Str → Option Value}, (∀ v, (x, v) ∉ binds) → bindC kindOf binds m x = m x
  | [], _, _ => rfl
  | (n, v) :: r, m, h => by
    unfold bindC
    rw [bindC_out fun w hw => h w (List.mem_cons_of_mem _ hw)]
    split
    · rfl
    · have : x ≠ n := by rintro rfl; exact h v List.mem_cons_self
      simp [this]
theorem bindL_get {kindOf : Str → Option NameKind} {x : Str} {v : Value} : ∀ {P : List Str} {vs : List Value} {i : Nat} {m : Str → Option Value}, P.Nodup → P[i]? = some x → vs[i]? = some v → kindOf x = some .local →
    bindL kindOf (P.zip vs) m x = some v
  | [], _, _, _, _, h, _, _ => by simp at h
  | _ :: _, [], _, _, _, _, h, _ => by simp at h
  | p :: P, w :: vs, 0, m, nd, h1, h2, hk => by
    simp at h1 h2; subst h1; subst h2
    show bindL kindOf ((p, w) :: P.zip vs) m p = _
    unfold bindL
    rw [bindL_out fun v hv => (List.nodup_cons.mp nd).1 (List.of_mem_zip hv).1, if_pos hk]
    simp
  | p :: P, w :: vs, i + 1, m, nd, h1, h2, hk => by
    show bindL kindOf ((p, w) :: P.zip vs) m x = _
    unfold bindL
    exact bindL_get (i := i) (List.nodup_cons.mp nd).2 (by simpa using h1) (by simpa using h2) hk
theorem bindC_get {kindOf : Str → Option NameKind} {x : Str} {v : Value} : ∀ {P : List Str} {vs : List Value} {i : Nat} {m : Str → Option Value}, P.Nodup → P[i]? = some x → vs[i]? = some v → kindOf x ≠ some .local →
    bindC kindOf (P.zip vs) m x = some v
  | [], _, _, _, _, h, _, _ => by simp at h
  | _ :: _, [], _, _, _, _, h, _ => by simp at h
  | p :: P, w :: vs, 0, m, nd, h1, h2, hk => by
    simp at h1 h2; subst h1; subst h2
    show bindC kindOf ((p, w) :: P.zip vs) m p = _
    unfold bindC
    rw [bindC_out fun v hv => (List.nodup_cons.mp nd).1 (List.of_mem_zip hv).1, if_neg hk]
    simp
  | p :: P, w :: vs, i + 1, m, nd, h1, h2, hk => by
    show bindC kindOf ((p, w) :: P.zip vs) m x = _
    unfold bindC
    exact bindC_get (i := i) (List.nodup_cons.mp nd).2 (by simpa using h1) (by simpa using h2) hk

/-- the names' values at the entry -/
def start (N : List Str) (vs : List V) : St := vs.map some ++ List.replicate (N.length - vs.length) none

/-- the context of a def's body, at its entry; an exception leaves the frame, then lies as CX says -/
def cxOf (CX : CXT) (P : Program) (w : World) (K : PySem.W.Frag) (mg : Str → Option Value) (base : Heap) (N : List Str) (qual : Str) (scope : Scope) (f : Addr) (cd : Value) (A : Around) (outer : List Env) (s : Shared) (H : Hp) (E : XK) : Cx where
  prog := P
  w := w
  K := K
  mg := mg
  base := base
  A := A.deeper (envOfC qual scope s.heap.objs.size f cd)
  N := N
  s_0 := s
  H_0 := H
  env := envOfC qual scope s.heap.objs.size f cd
  outer := outer
  stack := envOfC qual scope s.heap.objs.size f cd :: outer
  ex := []
  calm := true
  fn := fun _ => true
  pn := []
  xe := fun e s' => wpAny (model P w) (A.deeper (envOfC qual scope s.heap.objs.size f cd)) (leaving (envOfC qual scope s.heap.objs.size f cd) e) (fun _ s'' => CX outer H s E e s'') (fun e' s'' => CX outer H s E e' s'') s'

theorem cell_has {sc : Scope} {n : Nat} {x : Str} (h : sc.names.lookup x = some .cell) : ∃ c, (cellsFrom n sc.names []).lookup x = some c := by
  have q := PySem.W.cellsFrom_some sc.names n [] (.inl h)
  exact Option.isSome_iff_exists.mp q

theorem inv_start {CX : CXT} {P : Program} {w : World} {K : PySem.W.Frag} {mg : Str → Option Value} {base : Heap} {N ps : List Str} {qual : Str} {scope : Scope} {f : Addr} {cd : Value} {A : Around} {outer : List Env} {s s1 : Shared} {H : Hp} {E : XK} {us : List Value} {vs : List V}
    (S : FnScope N ps scope) (hd : A.handled = none) (e0 : Env0 P w K mg base A outer s H) (hl : vs.length = ps.length) (r : Vals vs us)
    (x : InCallC s s.heap.objs.size (bindL (envOfC qual scope s.heap.objs.size f cd).kindOf (ps.zip us) fun _ => none) (cellsFrom (s.heap.objs.size + 1) scope.names []) (bindC (envOfC qual scope s.heap.objs.size f cd).kindOf (ps.zip us) fun _ => none) s1) :
    Inv (cxOf CX P w K mg base N qual scope f cd A outer s H E) [] (start N vs) H s1 := by
  have hpl : ps.length ≤ N.length := by have := congrArg List.length S.pre; rw [List.length_take] at this; omega
  obtain ⟨h1, tk, rfl, hk⟩ := x.done
  have noA : ∀ b : Addr, b ∉ (cxOf CX P w K mg base N qual scope f cd A outer s H E).ex := fun b z => absurd (show b ∈ ([] : List Addr) from z) (by simp)
  refine ⟨⟨e0.mod, S.kind, rfl, rfl, Nat.le_refl _, fun y z c h1 h2 => ?_, fun y hy => ?_, fun y c _ h => ?_, fun _ => hd, Around.frames_deeper e0.frames, .inr ⟨rfl, rfl⟩, fun b z => absurd z (noA b), e0.bs, e0.bsz, fun b _ _ => noA b, fun b z => absurd z (noA b), e0.funs, e0.frf⟩,
    rfl, e0.bare, Un.kept hk, ⟨_, x.toInCall.ns, fun i y v h1 h2 h3 => ?_⟩, fun y c h => ⟨_, x.cell y c h⟩, e0.hok.fresh (Nat.le_refl _), fun y c h => ?_, fun p hp => absurd (show p ∈ ([] : List (Addr × Obj)) from hp) (by simp), e0.hok.kept hk, ?_⟩
  · exact name_of_addr x.apart (PySem.mem_of_lookup h1) (PySem.mem_of_lookup h2)
  · have hy : scope.names.lookup y = some .cell ∨ scope.names.lookup y = some .free := hy
    rcases hy with hy | hy
    · exact cell_has hy
    · exact absurd rfl (S.nofree _ (PySem.mem_of_lookup hy))
  · exact Nat.le_of_lt (x.above y c (PySem.mem_of_lookup h))
  · have hi : i < vs.length := by
      unfold start at h2
      by_cases hi : i < vs.length
      · exact hi
      · rw [List.getElem?_append_right (by simpa using hi)] at h2
        rw [List.getElem?_replicate] at h2
        split at h2 <;> cases h2
    have ha : vs[i]? = some v := by
      unfold start at h2
      rw [List.getElem?_append_left (by simpa using hi), List.getElem?_map] at h2
      cases e : vs[i]? with
      | none => rw [e] at h2; cases h2
      | some a => rw [e] at h2; cases h2; rfl
    obtain ⟨u, hu, rv⟩ := r.get ha
    have hp : ps[i]? = some y := by
      rw [← S.pre, List.getElem?_take_of_lt (by omega)]; exact h1
    have ndP : ps.Nodup := by rw [← S.pre]; exact S.nd.sublist (List.take_sublist _ _)
    refine ⟨u, rv, ?_⟩
    rcases S.par y (List.mem_of_getElem? hp) with k | k
    · exact .inl ⟨k, bindL_get ndP hp hu k⟩
    · obtain ⟨c, e⟩ := cell_has (n := s.heap.objs.size + 1) k
      refine .inr ⟨.inl k, c, e, ?_⟩
      have q := x.cell y c e
      rw [bindC_get ndP hp hu (by show scope.names.lookup y ≠ _; rw [k]; decide)] at q
      exact q
  · exact e0.hok.fresh (Nat.le_of_lt (x.above y c (PySem.mem_of_lookup h)))
  · unfold start
    show _ = N.length
    rw [List.length_append, List.length_map, List.length_replicate]
    omega

/-- THE RULE: a def (or a method) of the text, by its body. The body's reading t is chosen for each entry; it is run at the parameters' values -/
theorem fn_of {CX : CXT} {P : Program} {w : World} {K : PySem.W.Frag} {mg : Str → Option Value} {base : Heap} {k : Nat} {f : Addr} {name qual : Str} {params : Arguments} {body : List Stmt} {scope : Scope} {dV kV doc pm cdv ct oc : Value} {an od : Option Addr}
    {osl : Array (Option Value)} {N ps : List Str} {sp : Sp} (lk : K.lookup f = some ⟨oc, od, .func (PySem.W.fnOf name qual params body scope dV kV doc pm an cdv ct), osl⟩) (hcd : PySem.W.codeIn K cdv qual = true) (S : FnScope N ps scope)
    (len : ∀ vs H Q E, sp vs H Q E → vs.length = ps.length)
    (hbody : ∀ (A : Around) (outer : List Env) (s : Shared) (H : Hp) (vs : List V) (Q : VK) (E : XK), Room k (A.deeper (envOfC qual scope s.heap.objs.size f cdv)) → sp vs H Q E →
      ∃ t, PSs (cxOf CX P w K mg base N qual scope f cdv A outer s H E) body t ∧ t { nx := fun _ H' => Q .non H', rt := Q } (start N vs) H) :
    FnOk P w K mg base CX (k + 1) f (PySem.W.fnOf name qual params body scope dV kV doc pm an cdv ct) ps sp := by
  refine ⟨len, fun A outer s H args us vs Q E hr e0 hb r hsp => ?_⟩
  have hl := len _ _ _ _ hsp
  have KX : K.In s.heap := e0.mod.kin.keeps fun b o e => (e0.bs b o e).1
  have lim : s.heap.NoLimit := e0.mod.nolimit.keeps fun b o e => (e0.bs b o e).1
  have hkind : ∀ y ∈ ps.zip us, scope.names.lookup y.1 = some .local ∨ (scope.names.lookup y.1 = some .cell ∧ ((cellsFrom (s.heap.objs.size + 1) scope.names []).lookup y.1).isSome = true) := fun ⟨n, v⟩ hy => by
    rcases S.par n (List.of_mem_zip hy).1 with q | q
    · exact .inl q
    · exact .inr ⟨q, PySem.W.cellsFrom_some _ _ _ (.inl q)⟩
  refine codeAny_call_function hr.depth (KX _ _ lk) rfl S.co S.gen rfl (PySem.W.codeRec_of KX hcd) (hb _ _ _ _ ?_)
  refine wpAny_newFunctionEnv_cells S.kind hkind fun env he s1 x => ?_
  subst he
  refine ⟨lim.keeps x.toInCall.keep, codeAny_func ?_⟩
  obtain ⟨t, ht, hq⟩ := hbody A outer s H vs Q E (hr.deeper _) hsp
  have I : Inv (cxOf CX P w K mg base N qual scope f cdv A outer s H E) [] (start N vs) H s1 := inv_start S hr.hd e0 hl r x
  refine wpAny_mono (ht [] s1 (start N vs) H _ I hq) (fun fl s' hs => ?_) fun e s' hs => hs
  have fin : ∀ {σ' : St} {H' : Hp} {v : V} {u : Value}, Inv (cxOf CX P w K mg base N qual scope f cdv A outer s H E) [] σ' H' s' → RelV v u → Q v H' → CE outer P w H s Q u s' :=
    fun {σ' H' v u} J rv q => ⟨v, H', J.os, J.bare, J.base, J.hok, rv, q⟩
  cases fl with
  | ret u =>
    obtain ⟨v, σ', H', J, rv, q⟩ := hs
    exact fin J rv q
  | next =>
    obtain ⟨σ', H', J, q⟩ := hs
    exact fin (v := V.non) (u := Value.none) J rfl q
  | brk =>
    obtain ⟨_, _, _, q⟩ := hs
    exact False.elim q
  | cont =>
    obtain ⟨_, _, _, q⟩ := hs
    exact False.elim q
end L2

namespace L2
open PySem PySem.Spec PyProof.Rows
section
variable {X : Cx} {x : Str} {p pos : Pos} {e : Expr} {es : List Expr} {t : TA} {id T : String} {r : List V → Hp → VK → Prop}

def tCB (r : List V → Hp → VK → Prop) (t : TA) : TE := fun σ H Q => t σ H fun vs H1 => r vs H1 Q
/-- f(e, ..), f a built-in function -/
theorem pe_callB (hc : CallR X (.builtin id) r) (hg : Gl X x) (hm : X.mg x = none) (hv : bootBuiltins x = some (.builtin id)) (ha : PA X (e :: es) t) (hn : x ≠ "__name__" := by decide) (hdb : (x == ("__debug__" : Str)) = false := by decide)
    (he : starEach (e :: es) X.env = (false, eval e X.env) :: starEach es X.env := by rfl) (hpl : (backTo pos (starEach es X.env)).any (·.1) = false := by rfl) : PE X (.Call (.Name x p) (e :: es) [] pos) (tCB r t) := by
  intro pins s σ H Q I h
  refine wpAny_Call_Name_kw (ld_blt I hg hm hv ?_ hn hdb)
  exact PyProof.Rows.callWith_builtin1 (thn (ha pos pins s σ H _ I h) fun us s1 ⟨vs, H1, I1, r1, q1⟩ => hc pins s1 σ H1 vs us Q I1 r1 q1) he hpl
/-- T(e, ..), T a built-in type -/
theorem pe_callTy (hc : CallR X (.type T) r) (hg : Gl X x) (hm : X.mg x = none) (hv : bootBuiltins x = some (.type T)) (ha : PA X (e :: es) t) (hn : x ≠ "__name__" := by decide) (hdb : (x == ("__debug__" : Str)) = false := by decide)
    (he : starEach (e :: es) X.env = (false, eval e X.env) :: starEach es X.env := by rfl) (hpl : (backTo pos (starEach es X.env)).any (·.1) = false := by rfl) : PE X (.Call (.Name x p) (e :: es) [] pos) (tCB r t) := by
  intro pins s σ H Q I h
  refine wpAny_Call_Name_kw (ld_blt I hg hm hv ?_ hn hdb)
  exact PyProof.Rows.callWith_type1 (thn (ha pos pins s σ H _ I h) fun us s1 ⟨vs, H1, I1, r1, q1⟩ => hc pins s1 σ H1 vs us Q I1 r1 q1) he hpl

end
end L2

namespace HT
open PySem PyProof.Rows

section
open PySem.SeqAt
open PySem.AutoSeq1 (wpAny_loadPart')
open PySem.MeetsSeq PySem.MeetsSeq2 PySem.MeetsSeq3

end

section
variable {prog : Program} {w : World} {A : Around} {E : Value → Shared → Prop} {s : Shared}

/-! ### t[a:b], not the whole -/
/-- a slice's bound as a place among n (d where it is left out) -/
def sIx (n d : Nat) : Option Int → Nat
  | none => d
  | some v => if v < 0 then (v + (n : Int)).toNat else min v.toNat n
theorem sIx_none (n d : Nat) : sIx n d none = d := rfl
theorem sIx_nat (n d k : Nat) : sIx n d (some (k : Int)) = min k n := by
  show (if (k : Int) < 0 then ((k : Int) + (n : Int)).toNat else min (k : Int).toNat n) = min k n
  rw [if_neg (by omega), Int.toNat_natCast]

end
end HT

namespace L2
open PySem PySem.Spec PyProof.Rows

/-! ### the parts of a slice -/
abbrev TO := St → Hp → (Option Int → Hp → Prop) → Prop
/-- a slice's part (left out, or an int) -/
def PO (X : Cx) (e : Option Expr) (t : TO) : Prop :=
  ∀ (pins : List (Addr × Obj)) (s : Shared) (σ : St) (H : Hp) (Q : Option Int → Hp → Prop), Inv X pins σ H s → t σ H Q →
    wpAny (model X.prog X.w) X.A (evalPart e X.env) (fun u s' => ∃ o H', Inv X pins σ H' s' ∧ IsPart u o ∧ Q o H') X.xe s
def tNoPart : TO := fun _ H Q => Q none H
def tPart (t : TE) : TO := fun σ H Q => t σ H fun x H1 => ∃ i, x = .int i ∧ Q (some i) H1

section
variable {X : Cx} {e : Expr} {te : TE} {lo hi : Option Expr} {tl th : TO} {pos p2 : Pos}

theorem po_none : PO X none tNoPart := by
  intro pins s σ H Q I h
  rw [evalPart_none]
  exact wpAny_pure ⟨none, H, I, .none, h⟩
theorem po_some (h : PE X e te) : PO X (some e) (tPart te) := by
  intro pins s σ H Q I hw
  rw [evalPart_some]
  refine thn (h pins s σ H _ I hw) fun u s1 ⟨x, H1, I1, r1, q1⟩ => ?_
  obtain ⟨i, rfl, q⟩ := q1
  obtain ⟨t, rfl⟩ := r1
  exact ⟨some i, H1, I1, .int i t, q⟩

/-- what a slice of a value is, by values: the slice object stands at sl -/
def SlR (X : Cx) (r : V → Option Int → Option Int → Hp → VK → Prop) : Prop :=
  ∀ (pins : List (Addr × Obj)) (s : Shared) (σ : St) (H : Hp) (x : V) (v vl vu : Value) (lo hi : Option Int) (sl : Addr) (Q : VK), Inv X pins σ H s → RelV x v → s.heap.IsSliceOf sl vl vu .none → IsPart vl lo → IsPart vu hi → r x lo hi H Q →
    ∃ T id, typeLookup (.type T) "__getitem__" = pure (some (.builtin id)) ∧ s.TypeIs v T ∧ wpAny (model X.prog X.w) X.A (getItem v (.ref sl)) (EP X pins σ Q) X.xe s

def tSl (r : V → Option Int → Option Int → Hp → VK → Prop) (te : TE) (tl th : TO) : TE := fun σ H Q => te σ H fun x H1 => tl σ H1 fun l H2 => th σ H2 fun u H3 => r x l u H3 Q
/-- a[lo:hi], any a -/
theorem pe_slice {r : V → Option Int → Option Int → Hp → VK → Prop} (hr : SlR X r) (he : PE X e te) (hl : PO X lo tl) (hu : PO X hi th) : PE X (.Subscript e (.Slice lo hi none p2) pos) (tSl r te tl th) := by
  intro pins s σ H Q I h
  refine Subscript_ (thn (he pins s σ H _ I h) fun v s1 ⟨x, H1, I1, r1, q1⟩ => ?_)
  refine wpAny_Slice (thn (hl pins s1 σ H1 _ I1 q1) fun vl s2 ⟨l, H2, I2, pl, q2⟩ => thn (hu pins s2 σ H2 _ I2 q2) fun vu s3 ⟨u, H3, I3, pu, q3⟩ => ?_)
  rw [evalPart_none]
  refine wpAny_pure ?_
  have I4 : Inv X pins σ H3 { s3 with heap := s3.heap.push { cls := .type "slice", data := .fields #[vl, vu, .none] } } := I3.kept (t' := s3.toks) fun b ob q => Heap.get?_push_of_some _ q
  obtain ⟨T, id, hT, ht, hg⟩ := hr pins { s3 with heap := s3.heap.push { cls := .type "slice", data := .fields #[vl, vu, .none] } } σ H3 x v vl vu l u s3.heap.objs.size Q I4 r1 (Heap.IsSliceOf.new ..) pl pu q3
  show wpAny (model X.prog X.w) X.A (subscriptTail e (.Slice lo hi none p2) v (.ref s3.heap.objs.size)) (EP X pins σ Q) X.xe { s3 with heap := s3.heap.push { cls := .type "slice", data := .fields #[vl, vu, .none] } }
  exact tail_any (ops := [.ref s3.heap.objs.size, v]) ht hT hg (by with_unfolding_all rfl)

/-- the items of xs[lo:hi] -/
def cutV (xs : List V) (lo hi : Option Int) : List V := (xs.drop (HT.sIx xs.length 0 lo)).take (HT.sIx xs.length xs.length hi - HT.sIx xs.length 0 lo)
theorem cutV_length (xs : List V) (lo hi : Option Int) : (cutV xs lo hi).length ≤ xs.length := by
  unfold cutV
  rw [List.length_take, List.length_drop]
  omega

/-! ### t < u, t + u -/

end
end L2

namespace L2
open PySem PySem.Spec PyProof.Rows

/-! ### places -/
/-- the place that an index of any sign means -/
def ixN (n : Nat) (i : Int) : Option Nat := if 0 ≤ i then (if i < n then some i.toNat else none) else if -(n : Int) ≤ i then some (i + n).toNat else none
def atI {α : Type} (xs : List α) (i : Int) : Option α := (ixN xs.length i).bind fun j => xs[j]?
theorem ixN_seq {n : Nat} {i : Int} {j : Nat} (h : ixN n i = some j) : seqIndex? i n = some j ∧ j < n ∧ -(n : Int) ≤ i ∧ i < n := by
  unfold ixN at h
  by_cases h0 : 0 ≤ i
  · rw [if_pos h0] at h
    by_cases h1 : i < n
    · rw [if_pos h1] at h
      have e : i.toNat = j := Option.some.inj h
      exact ⟨by rw [seqIndex_of h0 h1, e], by omega, by omega, h1⟩
    · rw [if_neg h1] at h; cases h
  · rw [if_neg h0] at h
    by_cases h1 : -(n : Int) ≤ i
    · rw [if_pos h1] at h
      have e : (i + n).toNat = j := Option.some.inj h
      exact ⟨by rw [seqIndex_neg (by omega) h1, e], by omega, h1, by omega⟩
    · rw [if_neg h1] at h; cases h
theorem atI_get {α : Type} {xs : List α} {i : Int} {v : α} (h : atI xs i = some v) : ∃ j, seqIndex? i xs.length = some j ∧ xs[j]? = some v ∧ j < xs.length ∧ -(xs.length : Int) ≤ i ∧ i < xs.length := by
  unfold atI at h
  cases e : ixN xs.length i with
  | none => rw [e] at h; cases h
  | some j =>
    rw [e] at h
    obtain ⟨h1, h2, h3, h4⟩ := ixN_seq e
    exact ⟨j, h1, h, h2, h3, h4⟩
theorem atI_nat {α : Type} {xs : List α} {j : Nat} {v : α} (h : xs[j]? = some v) : atI xs (j : Int) = some v := by
  have hj : j < xs.length := (List.getElem?_eq_some_iff.mp h).1
  have e : ixN xs.length (j : Int) = some j := by
    unfold ixN
    rw [if_pos (by omega), if_pos (by omega)]; simp
  unfold atI; rw [e]; exact h

/-! ### what may be subscripted -/
/-- what stands as an index of a plain subscript -/
def PlainIx (b : Expr) : Prop := ∀ o i, subscripted b false o i = operate [o, i] (getItem o i)
/-- a subscript by values -/
def IxR (X : Cx) (r : R2) : Prop :=
  ∀ (value slice : Expr) (pins : List (Addr × Obj)) (s : Shared) (σ : St) (H : Hp) (x y : V) (v u : Value) (Q : VK), Inv X pins σ H s → RelV x v → RelV y u → r x y H Q →
    subscripted slice false v u = operate [v, u] (getItem v u) → wpAny (model X.prog X.w) X.A (subscriptTail value slice v u) (EP X pins σ Q) X.xe s
/-- a call of a builtin's method by values: the receiver, the arguments -/
def MtR (X : Cx) (id : String) (r : V → List V → Hp → VK → Prop) : Prop :=
  ∀ (pins : List (Addr × Obj)) (s : Shared) (σ : St) (H : Hp) (x : V) (xs : List V) (v : Value) (us : List Value) (Q : VK), Inv X pins σ H s → RelV x v → Vals xs us → r x xs H Q →
    wpAny (model X.prog X.w) X.A (call (.builtin id) (v :: us)) (EP X pins σ Q) X.xe s
section
variable {X : Cx} {a b : Expr} {ta tb : TE} {pos : Pos}

/-- a[b] -/
theorem pe_ix {r : R2} (hr : IxR X r) (ha : PE X a ta) (hb : PE X b tb) (hs : PlainIx b) : PE X (.Subscript a b pos) (tOp r ta tb) := by
  intro pins s σ H Q I h
  exact Subscript_ (binT ha hb I h fun v u s2 x y H2 I2 rx ry q => hr a b pins s2 σ H2 x y v u Q I2 rx ry q (hs _ _))

def rIxL (K : PySem.W.Frag) : R2 := fun x y H Q => ∃ p xs i v, x = .ref p ∧ y = .int i ∧ SqL K H p xs ∧ atI xs i = some v ∧ Q v H
def rIxT (K : PySem.W.Frag) : R2 := fun x y H Q => ∃ p xs i v, x = .ref p ∧ y = .int i ∧ SqT K H p xs ∧ atI xs i = some v ∧ Q v H

theorem ix_list : IxR X (rIxL X.K) := by
  intro value slice pins s σ H x y v u Q I rx ry h hs
  obtain ⟨p, xs, i, z, rfl, rfl, hq, he, q⟩ := h
  cases rx
  obtain ⟨t, rfl⟩ := ry
  obtain ⟨its, r, pl, hz⟩ := I.list hq
  obtain ⟨j, h1, h2, h3, h4, h5⟩ := atI_get he
  obtain ⟨w, ew, rw'⟩ := r.get h2
  have hl := r.length
  have hn := line63
  have fin : EP X pins σ Q w s := ⟨z, H, I, rw', q⟩
  by_cases h0 : 0 ≤ i
  · have hj : i.toNat = j := by
      rw [seqIndex_of h0 h5] at h1
      exact Option.some.inj h1
    exact item_listR pl.isList h0 (by omega) (by rw [hj]; simpa using ew) fin hs
  · have hj : (i + (its.toArray.size : Int)).toNat = j := by
      rw [seqIndex_neg (by omega) h4] at h1
      rw [List.size_toArray, ← hl]
      exact Option.some.inj h1
    exact subscriptTail_builtinR (x := w) pl.isList.typeIs slot_list_getitem.lookup
      (wpAny_getItem_list_neg (Q := fun r s' => r = w ∧ EP X pins σ Q r s') pl.isList (by omega) (by rw [List.size_toArray] <;> omega) (by omega) (by rw [hj]; simpa using ew) ⟨rfl, fin⟩) hs
theorem ix_tup : IxR X (rIxT X.K) := by
  intro value slice pins s σ H x y v u Q I rx ry h hs
  obtain ⟨p, xs, i, z, rfl, rfl, hq, he, q⟩ := h
  cases rx
  obtain ⟨t, rfl⟩ := ry
  obtain ⟨its, r, pl, hz⟩ := I.tuple hq
  obtain ⟨j, h1, h2, h3, h4, h5⟩ := atI_get he
  obtain ⟨w, ew, rw'⟩ := r.get h2
  have hl := r.length
  have hn := line63
  have fin : EP X pins σ Q w s := ⟨z, H, I, rw', q⟩
  exact subscriptTail_builtinR (x := w) pl.typeIs slot_tuple_getitem.lookup
    (getItem_tuple (j := j) (Q := fun r s' => r = w ∧ EP X pins σ Q r s') pl (by omega) (by omega) (by rw [List.size_toArray, ← hl]; exact h1) (by simpa using ew) ⟨rfl, fin⟩) hs

/-! ### xs[i] = v, any sign -/
/-- the list's object behind a store -/
theorem mapSeq_set (its : List Value) (n j : Nat) (u : Value) : Obj.mapSeq (·.setIfInBounds j u) { cls := .type "list", data := .seq its.toArray n } = { cls := .type "list", data := .seq (its.set j u).toArray n } := by
  simp [Obj.mapSeq]
theorem Inv.lst {pins : List (Addr × Obj)} {σ : St} {H : Hp} {s : Shared} {p : Addr} {xs : List V} (I : Inv X pins σ H s) (h : H p = some (.lst xs)) :
    ∃ (its : List Value) (n : Nat), Vals xs its ∧ s.heap.get? p = some { cls := .type "list", data := .seq its.toArray n } ∧ xs.length ≤ sizeLine := by
  obtain ⟨z, its, n, r, e⟩ := I.hok p _ h
  exact ⟨its, n, r, e, z⟩
/-- the list at p is written by an update of its object -/
theorem Inv.lstUpd {pins : List (Addr × Obj)} {σ : St} {H : Hp} {s : Shared} {p : Addr} {xs ys : List V} {its its' : List Value} {n n' : Nat} {f : Obj → Obj} (I : Inv X pins σ H s) (h : H p = some (.lst xs))
    (ho : s.heap.get? p = some { cls := .type "list", data := .seq its.toArray n }) (hf : f { cls := .type "list", data := .seq its.toArray n } = { cls := .type "list", data := .seq its'.toArray n' }) (r : Vals ys its') (hz : ys.length ≤ sizeLine) (t : Nat) :
    Inv X pins σ (upd H p (.lst ys)) { s with heap := s.heap.update p f, toks := t } := by
  have e : (s.heap.update p f).get? p = some { cls := .type "list", data := .seq its'.toArray n' } := by
    rw [Heap.get?_update_self f ho (by rw [hf] <;> rfl), hf]
  refine I.write (x := p) (e := p) (by rw [h]; trivial) (.inl rfl) (fun b u hb q => (Heap.get?_update_other _ _ (Ne.symm hb)).trans q) ⟨_, e⟩ ?_
  exact ⟨hz, its', n', r, e⟩
def rSetL : V → V → V → Hp → (Hp → Prop) → Prop := fun o i v H Q => ∃ p xs k j, o = .ref p ∧ i = .int k ∧ H p = some (.lst xs) ∧ ixN xs.length k = some j ∧ Q (upd H p (.lst (xs.set j v)))
theorem set_list : PSet X rSetL := by
  intro pins s σ H o i v ov iv u Q I ro ri rv h
  obtain ⟨p, xs, k, j, rfl, rfl, hp, hj, q⟩ := h
  cases ro
  obtain ⟨t, rfl⟩ := ri
  obtain ⟨its, n, r, ho, hz⟩ := I.lst hp
  obtain ⟨h1, h2, h3, h4⟩ := ixN_seq hj
  have hl := r.length
  have hn := line63
  have I' : Inv X pins σ (upd H p (.lst (xs.set j v))) { s with heap := s.heap.update p (Obj.mapSeq (·.setIfInBounds j u)) } :=
    I.lstUpd hp ho (mapSeq_set its n j u) (r.set rv j) (by rw [List.length_set]; exact hz) s.toks
  by_cases h0 : 0 ≤ k
  · have hk : k.toNat = j := by
      rw [seqIndex_of h0 h4] at h1
      exact Option.some.inj h1
    exact PySem.W.ki_setAt ho h0 (by omega) (by rw [List.size_toArray, ← hl]; exact h4) (by rw [hk]; exact ⟨_, I', q⟩)
  · have hk : (k + (its.toArray.size : Int)).toNat = j := by
      rw [seqIndex_neg (by omega) h3] at h1
      rw [List.size_toArray, ← hl]
      exact Option.some.inj h1
    exact PySem.W.ki_setBack ho (by omega) (by rw [List.size_toArray, ← hl]; exact h3) (by omega) (by rw [hk]; exact ⟨_, I', q⟩)

/-! ### slices -/
theorem slice_bounds (lo hi : Option Int) (n : Nat) : (sliceBounds lo hi none n).1 = ((HT.sIx n 0 lo : Nat) : Int) ∧ (sliceBounds lo hi none n).2.1 = ((HT.sIx n n hi : Nat) : Int) ∧ (sliceBounds lo hi none n).2.2 = 1 := by
  refine ⟨?_, ?_, rfl⟩
  · cases lo with
    | none => simp [sliceBounds, HT.sIx]
    | some i =>
      simp only [sliceBounds, HT.sIx, Option.getD_none, show (1 : Int) > 0 by decide, if_true]
      by_cases h : i < 0
      · simp only [h, if_true] <;> omega
      · simp only [h, if_false] <;> omega
  · cases hi with
    | none => simp [sliceBounds, HT.sIx]
    | some i =>
      simp only [sliceBounds, HT.sIx, Option.getD_none, show (1 : Int) > 0 by decide, if_true]
      by_cases h : i < 0
      · simp only [h, if_true] <;> omega
      · simp only [h, if_false] <;> omega
theorem slicePick_cut (its : List Value) (lo hi : Option Int) : slicePick its.toArray lo hi none = ((its.drop (HT.sIx its.length 0 lo)).take (HT.sIx its.length its.length hi - HT.sIx its.length 0 lo)).toArray := by
  obtain ⟨h1, h2, h3⟩ := slice_bounds lo hi its.toArray.size
  unfold slicePick
  rw [h1, h2, h3]
  simp only [sliceRange_one, pick_run, List.size_toArray] <;> rfl
/-- xs[lo:hi] of a list: a new list -/
def rSlL (K : PySem.W.Frag) : V → Option Int → Option Int → Hp → VK → Prop := fun x lo hi H Q => ∃ a xs, x = .ref a ∧ SqL K H a xs ∧ ∀ p, H p = none → Q (.ref p) (upd H p (.lst (cutV xs lo hi)))
theorem sl_list : SlR X (rSlL X.K) := by
  intro pins s σ H x v vl vu lo hi sl Q I rx hs pl pu h
  obtain ⟨a, xs, rfl, hx, q⟩ := h
  cases rx
  obtain ⟨its, r, ht, hz⟩ := I.list hx
  have hlen := r.length
  refine ⟨"list", _, slot_list_getitem.lookup, ht.isList.typeIs, ?_⟩
  refine wpAny_getItem_list_slice ht.isList hs pl pu .none (by simp) ?_ (by rw [List.size_toArray] <;> omega)
  rw [slicePick_cut, ← hlen]
  refine ⟨.ref s.heap.objs.size, _, I.laid (t' := s.toks) (o := .lst (cutV xs lo hi)) (fun b ob q => Heap.get?_push_of_some _ q) (Nat.le_refl _) ?_, rfl, q _ (I.hok.fresh (Nat.le_refl _))⟩
  exact ⟨Nat.le_trans (cutV_length xs lo hi) hz, _, 0, (r.drop (HT.sIx xs.length 0 lo)).take (HT.sIx xs.length xs.length hi - HT.sIx xs.length 0 lo), Heap.get?_push_size _ rfl⟩

/-! ### in, not in: flat items -/
def flatV : V → Bool
  | .non => true
  | .bl _ => true
  | .int _ => true
  | .str _ => true
  | _ => false
/-- == of flat values -/
def eqV : V → V → Bool
  | .non, .non => true
  | .bl a, .bl b => a == b
  | .bl a, .int b => (if a then 1 else 0) == b
  | .int a, .bl b => a == (if b then 1 else 0)
  | .int a, .int b => a == b
  | .str a, .str b => a == b
  | _, _ => false
theorem eqAt_V {A : Around} {s : Shared} {y x : V} {u v : Value} (ry : RelV y u) (rx : RelV x v) (fy : flatV y = true) (fx : flatV x = true) : SeqAt.EqAt A s u v (eqV y x) := by
  cases y with
  | non =>
    cases ry
    cases x with
    | non => cases rx; exact SeqAt.EqAt.same _
    | bl b => cases rx; exact SeqAt.EqAt.none_bool b
    | int b => obtain ⟨t, rfl⟩ := rx; exact SeqAt.EqAt.none_int b t
    | str b => obtain ⟨t, rfl⟩ := rx; exact SeqAt.EqAt.none_str b t
    | _ => exact absurd (show false = true from fx) Bool.false_ne_true
  | bl a =>
    cases ry
    cases x with
    | non => cases rx; exact SeqAt.EqAt.bool_none a
    | bl b => cases rx; exact SeqAt.EqAt.bool_bool a b
    | int b => obtain ⟨t, rfl⟩ := rx; exact SeqAt.EqAt.bool_int a b t
    | str b => obtain ⟨t, rfl⟩ := rx; exact SeqAt.EqAt.bool_str a b t
    | _ => exact absurd (show false = true from fx) Bool.false_ne_true
  | int a =>
    obtain ⟨t', rfl⟩ := ry
    cases x with
    | non => cases rx; exact SeqAt.EqAt.int_none a t'
    | bl b => cases rx; exact SeqAt.EqAt.int_bool a t' b
    | int b => obtain ⟨t, rfl⟩ := rx; exact SeqAt.EqAt.int_int a t' b t
    | str b => obtain ⟨t, rfl⟩ := rx; exact SeqAt.EqAt.int_str a t' b t
    | _ => exact absurd (show false = true from fx) Bool.false_ne_true
  | str a =>
    obtain ⟨t', rfl⟩ := ry
    cases x with
    | non => cases rx; exact SeqAt.EqAt.str_none a t'
    | bl b => cases rx; exact SeqAt.EqAt.str_bool a t' b
    | int b => obtain ⟨t, rfl⟩ := rx; exact SeqAt.EqAt.str_int a t' b t
    | str b => obtain ⟨t, rfl⟩ := rx; exact SeqAt.EqAt.str_str a t' b t
    | _ => exact absurd (show false = true from fx) Bool.false_ne_true
  | _ => exact absurd (show false = true from fy) Bool.false_ne_true
/-- the items' answers, read off the values (a value's own answer does not lean on its token) -/
def eqU (x : V) (u : Value) : Bool := match u with
  | .none => eqV .non x
  | .bool b => eqV (.bl b) x
  | .int i _ => eqV (.int i) x
  | .str z _ => eqV (.str z) x
  | _ => false
theorem eqU_of {x y : V} {u : Value} (r : RelV y u) (f : flatV y = true) : eqU x u = eqV y x := by
  cases y with
  | non => cases r; rfl
  | bl b => cases r; rfl
  | int i => obtain ⟨t, rfl⟩ := r; rfl
  | str z => obtain ⟨t, rfl⟩ := r; rfl
  | _ => exact absurd (show false = true from f) Bool.false_ne_true

theorem mem_eqAt {A : Around} {s : Shared} {x : V} {v : Value} (rx : RelV x v) (fx : flatV x = true) : ∀ {xs : List V} {us : List Value}, Vals xs us → xs.all flatV = true → ∀ u ∈ us, SeqAt.EqAt A s u v (eqU x u)
  | _, _, .nil, _ => fun u hu => by cases hu
  | y :: xs, u :: us, .cons r t, f => fun u' hu => by
    rw [List.all_cons, Bool.and_eq_true] at f
    rcases List.mem_cons.mp hu with rfl | hu
    · rw [eqU_of r f.1]; exact eqAt_V r rx f.1 fx
    · exact mem_eqAt rx fx t f.2 u' hu

/-! ### len, list(x), tuple(x) of any list or tuple that is read -/
theorem call_len_seq : CallR X (.builtin "len") (fun xs H Q => ∃ p ys, xs = [.ref p] ∧ (SqL X.K H p ys ∨ SqT X.K H p ys) ∧ Q (.int ys.length) H) := by
  intro pins s σ H xs us Q I r h
  obtain ⟨p, ys, rfl, hq, q⟩ := h
  obtain ⟨u, rfl, rx⟩ := vals1 r
  cases rx
  have hn := line63
  rcases hq with hq | hq
  · obtain ⟨its, r', pl, hz⟩ := I.list hq
    have hlen := r'.length
    exact Calls.call_len_list pl.isList (by simp only [List.size_toArray] <;> omega) ⟨.int ys.length, H, I.tok _, ⟨s.toks + 1, by rw [List.size_toArray, hlen]⟩, q⟩
  · obtain ⟨its, r', pl, hz⟩ := I.tuple hq
    have hlen := r'.length
    exact len_tuple pl (by simp only [List.size_toArray] <;> omega) ⟨.int ys.length, H, I.tok _, ⟨s.toks + 1, by rw [List.size_toArray, hlen]⟩, q⟩

theorem call_tuple_of : CallR X (.type "tuple") (fun xs H Q => ∃ p ys, xs = [.ref p] ∧ ((SqL X.K H p ys ∧ ∀ l, H l = none → Q (.ref l) (upd H l (.tup ys))) ∨ (SqT X.K H p ys ∧ Q (.ref p) H))) := by
  intro pins s σ H xs us Q I r h
  obtain ⟨p, ys, rfl, h⟩ := h
  obtain ⟨u, rfl, rx⟩ := vals1 r
  cases rx
  rcases h with ⟨hq, q⟩ | ⟨hq, q⟩
  · obtain ⟨its, r', pl, hz⟩ := I.list hq
    have hlen := r'.length
    refine call_tuple_list pl.isList (fun h' kp => ?_) (by simp only [List.size_toArray] <;> omega)
    have I1 : Inv X pins σ H { s with heap := h' } := I.kept (t' := s.toks) kp
    have I2 : Inv X pins σ (upd H h'.objs.size (.tup ys)) { s with heap := h'.push { cls := .type "tuple", data := .seq its.toArray } } :=
      I1.laid (t' := s.toks) (fun b o e => Heap.get?_push_of_some _ e) (Nat.le_refl _) (show ObjOk X.prog X.w _ _ _ (.tup ys) from ⟨hz, its, r', IsTup.new _ _⟩)
    exact ⟨.ref h'.objs.size, _, I2, rfl, q _ (I1.hok.fresh (Nat.le_refl _))⟩
  · obtain ⟨its, r', pl, hz⟩ := I.tuple hq
    exact call_tuple_same pl ⟨.ref p, H, I, rfl, q⟩

/-! ### the call of a builtin's method: o.m(..) -/
/-- the value is of that builtin type -/
def tyV (K : PySem.W.Frag) (T : String) (x : V) (H : Hp) : Prop := match x with
  | .str _ => T = "str"
  | .int _ => T = "int"
  | .ref p => (T = "list" ∧ ∃ xs, SqL K H p xs) ∨ (T = "tuple" ∧ ∃ o, K.lookup p = some o ∧ o.cls = .type "tuple" ∧ o.dict = none) ∨
      (T = "dict" ∧ ((∃ kvs, H p = some (.dK kvs)) ∨ ∃ kvs, H p = some (.dT kvs))) ∨ (T = "set" ∧ ∃ S n, H p = some (.set S n))
  | _ => False
theorem tyV_is {pins : List (Addr × Obj)} {σ : St} {H : Hp} {s : Shared} {T : String} {x : V} {v : Value} (I : Inv X pins σ H s) (r : RelV x v) (ty : tyV X.K T x H) :
    s.TypeIs v T ∧ ∀ a, v = .ref a → ∃ ob, s.heap.get? a = some ob ∧ ob.dict = none := by
  cases x with
  | str z =>
    obtain ⟨t, rfl⟩ := r
    cases (show T = "str" from ty)
    exact ⟨typeIs_str s z t, fun _ e => nomatch e⟩
  | int i =>
    obtain ⟨t, rfl⟩ := r
    cases (show T = "int" from ty)
    exact ⟨typeIs_int s i t, fun _ e => nomatch e⟩
  | ref p =>
    cases r
    rcases ty with ⟨rfl, xs, hq⟩ | ⟨rfl, o, hk, hc, hd⟩ | ⟨rfl, hk⟩ | ⟨rfl, S, n, hk⟩
    · obtain ⟨its, _, pl, _⟩ := I.list hq
      refine ⟨pl.isList.typeIs, fun a e => ?_⟩
      cases e
      obtain ⟨o, n, e, c, hd, _⟩ := pl
      exact ⟨o, e, hd⟩
    · refine ⟨⟨o, I.kIn p o hk, hc⟩, fun a e => ?_⟩
      cases e
      exact ⟨o, I.kIn _ o hk, hd⟩
    · have z : ∃ o, s.heap.get? p = some o ∧ o.ExactDict := by
        rcases hk with ⟨kvs, hk⟩ | ⟨kvs, hk⟩
        · obtain ⟨_, _, _, _, o, _, _, e, ex, _⟩ := I.hok p _ hk
          exact ⟨o, e, ex⟩
        · obtain ⟨_, _, _, _, o, _, _, e, ex, _⟩ := I.hok p _ hk
          exact ⟨o, e, ex⟩
      obtain ⟨o, e, ex⟩ := z
      refine ⟨⟨o, e, ex.1⟩, fun a e2 => ?_⟩
      cases e2
      exact ⟨o, e, ex.2.1⟩
    · obtain ⟨o, _, _, _, e, ex, _⟩ := I.hok p _ hk
      refine ⟨⟨o, e, ex.1⟩, fun a e2 => ?_⟩
      cases e2
      exact ⟨o, e, ex.2.1⟩
  | _ => exact False.elim ty

def tBM (K : PySem.W.Frag) (T : String) (r : V → List V → Hp → VK → Prop) (to : TE) (t : TA) : TE := fun σ H Q => to σ H fun x H1 => tyV K T x H1 ∧ t σ H1 fun xs H2 => r x xs H2 Q
variable {o e : Expr} {es : List Expr} {to : TE} {t : TA} {name : Str} {apos cpos : Pos} {T id : String} {r : V → List V → Hp → VK → Prop}

theorem pe_bm (pa : PlainAttrs T) (slot : Slot T name id) (hty : typeOf (.builtin id) = pure (.type "method_descriptor")) (hm : MtR X id r) (ho : PE X o to) (ha : PA X (e :: es) t)
    (hbase : attributeBase o name X.env (eval o X.env) = eval o X.env := by rfl)
    (hfew : ((backTo cpos (starEach (e :: es) X.env)).all (fun x => !x.1) && (backToKw cpos (keywordEach [] X.env)).all (fun x => x.1.isSome)
      && decide ((e :: es).length + ([] : List Keyword).length + (if ([] : List Keyword).isEmpty then 0 else 1) < 30)) = true := by rfl)
    (hline : (apos.endLine == cpos.line) = true := by rfl) (hs : starEach (e :: es) X.env = (false, eval e X.env) :: starEach es X.env := by rfl) (hplain : (backTo cpos (starEach es X.env)).any (·.1) = false := by rfl) :
    PE X (.Call (.Attribute o name apos) (e :: es) [] cpos) (tBM X.K T r to t) := by
  intro pins s σ H Q I h
  refine wpAny_Call_method_late hbase hfew hline rfl (thn (ho pins s σ H _ I h) fun v s1 ⟨x, H1, I1, r1, ty, q1⟩ => ?_)
  obtain ⟨h1, h2⟩ := tyV_is I1 r1 ty
  refine ⟨T, id, pa, slot, hty, h1, h2, ?_⟩
  have hA := ha cpos pins s1 σ H1 _ I1 q1
  rw [hs] at hA ⊢
  refine Calls.callWith_builtin (by show (false || (backTo cpos (starEach es X.env)).any (·.1)) = false; rw [hplain] <;> rfl) (Calls.evalArgs_plain ?_)
  exact thn hA fun us s2 ⟨vs, H2, I2, r2, q2⟩ => hm pins s2 σ H2 x vs v us Q I2 r1 r2 q2
/- xs.append(e), list.index on a module's tuple .. are MtR facts of 06m -/
end
end L2

namespace L2
open PySem PySem.Spec PyProof.Rows

def MtM (X : Cx) (id : String) (r : V → List V → Hp → VK → Prop) : Prop :=
  ∀ (pins : List (Addr × Obj)) (s : Shared) (σ : St) (H : Hp) (x : V) (xs : List V) (v : Value) (us : List Value) (Q : VK), Inv X pins σ H s → RelV x v → Vals xs us → r x xs H Q →
    wpAny (model X.prog X.w) X.A (call (.builtin id) (v :: us)) (EP X pins σ Q) X.xe s

/-! ### lists of values -/
theorem Vals.one : ∀ {x : V} {us : List Value}, Vals [x] us → ∃ u, us = [u] ∧ RelV x u
  | _, _, .cons r .nil => ⟨_, rfl, r⟩

theorem Vals.rep {xs : List V} {us : List Value} (h : Vals xs us) : ∀ k : Nat, Vals (List.replicate k xs).flatten (List.replicate k us).flatten
  | 0 => .nil
  | k + 1 => by
    rw [List.replicate_succ, List.replicate_succ, List.flatten_cons, List.flatten_cons]
    exact Vals.append h (Vals.rep h k)

theorem foldl_rep (its : List Value) : ∀ (k : Nat) (acc : List Value),
    List.foldl (fun x1 x2 => x1 ++ x2) acc.toArray (List.replicate k its.toArray) = (acc ++ (List.replicate k its).flatten).toArray
  | 0, acc => by simp
  | k + 1, acc => by
    have e : acc.toArray ++ its.toArray = (acc ++ its).toArray := by simp
    have e2 : (acc ++ its) ++ (List.replicate k its).flatten = acc ++ (List.replicate (k + 1) its).flatten := by
      rw [List.replicate_succ, List.flatten_cons, List.append_assoc]
    rw [← e2, ← foldl_rep its k (acc ++ its), ← e, List.replicate_succ, List.foldl_cons]

section
variable {X : Cx} {pins : List (Addr × Obj)} {σ : St} {H : Hp} {s : Shared} {l b : Addr} {xs ys zs : List V}

/-! ### the two steps: a tracked list is rewritten, a new list is laid -/
theorem Inv.lset {its its' : List Value} {n : Nat} {f : Array Value → Array Value} {t' : Nat} (I : Inv X pins σ H s) (hH : H l = some (.lst xs))
    (e : s.heap.get? l = some { cls := .type "list", data := .seq its.toArray n }) (hf : f its.toArray = its'.toArray) (hv : Vals ys its') (hz : ys.length ≤ sizeLine) :
    Inv X pins σ (upd H l (.lst ys)) { s with heap := s.heap.update l (Obj.mapSeq f), toks := t' } := by
  have q := PySem.IsL.update e f
  rw [hf] at q
  refine I.write (x := l) (e := l) (by rw [hH]; exact trivial) (.inl rfl) (fun b' u hb hu => (Heap.get?_update_other s.heap (Obj.mapSeq f) (Ne.symm hb)).trans hu) ⟨_, q⟩ ?_
  exact ⟨hz, its', _, hv, q⟩
theorem Inv.lnew {its : List Value} {t' : Nat} (I : Inv X pins σ H s) (hv : Vals ys its) (hz : ys.length ≤ sizeLine) :
    Inv X pins σ (upd H s.heap.objs.size (.lst ys)) { s with heap := s.heap.push { cls := .type "list", data := .seq its.toArray }, toks := t' } :=
  I.laid (fun _ _ q => Heap.get?_push_of_some _ q) (Nat.le_refl _) ⟨hz, its, 0, hv, Heap.get?_push_size _ rfl⟩
theorem Inv.fresh (I : Inv X pins σ H s) : H s.heap.objs.size = none := I.hok.fresh (Nat.le_refl _)
theorem Inv.lstM (I : Inv X pins σ H s) (hH : H l = some (.lst xs)) : xs.length ≤ sizeLine ∧ ∃ (its : List Value) (n : Nat), Vals xs its ∧ xs.length = its.length ∧ s.heap.get? l = some { cls := .type "list", data := .seq its.toArray n } := by
  obtain ⟨z, its, n, r, e⟩ := I.hok l _ hH
  exact ⟨z, its, n, r, r.length, e⟩

theorem notLongL {n : Nat} (h : n ≤ sizeLine) : Builtin.List.listTooLong n = false := by
  unfold Builtin.List.listTooLong
  exact decide_eq_false (by omega)
end

section
variable {X : Cx}

/-! ### methods -/
def rAppend : V → List V → Hp → VK → Prop := fun x vs H Q => ∃ l xs y, x = .ref l ∧ vs = [y] ∧ H l = some (.lst xs) ∧ xs.length < sizeLine ∧ Q .non (upd H l (.lst (xs ++ [y])))
theorem mt_append : MtM X "list.append" rAppend := by
  intro pins s σ H x vs v us Q I rx rv h
  obtain ⟨l, xs, y, rfl, rfl, hH, hz, q⟩ := h
  cases rx
  obtain ⟨u, rfl, ru⟩ := rv.one
  obtain ⟨z, its, n, r, hl, e⟩ := I.lstM hH
  refine call_meets F.slot_list_append ⟨_, e, rfl⟩ F.entry_list_append (F.args_list_append_2 _ _) (PySem.list_append l its.toArray n u (by rw [List.size_toArray]; omega)) ⟨e, ?_⟩
  refine ⟨.non, _, I.lset (its' := its ++ [u]) hH e (by simp) (r.append (.cons ru .nil)) ?_, rfl, q⟩
  rw [List.length_append, List.length_singleton]
  omega

/-! ### list + list, list += list, list * int -/
def rCat : R2 := fun x y H Q => ∃ l b xs zs, x = .ref l ∧ y = .ref b ∧ H l = some (.lst xs) ∧ H b = some (.lst zs) ∧ xs.length + zs.length ≤ sizeLine ∧ ∀ p, H p = none → Q (.ref p) (upd H p (.lst (xs ++ zs)))
theorem op_cat : OpR X (binaryOp .Add) rCat := by
  intro pins s σ H x y v u Q I rx ry h
  obtain ⟨l, b, xs, zs, rfl, rfl, hH, hB, hz, q⟩ := h
  cases rx
  cases ry
  obtain ⟨z, its, n, r, hl, e⟩ := I.lstM hH
  obtain ⟨z2, its2, n2, r2, hl2, e2⟩ := I.lstM hB
  refine PySem.P.add_list e e2 ?_ (by rw [List.size_toArray, List.size_toArray]; omega)
  have ea : its.toArray ++ its2.toArray = (its ++ its2).toArray := by simp
  rw [ea]
  exact ⟨.ref _, _, I.lnew (t' := s.toks) (r.append r2) (by rw [List.length_append]; omega), rfl, q _ I.fresh⟩
/-- a list times an int (a negative one is nothing) -/
def rRep : R2 := fun x y H Q => ∃ l k xs, x = .ref l ∧ y = .int k ∧ H l = some (.lst xs) ∧ -(2 ^ 63) ≤ k ∧ k < 2 ^ 63 ∧ xs.length * k.toNat ≤ sizeLine ∧
  ∀ p, H p = none → Q (.ref p) (upd H p (.lst (List.replicate k.toNat xs).flatten))
theorem len_rep {α : Type} (xs : List α) (k : Nat) : (List.replicate k xs).flatten.length = k * xs.length := by
  induction k with
  | zero => simp
  | succ k ih => rw [List.replicate_succ, List.flatten_cons, List.length_append, ih, Nat.succ_mul, Nat.add_comm]
theorem op_rep : OpR X (binaryOp .Mult) rRep := by
  intro pins s σ H x y v u Q I rx ry h
  obtain ⟨l, k, xs, rfl, rfl, hH, h1, h2, hz, q⟩ := h
  cases rx
  obtain ⟨t, rfl⟩ := ry
  obtain ⟨z, its, n, r, hl, e⟩ := I.lstM hH
  have hlen : its.toArray.size * k.toNat ≤ sizeLine := by rw [List.size_toArray, ← hl]; exact hz
  have hcap : ¬ its.toArray.size * k.toNat > (2 ^ 63 - 1) / 8 := by
    have : (sizeLine : Nat) ≤ (2 ^ 63 - 1) / 8 := by decide
    omega
  have hfit : ¬ (!Builtin.List.listFitsIndex k) = true := by
    rw [fitsIndex_both h1 h2]
    exact Bool.false_ne_true
  have hlong : ¬ Builtin.List.listTooLong (its.toArray.size * k.toNat) = true := by
    rw [notLongL hlen]
    exact Bool.false_ne_true
  have hnew : List.foldl (fun x1 x2 => x1 ++ x2) #[] (List.replicate (if its.toArray.isEmpty = true then 0 else k.toNat) its.toArray) = (List.replicate k.toNat its).flatten.toArray := by
    have f0 : ∀ m : Nat, List.foldl (fun x1 x2 => x1 ++ x2) #[] (List.replicate m its.toArray) = (List.replicate m its).flatten.toArray := fun m => by
      have := foldl_rep its m []
      rw [List.nil_append] at this
      exact this
    rw [f0]
    cases its with
    | nil => simp
    | cons a r' => rw [if_neg (by simp)]
  refine wpAny_binaryOp_repeat_ref (T := "list") (U := "int") (by decide) ⟨_, e, rfl⟩ (fun s' => typeIs_int s' k t) noFill_list_mul F.fills_int_mul F.slot_int_rmul repeat_list F.slot_int_index.lookup
    (call_meets F.slot_int_rmul (typeIs_int s k t) F.entry_int_rmul (F.args_int_rmul_2 _ _) (int___rmul___int_list k t l its.toArray n)
      ⟨e, rfl, ⟨_, e, rfl⟩, call_meets F.slot_list_mul ⟨_, e, rfl⟩ F.entry_list_mul (F.args_list_mul_2 _ _) (AutoListH.list___mul___list_int_3 l its.toArray n k t hfit hcap hlong) ⟨e, ?_⟩⟩)
  rw [hnew]
  exact ⟨.ref _, _, I.lnew (t' := s.toks) (r.rep k.toNat) (by rw [len_rep, Nat.mul_comm]; exact hz), rfl, q _ I.fresh⟩

/-! ### del xs[i] -/

end

/-! ### xs[a:b] = ys -/
section
variable {prog : Program} {w : World} {A : Around} {E : Value → Shared → Prop} {s : Shared}

end

section
variable {X : Cx}

end
end L2

namespace L2
open PySem PySem.Spec PyProof.Rows

theorem Vals.ints : ∀ {ns : List Int} {us : List Value}, Vals (ns.map V.int) us → IntsAre us ns
  | [], us, h => by
    rw [List.map_nil] at h
    cases h
    exact IntsAre.nil
  | n :: ns, us, h => by
    rw [List.map_cons] at h
    cases h with
    | cons r t =>
      obtain ⟨k, rfl⟩ := r
      exact IntsAre.cons n k (Vals.ints t)
theorem vals_of_ints : ∀ {us : List Value} {ns : List Int}, IntsAre us ns → Vals (ns.map V.int) us
  | _, _, .nil => by rw [List.map_nil]; exact Paired.nil
  | _, _, .cons n t h => by rw [List.map_cons]; exact Paired.cons (show RelV (V.int n) (Value.int n t) from ⟨t, rfl⟩) (vals_of_ints h)

theorem Vals.ref1 {a : Addr} {us : List Value} (r : Vals [V.ref a] us) : us = [Value.ref a] := by
  cases r with
  | cons r t =>
    cases t
    cases r
    rfl

/-! ### the library's walks over a list of ints, kept objects alone -/
section
variable {prog : Program} {w : World} {A : Around} {E : Value → Shared → Prop} {s : Shared} {l : Addr} {its : List Value} {ns : List Int} {Q : Value → Shared → Prop}

end

/-! ### the calls, by values (CallR of 03t; MtR of 06l) -/
section
variable {X : Cx}

/-! sorted, sort (fewer than 64 items: the library's own bound) -/
def rSorted (K : PySem.W.Frag) : List V → Hp → VK → Prop := fun vs H Q => ∃ (a : Addr) (ns : List Int), vs = [V.ref a] ∧ SqL K H a (ns.map V.int) ∧ ns.length < 64 ∧
  ∀ (ns' : List Int) (p : Addr), ns'.Perm ns → ns'.Pairwise (· ≤ ·) → H p = none → Q (.ref p) (upd H p (.lst (ns'.map V.int)))

theorem small64 {n : Nat} (h : n < 64) : n ≤ sizeLine := by rw [sizeLine_eq]; omega
theorem cr_sorted : CallR X (.builtin "sorted") (rSorted X.K) := by
  intro pins s σ H vs us Q I r h
  obtain ⟨a, ns, rfl, hs, h64, q⟩ := h
  obtain ⟨its, rv, hl, _⟩ := I.list hs
  rw [Vals.ref1 r]
  have hi := rv.ints
  refine PyProof.Rows.sorted_ints hl.isList hi (by rw [hi.length]; exact h64) fun out ns' h1 h2 h3 => ?_
  obtain ⟨ep, he'⟩ := PyProof.Rows.sortedAll_at s.heap its out
  have hlen : (ns'.map V.int).length ≤ sizeLine := by rw [List.length_map, h2.length_eq]; exact small64 h64
  exact ⟨.ref _, upd H (s.heap.objs.size + 1) (.lst (ns'.map V.int)), I.laid (t' := s.toks) (fun _ _ => PyProof.Rows.sortedAll_old) (Nat.le_succ _) ⟨hlen, out.toList, ep, vals_of_ints h1, he'⟩, rfl, q ns' _ h2 h3 (I.hok.fresh (Nat.le_succ _))⟩

end

/-! ### list.index, flat items -/
section
variable {X : Cx}

theorem flat_at {ys : List V} (f : ys.all flatV = true) {j : Nat} {z : V} (h : ys[j]? = some z) : flatV z = true := List.all_eq_true.mp f z (List.mem_of_getElem? h)

end

/-! ### type(x) of an own instance; is, is not of a module's class -/
section
variable {X : Cx}

end

/-! ### any(xs), all(xs) of a list of bools -/

section
variable {X : Cx}

end

/-! ### == and != of data at any depth: none, bools, ints, texts, lists, tuples -/

section
variable {X : Cx} {pins : List (Addr × Obj)} {σ : St} {H : Hp} {s : Shared}

end
section
variable {X : Cx}

end
end L2

namespace L2
open PySem PySem.Spec PyProof.Rows
abbrev CellAt (h : Heap) (c : Addr) (v : Option Value) : Prop := h.IsCell c v
def relS (scope sc : Scope) : Scope :=
  { scope with names := scope.names.map fun (n, k) => if (k == .free && sc.kind == .function && sc.names.lookup n == some .cell) then (n, .cell) else (n, k) }

def cloFrom (cells : List (Str × Addr)) : List (Str × NameKind) → List (Str × Addr) → List (Str × Addr)
  | [], acc => acc
  | (n, k) :: r, acc => if k == .free then cloFrom cells r ((n, (cells.lookup n).getD 0) :: acc) else cloFrom cells r acc

theorem closure_loop (env : Env) (f : Str × NameKind → List (Str × Addr) → Sem (ForInStep (List (Str × Addr))))
    (hf : ∀ n k c, f (n, k) c = if k == .free then (do let a ← cellOf env n; pure (.yield ((n, a) :: c))) else pure (.yield c)) :
    ∀ (names : List (Str × NameKind)) (acc : List (Str × Addr)), (∀ y ∈ names, y.2 = .free → ∃ c, env.cells.lookup y.1 = some c) → forIn names acc f = pure (cloFrom env.cells names acc)
  | [], acc, _ => by rw [List.forIn_nil]; rfl
  | (n, k) :: r, acc, h => by
    rw [List.forIn_cons, hf]
    have ih := fun acc => closure_loop env f hf r acc fun y hy => h y (List.mem_cons_of_mem _ hy)
    unfold cloFrom
    by_cases hk : (k == NameKind.free) = true
    · rw [if_pos hk, if_pos hk]
      obtain ⟨c, hc⟩ := h (n, k) List.mem_cons_self (by simpa using hk)
      have e : cellOf env n = pure c := by unfold cellOf; rw [hc]
      rw [e]
      have e2 : (env.cells.lookup n).getD 0 = c := by rw [hc]; rfl
      rw [e2]
      exact ih _
    · rw [if_neg hk, if_neg hk]
      exact ih _
theorem closure_ok {scope : Scope} {env : Env} (h : ∀ y ∈ scope.names, y.2 = .free → ∃ c, env.cells.lookup y.1 = some c) : closureFor scope env = pure (cloFrom env.cells scope.names []) := by
  simp only [closureFor]
  rw [closure_loop env _ (fun n k c => rfl) scope.names [] h]
  rfl

theorem mem_lookup {α : Type} : ∀ {l : List (Str × α)} {n : Str} {c : α}, (n, c) ∈ l → ∃ c', l.lookup n = some c'
  | (k, v) :: r, n, c, h => by
    rw [List.lookup_cons]
    cases hb : n == k with
    | true => exact ⟨_, rfl⟩
    | false =>
      rcases List.mem_cons.mp h with e | h
      · cases e; simp at hb
      · exact mem_lookup h

theorem cloFrom_mem {cells : List (Str × Addr)} : ∀ {names : List (Str × NameKind)} {acc : List (Str × Addr)} {n : Str} {c : Addr}, (n, c) ∈ cloFrom cells names acc → (n, c) ∈ acc ∨ ((n, .free) ∈ names ∧ c = (cells.lookup n).getD 0)
  | [], _, _, _, h => .inl h
  | (m, k) :: r, acc, n, c, h => by
    unfold cloFrom at h
    split at h
    · rename_i hk
      have hk : k = .free := by simpa using hk
      rcases cloFrom_mem h with h | ⟨h1, h2⟩
      · rcases List.mem_cons.mp h with e | h
        · cases e; exact .inr ⟨hk ▸ List.mem_cons_self, rfl⟩
        · exact .inl h
      · exact .inr ⟨List.mem_cons_of_mem _ h1, h2⟩
    · rcases cloFrom_mem h with h | ⟨h1, h2⟩
      · exact .inl h
      · exact .inr ⟨List.mem_cons_of_mem _ h1, h2⟩
theorem cloFrom_acc {cells : List (Str × Addr)} : ∀ {names : List (Str × NameKind)} {acc : List (Str × Addr)} {p : Str × Addr}, p ∈ acc → p ∈ cloFrom cells names acc
  | [], _, _, h => h
  | (m, k) :: r, acc, p, h => by
    unfold cloFrom
    split
    · exact cloFrom_acc (List.mem_cons_of_mem _ h)
    · exact cloFrom_acc h
theorem cloFrom_has {cells : List (Str × Addr)} : ∀ {names : List (Str × NameKind)} {acc : List (Str × Addr)} {n : Str}, (n, .free) ∈ names → (n, (cells.lookup n).getD 0) ∈ cloFrom cells names acc
  | (m, k) :: r, acc, n, h => by
    unfold cloFrom
    rcases List.mem_cons.mp h with e | h
    · cases e
      exact cloFrom_acc List.mem_cons_self
    · split
      · exact cloFrom_has h
      · exact cloFrom_has h

theorem cells_mem : ∀ {names : List (Str × NameKind)} {h : Heap} {acc : List (Str × Addr)} {x : Str} {c : Addr}, (x, c) ∈ cellsFrom h.objs.size names acc →
    (x, c) ∈ acc ∨ ((x, .cell) ∈ names ∧ h.objs.size ≤ c ∧ CellAt (pushCells h names) c none)
  | [], _, _, _, _, h => .inl h
  | (n, k) :: r, h, acc, x, c, hm => by
    unfold cellsFrom at hm
    unfold pushCells
    split at hm
    · rename_i hk
      rw [if_pos hk]
      have hk : k = .cell := by simpa using hk
      rw [← Heap.size_push h { cls := .type "cell", data := .cell none }] at hm
      rcases cells_mem hm with hm | ⟨h1, h2, h3⟩
      · rcases List.mem_cons.mp hm with e | hm
        · cases e
          exact .inr ⟨hk ▸ List.mem_cons_self, Nat.le_refl _, _, pushCells_keeps r _ _ _ (Heap.get?_push_size _ rfl), rfl⟩
        · exact .inl hm
      · rw [Heap.size_push] at h2
        exact .inr ⟨List.mem_cons_of_mem _ h1, Nat.le_of_succ_le h2, h3⟩
    · rename_i hk
      rw [if_neg hk]
      rcases cells_mem hm with hm | ⟨h1, h2, h3⟩
      · exact .inl hm
      · exact .inr ⟨List.mem_cons_of_mem _ h1, h2, h3⟩
theorem cells_acc : ∀ {names : List (Str × NameKind)} {n : Nat} {acc : List (Str × Addr)} {p : Str × Addr}, p ∈ acc → p ∈ cellsFrom n names acc
  | [], _, _, _, h => h
  | (m, k) :: r, n, acc, p, h => by
    unfold cellsFrom
    split
    · exact cells_acc (List.mem_cons_of_mem _ h)
    · exact cells_acc h
theorem cells_has : ∀ {names : List (Str × NameKind)} {n : Nat} {acc : List (Str × Addr)} {x : Str}, (x, .cell) ∈ names → ∃ c, (x, c) ∈ cellsFrom n names acc
  | (m, k) :: r, n, acc, x, h => by
    unfold cellsFrom
    rcases List.mem_cons.mp h with e | h
    · cases e
      exact ⟨n, cells_acc List.mem_cons_self⟩
    · split
      · exact cells_has h
      · exact cells_has h
theorem cells_inj : ∀ {names : List (Str × NameKind)} {h : Heap} {acc : List (Str × Addr)} {x y : Str} {c : Addr}, (∀ p ∈ acc, p.2 < h.objs.size) → (∀ x y c, (x, c) ∈ acc → (y, c) ∈ acc → x = y) →
    (x, c) ∈ cellsFrom h.objs.size names acc → (y, c) ∈ cellsFrom h.objs.size names acc → x = y
  | [], _, _, _, _, _, _, hi, h1, h2 => hi _ _ _ h1 h2
  | (n, k) :: r, h, acc, x, y, c, hl, hi, h1, h2 => by
    unfold cellsFrom at h1 h2
    split at h1
    · rename_i hk
      rw [if_pos hk] at h2
      rw [← Heap.size_push h { cls := .type "cell", data := .cell none }] at h1 h2
      refine cells_inj (h := h.push _) (fun p hp => ?_) (fun x y c a b => ?_) h1 h2
      · rw [Heap.size_push]
        rcases List.mem_cons.mp hp with rfl | hp
        · exact Nat.lt_succ_self _
        · exact Nat.lt_succ_of_lt (hl p hp)
      · rcases List.mem_cons.mp a with e | a <;> rcases List.mem_cons.mp b with e' | b
        · cases e; cases e'; rfl
        · cases e; exact absurd (hl _ b) (Nat.lt_irrefl _)
        · cases e'; exact absurd (hl _ a) (Nat.lt_irrefl _)
        · exact hi _ _ _ a b
    · rename_i hk
      rw [if_neg hk] at h2
      exact cells_inj hl hi h1 h2

theorem newEnv_comp {M : Model} {A : Around} {E : Value → Shared → Prop} {s : Shared} {scope : Scope} {globals : Addr} {closure : List (Str × Addr)} {qual : Str} {func : Option Addr} {code : Value} {around : Env} {builtins : Addr} {Q : Env → Shared → Prop}
    (h : Q (newEnv scope s.heap.objs.size globals (cellsFrom (s.heap.objs.size + 1) scope.names closure) qual func code (some around) builtins)
      { s with heap := pushCells (s.heap.push { cls := .type "dict", data := .dict #[] }) scope.names }) :
    wpAny M A (newFunctionEnv scope globals closure [] qual func code (some around) builtins) Q E s := by
  simp only [newFunctionEnv, Option.isSome_some, if_true]
  refine wpAny_bind (wpAny_alloc ?_)
  refine wpAny_bind (wpAny_layCells _ (fun n k c => rfl) scope.names closure _ _ ?_)
  rw [show ({ s with heap := s.heap.push { cls := .type "dict", data := .dict #[] } } : Shared).heap.objs.size = s.heap.objs.size + 1 from Heap.size_push ..]
  rw [List.forIn_nil]
  exact wpAny_bind (wpAny_pure (wpAny_pure h))

/-- every name of the written scope, in the scope that runs -/
theorem lookup_relS {sc : Scope} : ∀ {names : List (Str × NameKind)} {x : Str} {k : NameKind},
    (names.map fun (n, k) => if (k == NameKind.free && sc.kind == .function && sc.names.lookup n == some .cell) then (n, NameKind.cell) else (n, k)).lookup x = some k →
    ∃ k', names.lookup x = some k' ∧ (k = k' ∨ (k' = .free ∧ k = .cell))
  | [], _, _, h => by simp at h
  | (n, k₀) :: r, x, k, h => by
    have ih := @lookup_relS sc r x k
    have h' : List.lookup x ((if (k₀ == NameKind.free && sc.kind == .function && sc.names.lookup n == some .cell) = true then (n, NameKind.cell) else (n, k₀)) :: (r.map _)) = some k := h
    cases hx : x == n with
    | true =>
      simp only [List.lookup_cons, hx]
      by_cases hc : (k₀ == NameKind.free && sc.kind == .function && sc.names.lookup n == some .cell) = true
      · rw [if_pos hc] at h'
        simp only [List.lookup_cons, hx] at h'
        cases h'
        simp only [Bool.and_eq_true, beq_iff_eq] at hc
        exact ⟨k₀, rfl, .inr ⟨hc.1.1, rfl⟩⟩
      · rw [if_neg hc] at h'
        simp only [List.lookup_cons, hx] at h'
        cases h'
        exact ⟨_, rfl, .inl rfl⟩
    | false =>
      simp only [List.lookup_cons, hx]
      by_cases hc : (k₀ == NameKind.free && sc.kind == .function && sc.names.lookup n == some .cell) = true
      · rw [if_pos hc] at h'
        simp only [List.lookup_cons, hx] at h'
        exact ih h'
      · rw [if_neg hc] at h'
        simp only [List.lookup_cons, hx] at h'
        exact ih h'

/-- the names of a comprehension's block: its own (with their places in N), or captured -/
structure BlkOk (N : List Str) (sc scope : Scope) (own : List (Str × Nat)) : Prop where
  kind : scope.kind = .function
  uniq : ∀ y ∈ scope.names, scope.names.lookup y.1 = some y.2
  ix : ∀ p ∈ own, N[p.2]? = some p.1
  free : ∀ y ∈ scope.names, y.2 = .free → sc.names.lookup y.1 = some .cell ∨ sc.names.lookup y.1 = some .free
  own : ∀ y ∈ scope.names, y.2 = .local ∨ y.2 = .cell → y.1 ∈ own.map (·.1) ∨ y.1 ∉ N
/-- the slots of the block's own names forgotten -/
def wipe (σ : St) : List Nat → St
  | [] => σ
  | v :: vs => (wipe σ vs).set v none
theorem wipe_length (σ : St) : ∀ vs : List Nat, (wipe σ vs).length = σ.length
  | [] => rfl
  | v :: vs => by unfold wipe; rw [List.length_set, wipe_length σ vs]
theorem wipe_some {σ : St} {i : Nat} {x : V} : ∀ {vs : List Nat}, (wipe σ vs)[i]? = some (some x) → σ[i]? = some (some x) ∧ i ∉ vs
  | [], h => ⟨h, by simp⟩
  | v :: vs, h => by
    unfold wipe at h
    by_cases hi : v = i
    · subst hi
      by_cases hv : v < (wipe σ vs).length
      · rw [List.getElem?_set_self hv] at h; cases h
      · rw [List.getElem?_eq_none (by simpa using hv)] at h; cases h
    · rw [List.getElem?_set_ne hi] at h
      obtain ⟨h1, h2⟩ := wipe_some h
      exact ⟨h1, by simp only [List.mem_cons, not_or]; exact ⟨fun e => hi e.symm, h2⟩⟩

/-- the context of a block that starts at s, its iterator's objects at fp -/
abbrev Cx.blk (X : Cx) (s : Shared) (H : Hp) (scope : Scope) (cenv : Env) (fp : List Addr) : Cx := { X with s_0 := s, H_0 := H, env := cenv, outer := X.stack, ex := fp, fn := fun x => scope.names.lookup x == some .cell, pn := [], xe := fun _ _ => False }
section
variable {X : Cx} {pins : List (Addr × Obj)} {σ : St} {H : Hp} {s : Shared}
theorem block_start {scope : Scope} {own : List (Str × Nat)} {fp : List Addr} (I : Inv X pins σ H s) (ok : BlkOk X.N X.env.scope scope own) (hN : X.N.Nodup) (hfp : ∀ b ∈ fp, FpOk X pins H b ∧ b < s.heap.objs.size) :
    Inv (X.blk s H scope (compEnvC scope (cellsFrom (s.heap.objs.size + 1) scope.names (cloFrom X.env.cells scope.names [])) s.heap.objs.size X.env) fp) [] (wipe σ (own.map (·.2))) H { s with heap := pushCells (s.heap.push { cls := .type "dict", data := .dict #[] }) scope.names } := by
  have hfree : ∀ y ∈ scope.names, y.2 = .free → ∃ c, X.env.cells.lookup y.1 = some c := fun y hy e => by
    rcases ok.free y hy e with k | k
    · exact I.ok.has _ (.inl k)
    · exact I.ok.has _ (.inr k)
  generalize hcenv : compEnvC scope (cellsFrom (s.heap.objs.size + 1) scope.names (cloFrom X.env.cells scope.names [])) s.heap.objs.size X.env = cenv
  have kp : ∀ b o, s.heap.get? b = some o → (pushCells (s.heap.push { cls := .type "dict", data := .dict #[] }) scope.names).get? b = some o := fun b o e => pushCells_keeps _ _ _ _ (Heap.get?_push_of_some _ e)
  have hL : cenv.locals = s.heap.objs.size := by rw [← hcenv]; rfl
  have hcl : cenv.cells = cellsFrom (s.heap.objs.size + 1) scope.names (cloFrom X.env.cells scope.names []) := by rw [← hcenv]; rfl
  have hsc : cenv.scope = relS scope X.env.scope := by rw [← hcenv]; rfl
  rw [← Heap.size_push s.heap { cls := .type "dict", data := .dict #[] }] at hcl
  have cm : ∀ {y c}, (y, c) ∈ cloFrom X.env.cells scope.names [] → X.env.cells.lookup y = some c ∧ c < s.heap.objs.size := fun {y c} hm => by
    rcases cloFrom_mem hm with hm | ⟨h1, rfl⟩
    · cases hm
    · obtain ⟨c, hc⟩ := hfree _ h1 rfl
      rw [hc]
      obtain ⟨w, z⟩ := I.cell _ _ hc
      exact ⟨rfl, z.lt⟩
  have mem : ∀ {y c}, cenv.cells.lookup y = some c → (X.env.cells.lookup y = some c ∧ c < s.heap.objs.size) ∨ (s.heap.objs.size + 1 ≤ c ∧ CellAt (pushCells (s.heap.push { cls := .type "dict", data := .dict #[] }) scope.names) c none) := fun {y c} e => by
    rw [hcl] at e
    rcases cells_mem (PySem.mem_of_lookup e) with hm | ⟨_, h2, h3⟩
    · exact .inl (cm hm)
    · rw [Heap.size_push] at h2; exact .inr ⟨h2, h3⟩
  have look : ∀ {y}, scope.names.lookup y = some .free → ∃ c, cenv.cells.lookup y = some c ∧ X.env.cells.lookup y = some c := fun {y} hl => by
    have hy : (y, NameKind.free) ∈ scope.names := PySem.mem_of_lookup hl
    obtain ⟨c', e'⟩ := mem_lookup (cells_acc (names := scope.names) (n := (s.heap.push { cls := .type "dict", data := .dict #[] }).objs.size) (cloFrom_has (cells := X.env.cells) (acc := []) hy))
    rw [← hcl] at e'
    refine ⟨c', e', ?_⟩
    rw [hcl] at e'
    rcases cells_mem (PySem.mem_of_lookup e') with hm | ⟨h1, _, _⟩
    · exact (cm hm).1
    · have := ok.uniq _ h1
      rw [hl] at this; cases this
  have okB : (X.blk s H scope cenv fp).Ok := by
    refine ⟨I.ok.mod, by show cenv.scope.kind = _; rw [hsc]; exact ok.kind, by show cenv.globals = _; rw [← hcenv]; exact I.ok.glob, by show cenv.builtins = _; rw [← hcenv]; exact I.ok.blt, by show s.heap.objs.size ≤ cenv.locals; rw [hL]; exact Nat.le_refl _,
      fun y z c e1 e2 => ?_, fun y hy => ?_, fun y c z e => ?_, I.ok.hd, I.ok.frames, .inl rfl, fun b hb => ⟨?_, fun y c e z => ?_⟩, I.bs, Nat.le_trans I.ok.bsz I.sz, fun b o e hb => ?_, fun b hb z => ?_, I.stack, I.stkFree⟩
    · have e1 : cenv.cells.lookup y = some c := e1
      have e2 : cenv.cells.lookup z = some c := e2
      rw [hcl] at e1 e2
      refine cells_inj (fun p hp => ?_) (fun y z c a b => I.ok.inj y z c (cm a).1 (cm b).1) (PySem.mem_of_lookup e1) (PySem.mem_of_lookup e2)
      rw [Heap.size_push]
      exact Nat.lt_succ_of_lt (cm (y := p.1) (c := p.2) hp).2
    · show ∃ c, cenv.cells.lookup y = some c
      have key : ∀ k, cenv.kindOf y = some k → (k = .cell ∨ k = .free) → ∃ c, cenv.cells.lookup y = some c := fun k hk hk' => by
        unfold Env.kindOf at hk
        rw [hsc] at hk
        obtain ⟨k', e, r⟩ := lookup_relS hk
        have : k' = .cell ∨ k' = .free := by
          rcases r with rfl | ⟨rfl, _⟩
          · exact hk'
          · exact .inr rfl
        rcases this with rfl | rfl
        · obtain ⟨c, hm⟩ := cells_has (n := (s.heap.push { cls := .type "dict", data := .dict #[] }).objs.size) (acc := cloFrom X.env.cells scope.names []) (PySem.mem_of_lookup e)
          obtain ⟨c', e'⟩ := mem_lookup hm
          exact ⟨c', by rw [hcl]; exact e'⟩
        · obtain ⟨c, h1, _⟩ := look e
          exact ⟨c, h1⟩
      rcases hy with hy | hy
      · exact key _ hy (.inl rfl)
      · exact key _ hy (.inr rfl)
    · have z : (scope.names.lookup y == some NameKind.cell) = true := z
      have z : scope.names.lookup y = some .cell := by simpa using z
      have e : cenv.cells.lookup y = some c := e
      rw [hcl] at e
      rcases cells_mem (PySem.mem_of_lookup e) with hm | ⟨_, h2, _⟩
      · rcases cloFrom_mem hm with hm | ⟨h1, _⟩
        · cases hm
        · have q := ok.uniq _ h1
          rw [z] at q; cases q
      · rw [Heap.size_push] at h2
        exact Nat.le_of_succ_le h2
    · show b ≠ cenv.locals
      rw [hL]; exact Nat.ne_of_lt (hfp b hb).2
    · have e : cenv.cells.lookup y = some c := e
      rcases mem e with ⟨h1, _⟩ | ⟨h1, _⟩
      · exact (hfp b hb).1.2.2.2.2.1 y c h1 z
      · have h2 : s.heap.objs.size + 1 ≤ b := by rw [← z]; exact h1
        exact absurd (Nat.lt_of_lt_of_le (hfp b hb).2 (Nat.le_of_succ_le h2)) (Nat.lt_irrefl _)
    · rcases (hfp b hb).1.2.2.2.1 with z | z
      · exact I.ok.noex b o e z
      · exact absurd (Nat.lt_of_lt_of_le (Heap.lt_size e) (Nat.le_trans I.ok.bsz z)) (Nat.lt_irrefl _)
    · rcases List.mem_cons.mp (I.stkSub b z) with z | z
      · exact (hfp b hb).1.2.1 z
      · exact (hfp b hb).1.2.2.1 z
  refine ⟨okB, rfl, I.bare, Un.kept kp, ⟨fun _ => none, ?_, fun i y av e1 e2 e3 => ?_⟩, fun y c e => ?_, ?_, fun y c e => ?_, fun p hp => ?_, I.hok.kept kp, by rw [wipe_length]; exact I.len⟩
  · show Heap.Ns _ cenv.locals _
    rw [hL]
    exact Heap.Ns.keeps (Heap.Ns.new ..) fun b o e => pushCells_keeps _ _ _ _ e
  · obtain ⟨e2, hne⟩ := wipe_some e2
    have hfr : scope.names.lookup y = some .free ∧ (cenv.kindOf y = some .cell ∨ cenv.kindOf y = some .free) := by
      have key : ∀ k, cenv.scope.names.lookup y = some k → k = .local ∨ k = .cell ∨ k = .free → scope.names.lookup y = some .free ∧ (cenv.kindOf y = some .cell ∨ cenv.kindOf y = some .free) := fun k hk hk' => by
        have hk0 := hk
        rw [hsc] at hk
        obtain ⟨k', e, r⟩ := lookup_relS hk
        have no : ¬ (k' = .local ∨ k' = .cell) := fun hh => by
          rcases ok.own _ (PySem.mem_of_lookup e) hh with e' | e'
          · obtain ⟨p, hp, hpy⟩ := List.mem_map.mp e'
            have e3 := ok.ix p hp
            have : p.1 = y := hpy
            rw [this] at e3
            exact hne (List.mem_map.mpr ⟨p, hp, nodup_ix hN e3 e1⟩)
          · exact e' (List.mem_of_getElem? e1)
        rcases r with rfl | ⟨rfl, rfl⟩
        · rcases hk' with rfl | rfl | rfl
          · exact absurd (.inl rfl) no
          · exact absurd (.inr rfl) no
          · exact ⟨e, .inr hk0⟩
        · exact ⟨e, .inl hk0⟩
      have e3 : Vis cenv.scope y := e3
      rcases e3 with e3 | e3 | e3
      · exact key _ e3 (.inl rfl)
      · exact key _ e3 (.inr (.inl rfl))
      · exact key _ e3 (.inr (.inr rfl))
    obtain ⟨m, hn, hl⟩ := I.loc
    have hvis : Vis X.env.scope y := (ok.free _ (PySem.mem_of_lookup hfr.1) rfl).elim (fun k => .inr (.inl k)) (fun k => .inr (.inr k))
    obtain ⟨w, r, q⟩ := hl i y av e1 e2 hvis
    refine ⟨w, r, .inr ⟨hfr.2, ?_⟩⟩
    obtain ⟨c, h1, h2⟩ := look hfr.1
    rcases q with ⟨k, _⟩ | ⟨_, c', e', z⟩
    · have k : X.env.scope.names.lookup y = some .local := k
      rcases ok.free _ (PySem.mem_of_lookup hfr.1) rfl with k' | k' <;> rw [show X.env.scope.names.lookup y = _ from k'] at k <;> cases k
    · rw [h2] at e'; cases e'
      exact ⟨c, h1, z.keeps kp⟩
  · have e : cenv.cells.lookup y = some c := e
    rcases mem e with ⟨h1, _⟩ | ⟨_, z⟩
    · obtain ⟨w, z⟩ := I.cell y c h1
      exact ⟨w, z.keeps kp⟩
    · exact ⟨_, z⟩
  · show H cenv.locals = none
    rw [hL]; exact I.hok.fresh (Nat.le_refl _)
  · have e : cenv.cells.lookup y = some c := e
    rcases mem e with ⟨h1, _⟩ | ⟨h1, _⟩
    · exact I.freeC y c h1
    · exact I.hok.fresh (Nat.le_of_succ_le h1)
  · exact absurd (show p ∈ ([] : List (Addr × Obj)) ++ [] from hp) (by simp)

/-- an item appended to a tracked list -/
theorem app_ok {E : Value → Shared → Prop} {D : Addr} {xs : List V} {y : V} {v : Value} {Q : Value → Shared → Prop} (I : Inv X pins σ H s) (hD : H D = some (.lst xs)) (hz : xs.length < sizeLine) (r : RelV y v)
    (h : ∀ s', Inv X pins σ (upd H D (.lst (xs ++ [y]))) s' → Q .none s') : wpAny (model X.prog X.w) X.A (call (.builtin "list.append") [.ref D, v]) Q E s := by
  obtain ⟨hz', its, n, ri, e⟩ := I.hok D _ hD
  have hl := ri.length
  refine append_at (hsz := by rw [List.size_toArray]; omega) e fun h' sb ho' => ?_
  refine h { s with heap := h' } (I.write (t' := s.toks) (by rw [hD]; trivial) (.inl rfl) (fun b u hb q => (sb.2 b hb).trans q) ⟨_, ho'⟩ ⟨by rw [List.length_append]; exact hz, its ++ [v], n + 1, ri.append (.cons r .nil), ?_⟩)
  rw [ho']
  simp

/-- a clause's tests -/
def PTs (X : Cx) (ifs : List Expr) (t : TT) : Prop :=
  ∀ (pins : List (Addr × Obj)) (s : Shared) (σ : St) (H : Hp) (Q : Bool → Hp → Prop), Inv X pins σ H s → t σ H Q →
    wpAny (model X.prog X.w) X.A (forIn ifs true fun c r => if r = true then do let ok ← isTrue c X.env (eval c X.env); pure (ForInStep.yield ok) else pure (ForInStep.yield r)) (TP X pins σ Q) X.xe s
def tYes : TT := fun _ H Q => Q true H
theorem pts_nil : PTs X [] tYes := fun _ _ _ H _ I h => wpAny_tests_nil ⟨H, I, h⟩
theorem pts_one {c : Expr} {t : TT} (h : PT X c t) : PTs X [c] t := fun pins s σ H Q I hw => wpAny_tests_one (h pins s σ H Q I hw)
end

theorem thnF {α : Type} {t : Sem α} {Q Q' : α → Shared → Prop} {M : Model} {A : Around} {E : Value → Shared → Prop} {s : Shared} (h : wpAny M A t Q (fun _ _ => False) s) (hQ : ∀ a s, Q a s → Q' a s) : wpAny M A t Q' E s := wpAny_mono h hQ fun _ _ z => False.elim z

/-- the loop of a list comprehension's block, the target of any form (codeAny_compLoop_tests asks a target that no tuple goes to; statement and proof follow it, PyProof/CompMap.lean:41-61, with the step letOwnedTupleGo kept) -/
theorem compLoop_any {prog : Program} {w : World} {A : Around} {R : Result → Shared → Prop} {s : Shared} {elt target iter : Expr} {ifs : List Expr} {scope : Scope} {pos : Pos} {it acc : Value} {env : Env} (I : Nat → Shared → Prop)
    (turn : ∀ n s, I n s → wpAny (model prog w) A (pyNext it) (fun r s₁ => match r with
      | none => R (.ok .next) s₁
      | some v => wpAny (model prog w) A (letOwnedTupleGo target it v) (fun _ s₁' => wpAny (model prog w) A (assign target env v) (fun _ s₂ =>
          wpAny (model prog w) A (forIn ifs true fun c r => if r = true then do let ok ← isTrue c env (eval c env); pure (ForInStep.yield ok) else pure (ForInStep.yield r)) (fun ok s₃ =>
            if ok = true then wpAny (model prog w) A (eval elt env) (fun x s₄ =>
              wpAny (model prog w) A (call (.builtin "list.append") [acc, x]) (fun _ s₅ => ∃ m, m < n ∧ I m s₅) (notedBy (model prog w) A env fun e s' => R (.error e) s') s₄) (notedBy (model prog w) A env fun e s' => R (.error e) s') s₃
            else ∃ m, m < n ∧ I m s₃) (notedBy (model prog w) A env fun e s' => R (.error e) s') s₂) (notedBy (model prog w) A env fun e s' => R (.error e) s') s₁') (notedBy (model prog w) A env fun e s' => R (.error e) s') s₁) (notedBy (model prog w) A env fun e s' => R (.error e) s') s)
    (n : Nat) (h : I n s) :
    codeAny (model prog w) A (.compLoop (.ListComp elt [⟨target, iter, ifs, 0⟩] scope pos) 0 it acc env) R s := by
  refine codeAny_loop rfl I (fun n s hI => ?_) n h
  show wpAny _ A ((compTurn (.ListComp elt [⟨target, iter, ifs, 0⟩] scope pos) 0 it acc env).onRaise (fun x => do noteFrame x env; theTreesLotGoes x)) _ _ s
  refine wpAny_noted ?_
  rw [compTurn_list]
  refine wpAny_bind (wpAny_standAt (wpAny_bind (wpAny_mono (turn n s hI) (fun r s₁ h₁ => ?_) fun _ _ h' => h')))
  cases r with
  | none => exact wpAny_pure h₁
  | some v =>
    refine wpAny_bind (wpAny_mono h₁ (fun _ s₁' h₁' => ?_) fun _ _ h' => h')
    refine wpAny_bind (wpAny_mono h₁' (fun _ s₂ h₂ => wpAny_bind (wpAny_mono h₂ (fun ok s₃ h₃ => ?_) fun _ _ h' => h')) fun _ _ h' => h')
    cases ok with
    | false => exact wpAny_pure ⟨rfl, h₃⟩
    | true =>
      exact wpAny_bind (wpAny_bind (wpAny_mono h₃ (fun x s₄ h₄ => wpAny_bind (wpAny_mono h₄ (fun _ s₅ h₅ => wpAny_pure (wpAny_pure ⟨rfl, h₅⟩)) fun _ _ h' => h')) fun _ _ h' => h'))

section
variable {X : Cx}
/-- [elt for target in iter if ..]: D the new list; W by the turn and a measure, Nx what a turn is to reach -/
def tLc (wi : TI) (g : TG) (tt : TT) (te : TE) (vs : List Nat) : TE := fun σ H Q => wi σ H fun J H1 => ∀ D, H1 D = none → ∃ W : Nat → Nat → Hp → Prop, (∃ m, W 0 m (upd H1 D (.lst []))) ∧ ∀ i m H, W i m H →
  (J.stop i H ∧ Q (.ref D) H) ∨ (J.go i H ∧ ∃ Nx : Hp → Prop, (∀ H', Nx H' → ∃ m', m' < m ∧ W (i + 1) m' H') ∧ ∀ x H', J.yld i H x H' → g x (wipe σ vs) H' fun σ2 H2 => wipe σ2 vs = wipe σ vs ∧ tt σ2 H2 fun b H3 =>
    if b = true then te σ2 H3 fun y H4 => ∃ acc, H4 D = some (.lst acc) ∧ acc.length < sizeLine ∧ Nx (upd H4 D (.lst (acc ++ [y]))) else Nx H3)
theorem lc_core {pins : List (Addr × Obj)} {s : Shared} {σ : St} {H : Hp} {Q : VK} {elt tg iter : Expr} {ifs : List Expr} {scope : Scope} {own : List (Str × Nat)} {pos pos' : Pos} {wi : TI} {g : TG} {tt : TT} {te : TE} {use : Option (Value → Sem Unit)} {Qf : Value → Shared → Prop}
    (hc : X.calm = true) (hN : X.N.Nodup) (I : Inv X pins σ H s) (hi : PI X tg iter wi) (ok : BlkOk X.N X.env.scope scope own)
    (hg : ∀ (s : Shared) (H : Hp) (C : Addr) (cl : List (Str × Addr)) (fp : List Addr), PG (X.blk s H scope (compEnvC scope cl C X.env) fp) tg g) (ht : ∀ (s : Shared) (H : Hp) (C : Addr) (cl : List (Str × Addr)) (fp : List Addr), PTs (X.blk s H scope (compEnvC scope cl C X.env) fp) ifs tt)
    (he : ∀ (s : Shared) (H : Hp) (C : Addr) (cl : List (Str × Addr)) (fp : List Addr), PE (X.blk s H scope (compEnvC scope cl C X.env) fp) elt te) (hs : ∀ x, foldedSetIterable iter X.env x = pure x)
    (h : tLc wi g tt te (own.map (·.2)) σ H Q)
    (hRR : ∀ D C s' m H', Inv X pins σ H' s' → Q (.ref D) H' → s'.heap.Ns C m → FpOk X pins H' C → compPost (model X.prog X.w) X.A X.xe use Qf (.ref D) C (.ok .next) s') :
    wpAny (model X.prog X.w) X.A (comprehension (.ListComp elt [⟨tg, iter, ifs, 0⟩] scope pos) scope X.env pos' (newList []) false (eval iter X.env) use) Qf X.xe s := by
  have hfree : ∀ y ∈ scope.names, y.2 = .free → ∃ c, X.env.cells.lookup y.1 = some c := fun y hy e => by
    rcases ok.free y hy e with k | k
    · exact I.ok.has _ (.inl k)
    · exact I.ok.has _ (.inr k)
  refine wpAny_comprehension_free (use := use) rfl hs (closure_ok hfree) ok.kind (fun y hy e => by rw [ok.uniq y hy, e])
    (thn (hi pins s σ H _ I h) fun xv s1 hx => thn hx fun itv s2 h2 => ?_)
  obtain ⟨it, fp, tn, J, H2, e, I2, T, st2, f2, q⟩ := h2
  subst e
  refine wpAny_newObj_type (newEnv_comp ?_) (by show 0 ≤ sizeLine; decide)
  generalize hD : s2.heap.objs.size = D
  have hDn : H2 D = none := I2.hok.fresh (Nat.le_of_eq hD)
  obtain ⟨W, ⟨m0, w0⟩, turn⟩ := q D hDn
  -- the new list
  generalize hs3 : ({ s2 with heap := s2.heap.push { cls := .type "list", data := .seq ([] : List Value).toArray } } : Shared) = s3
  have I3 : Inv X pins σ (upd H2 D (.lst [])) s3 := by
    rw [← hs3]
    refine I2.laid (t' := s2.toks) (fun b o e => Heap.get?_push_of_some _ e) (Nat.le_of_eq hD) ⟨Nat.zero_le _, [], 0, .nil, ?_⟩
    rw [← hD]
    exact Heap.get?_push_size _ rfl
  have h3 : s3.heap = s2.heap.push { cls := .type "list", data := .seq ([] : List Value).toArray } := by rw [← hs3]
  have sz : ∀ b ∈ fp, b < s2.heap.objs.size := fun b hb => by
    obtain ⟨o, e, _⟩ := T.obj _ _ st2 b hb
    exact Heap.lt_size e
  have f3 : ∀ b ∈ fp, FpOk X pins (upd H2 D (.lst [])) b ∧ b < s3.heap.objs.size := fun b hb => by
    have hlt := sz b hb
    refine ⟨⟨?_, (f2 b hb).2⟩, by rw [h3, Heap.size_push]; exact Nat.lt_succ_of_lt hlt⟩
    rw [upd_ne (by rw [← hD]; exact Nat.ne_of_lt hlt)]
    exact (f2 b hb).1
  have st3 : tn 0 s3.heap := T.keep _ _ _ st2 fun b _ o e => by rw [h3]; exact Heap.get?_push_of_some _ e
  have I4 := block_start I3 ok hN f3
  have pg := hg s3 (upd H2 D (.lst [])) s3.heap.objs.size (cellsFrom (s3.heap.objs.size + 1) scope.names (cloFrom X.env.cells scope.names [])) fp
  have pt := ht s3 (upd H2 D (.lst [])) s3.heap.objs.size (cellsFrom (s3.heap.objs.size + 1) scope.names (cloFrom X.env.cells scope.names [])) fp
  have pe := he s3 (upd H2 D (.lst [])) s3.heap.objs.size (cellsFrom (s3.heap.objs.size + 1) scope.names (cloFrom X.env.cells scope.names [])) fp
  show codeAny _ _ (.compStart (.ListComp elt [⟨tg, iter, ifs, 0⟩] scope pos) 0 (.ref it) (.ref D) (compEnvC scope (cellsFrom (s3.heap.objs.size + 1) scope.names (cloFrom X.env.cells scope.names [])) s3.heap.objs.size X.env)) (compPost (model X.prog X.w) X.A X.xe use Qf (.ref D) s3.heap.objs.size) { s3 with heap := pushCells (s3.heap.push { cls := .type "dict", data := .dict #[] }) scope.names }
  have nfp : ∀ b ∈ fp, (upd H2 D (.lst [])) b = none := fun b hb => (f3 b hb).1.1
  generalize hce : compEnvC scope (cellsFrom (s3.heap.objs.size + 1) scope.names (cloFrom X.env.cells scope.names [])) s3.heap.objs.size X.env = ce at I4 pg pt pe ⊢
  have cL : ce.locals = s3.heap.objs.size := by subst hce; rfl
  generalize hH3 : upd H2 D (.lst []) = H3 at I3 I4 pg pt pe w0 nfp f3
  generalize hs4 : ({ s3 with heap := pushCells (s3.heap.push { cls := .type "dict", data := .dict #[] }) scope.names } : Shared) = s4 at I4 ⊢
  have st4 : tn 0 s4.heap := T.keep _ _ _ st3 fun b _ o e => by rw [← hs4]; exact pushCells_keeps _ _ _ _ (Heap.get?_push_of_some _ e)
  have stat : ∀ {σ' : St} {H' : Hp} {s' : Shared}, Inv (X.blk s3 H3 scope ce fp) [] σ' H' s' → (∀ b ∈ fp, H' b = none) → ∀ b ∈ fp, FpOk (X.blk s3 H3 scope ce fp) [] H' b := fun {σ' H' s'} I' hn b hb =>
    ⟨hn b hb, (I'.ok.exf b hb).1, I'.ok.exfs b hb, .inl hb, fun x c e => (I'.ok.exf b hb).2 x c e, fun p hp => absurd (show p ∈ ([] : List (Addr × Obj)) ++ [] from hp) (by simp)⟩
  have loop : codeAny (model X.prog X.w) X.A (.compLoop (.ListComp elt [⟨tg, iter, ifs, 0⟩] scope pos) 0 (.ref it) (.ref D) ce) (compPost (model X.prog X.w) X.A X.xe use Qf (.ref D) s3.heap.objs.size) s4 := by
    refine compLoop_any (fun n s' => ∃ i H', Inv (X.blk s3 H3 scope ce fp) [] (wipe σ (own.map (·.2))) H' s' ∧ tn i s'.heap ∧ (∀ b ∈ fp, H' b = none) ∧ W i n H') ?_ m0 ⟨0, H3, I4, st4, nfp, w0⟩
    rintro n s5 ⟨i, H5, I5, st5, n5, w5⟩
    rcases turn i n H5 w5 with ⟨stop, qq⟩ | ⟨go, Nx, hNx, step⟩
    · have td := T.done (X.blk s3 H3 scope ce fp) rfl rfl rfl hc i [] s5 _ H5 (fun _ _ => False) I5 (stat I5 n5) st5 stop
      refine thnF td fun r s6 ⟨hr, I6⟩ => ?_
      subst hr
      -- back in the def's context
      have I7 : Inv X pins σ H5 s6 := I3.call' (ch := fp) I6.os I6.base I6.hok I6.bare fun b hb => ⟨(f3 b hb).1.2.2.2.1, (f3 b hb).1.2.1, (f3 b hb).1.2.2.2.2.1, (f3 b hb).1.2.2.2.2.2⟩
      have nC : H5 s3.heap.objs.size = none := by
        have z : H5 ce.locals = none := I6.free
        rw [cL] at z
        exact z
      obtain ⟨m, hn, _⟩ := I6.loc
      have hn : s6.heap.Ns ce.locals m := hn
      rw [cL] at hn
      exact hRR D s3.heap.objs.size s6 m H5 I7 qq hn (I3.fpOk (Nat.le_refl _) nC)
    · have ti := T.item (X.blk s3 H3 scope ce fp) rfl rfl rfl hc i [] s5 _ H5 (fun _ _ => False) I5 (stat I5 n5) st5 go
      refine thnF ti fun r s6 ⟨u, hr, h6⟩ => ?_
      subst hr
      refine thnF h6 fun _ s7 ⟨x, H7, I7, r7, y7, st7, n7⟩ => ?_
      have I7' := I7.pinned (stat I7 n7) (T.obj _ _ st7)
      refine thnF (pg _ s7 _ H7 x u _ I7' r7 (step x H7 y7)) fun _ s8 ⟨σ8, H8, I8, hw8, q8⟩ => ?_
      refine thnF (pt _ s8 σ8 H8 _ I8 q8) fun b s9 ⟨H9, I9, q9⟩ => ?_
      -- the turn's end
      have fin : ∀ {s' : Shared} {H' : Hp}, Inv (X.blk s3 H3 scope ce fp) ([] ++ pinsAt fp s7.heap) σ8 H' s' → Nx H' → ∃ m, m < n ∧ ∃ i H', Inv (X.blk s3 H3 scope ce fp) [] (wipe σ (own.map (·.2))) H' s' ∧ tn i s'.heap ∧ (∀ b ∈ fp, H' b = none) ∧ W i m H' := fun {s' H'} I' nx => by
        obtain ⟨m', hm, w'⟩ := hNx H' nx
        have pin' : ∀ b ∈ fp, ∀ o, s7.heap.get? b = some o → s'.heap.get? b = some o ∧ H' b = none := fun b hb o e =>
          let z := I'.pin (b, o) (List.mem_append_right _ (List.mem_append_right _ (mem_pinsAt hb e)))
          ⟨z.1, z.2.1⟩
        have hl : (wipe σ (own.map (·.2))).length = σ8.length := by rw [← hw8, wipe_length]
        refine ⟨m', hm, i + 1, H', (I'.unpinned (pins := [])).weak hl (fun j v e => ?_), T.keep _ _ _ st7 fun b hb o e => (pin' b hb o e).1, fun b hb => ?_, w'⟩
        · rw [← hw8] at e
          exact (wipe_some e).1
        · obtain ⟨o, e, _⟩ := T.obj _ _ st7 b hb
          exact (pin' b hb o e).2
      cases b with
      | false =>
        simp only [Bool.false_eq_true, if_false] at q9 ⊢
        exact fin I9 q9
      | true =>
        simp only [if_true] at q9 ⊢
        refine thnF (pe _ s9 σ8 H9 _ I9 q9) fun z s10 ⟨yv, H10, I10, r10, acc, hD10, hz10, nx⟩ => ?_
        exact app_ok (X := X.blk s3 H3 scope ce fp) I10 hD10 hz10 r10 fun s11 I11 => fin I11 nx
  exact codeAny_compStart_list loop (T.self X.A 0 _ _ _ st4 loop)
/-- as a value -/
theorem pe_lc {elt tg iter : Expr} {ifs : List Expr} {scope : Scope} {own : List (Str × Nat)} {pos : Pos} {wi : TI} {g : TG} {tt : TT} {te : TE} (hc : X.calm = true) (hN : X.N.Nodup) (hi : PI X tg iter wi) (ok : BlkOk X.N X.env.scope scope own)
    (hg : ∀ (s : Shared) (H : Hp) (C : Addr) (cl : List (Str × Addr)) (fp : List Addr), PG (X.blk s H scope (compEnvC scope cl C X.env) fp) tg g) (ht : ∀ (s : Shared) (H : Hp) (C : Addr) (cl : List (Str × Addr)) (fp : List Addr), PTs (X.blk s H scope (compEnvC scope cl C X.env) fp) ifs tt)
    (he : ∀ (s : Shared) (H : Hp) (C : Addr) (cl : List (Str × Addr)) (fp : List Addr), PE (X.blk s H scope (compEnvC scope cl C X.env) fp) elt te) (hs : ∀ x, foldedSetIterable iter X.env x = pure x := by intro _; rfl) :
    PE X (.ListComp elt [⟨tg, iter, ifs, 0⟩] scope pos) (tLc wi g tt te (own.map (·.2))) := by
  intro pins s σ H Q I h
  rw [eval_ListComp]
  refine lc_core hc hN I hi ok hg ht he hs h fun D C s' m H' I' q hn f => ⟨m, hn, fun h'' sb => ?_⟩
  obtain ⟨f0, f1, f2, f3, f4, f5⟩ := f
  exact ⟨.ref D, H', I'.turned (t' := s'.toks) (fun b o hb e => (sb.2 b hb).trans e) f0 f1 f3 f4 f5, rfl, q⟩
/-- name = [..] on one line, the name a local -/
theorem ps_setLc {i : Nat} {y : Str} {py : Pos} {elt tg iter : Expr} {ifs : List Expr} {scope : Scope} {own : List (Str × Nat)} {pos spos : Pos} {wi : TI} {g : TG} {tt : TT} {te : TE} (hc : X.calm = true) (hN : X.N.Nodup) (hy : X.N[i]? = some y) (hyl : X.env.scope.names.lookup y = some .local)
    (hsw : swapsWith (.ListComp elt [⟨tg, iter, ifs, 0⟩] scope pos) (some (.Name y py)) spos.line X.env = pure true) (hi : PI X tg iter wi) (ok : BlkOk X.N X.env.scope scope own)
    (hg : ∀ (s : Shared) (H : Hp) (C : Addr) (cl : List (Str × Addr)) (fp : List Addr), PG (X.blk s H scope (compEnvC scope cl C X.env) fp) tg g) (ht : ∀ (s : Shared) (H : Hp) (C : Addr) (cl : List (Str × Addr)) (fp : List Addr), PTs (X.blk s H scope (compEnvC scope cl C X.env) fp) ifs tt)
    (he : ∀ (s : Shared) (H : Hp) (C : Addr) (cl : List (Str × Addr)) (fp : List Addr), PE (X.blk s H scope (compEnvC scope cl C X.env) fp) elt te) (hs : ∀ x, foldedSetIterable iter X.env x = pure x := by intro _; rfl) :
    PS X (.Assign [.Name y py] (.ListComp elt [⟨tg, iter, ifs, 0⟩] scope pos) spos) (tAsg (tLc wi g tt te (own.map (·.2))) (gName i)) := by
  intro pins s σ H D I h
  rw [exec_Assign_Name_used _ _ _ _ hsw]
  refine wpAny_bind (wpAny_standAt (wpAny_bind ?_))
  show wpAny _ X.A (do let _ ← comprehension (.ListComp elt [⟨tg, iter, ifs, 0⟩] scope pos) scope X.env (firstIterPos [⟨tg, iter, ifs, 0⟩] pos) (newList []) false (eval iter X.env) (some (assign (.Name y py) X.env))) _ _ s
  have h : tLc wi g tt te (own.map (·.2)) σ H (fun x H1 => gName i x σ H1 D.nx) := h
  refine wpAny_bind (thn (lc_core (Qf := fun _ s' => SP X pins D .next s') hc hN I hi ok hg ht he hs h fun L C s' m H' I' q hn f => ?_) fun _ s' hq => wpAny_pure (wpAny_pure hq))
  show wpAny _ _ (assign (.Name y py) X.env (.ref L)) _ _ _
  refine wpAny_assign_Name (store_ok2 (v := V.ref L) I' hN hy (.inl hyl) rfl (fun s2 I2 ⟨a, sb, ha⟩ => ?_) (.inr hyl))
  obtain ⟨f0, f1, f2, f3, f4, f5⟩ := f
  have haC : C ≠ a := by
    rcases ha with z | z
    · rw [z]; exact f1
    · exact fun e => f4 y a z e.symm
  refine ⟨m, hn.sameBut sb haC, fun h3 sb3 => ?_⟩
  exact ⟨_, H', I2.turned (t' := s2.toks) (fun b o hb e => (sb3.2 b hb).trans e) f0 f1 f3 f4 f5, q⟩
theorem sw_true {elt : Expr} {gs : List Comprehension} {scope : Scope} {pos py : Pos} {y : Str} {l : Nat} {env : Env} (hk : env.scope.kind = .function) (hy : env.scope.names.lookup y = some .local) (hl : (py.line == pos.line) = true)
    (ha : (scope.names.any fun (n, k) => n == y && (k == .local || k == .cell)) = false) : swapsWith (.ListComp elt gs scope pos) (some (.Name y py)) l env = pure true := by
  have ky : env.kindOf y = some .local := hy
  have hb : env.blockKind = .function := by unfold Env.blockKind; rw [hk]; rfl
  unfold swapsWith
  simp only [hb, ky, ha, Expr.pos, hl]
  rfl
end

/-! ### the forms one uses -/
/-- over a range: Pv by the turn and the heap (the new list at D within) -/
theorem lc_range {lo : Int} {n : Nat} {g : TG} {tt : TT} {te : TE} {vs : List Nat} {σ : St} {H1 : Hp} {D : Addr} {Qd : Hp → Prop} (Pv : Nat → Hp → Prop) (h0 : Pv 0 (upd H1 D (.lst [])))
    (hs : ∀ i H, i < n → Pv i H → g (.int (lo + i)) (wipe σ vs) H fun σ2 H2 => wipe σ2 vs = wipe σ vs ∧ tt σ2 H2 fun b H3 =>
      if b = true then te σ2 H3 fun y H4 => ∃ acc, H4 D = some (.lst acc) ∧ acc.length < sizeLine ∧ Pv (i + 1) (upd H4 D (.lst (acc ++ [y]))) else Pv (i + 1) H3) (hd : ∀ H, Pv n H → Qd H) :
    ∃ W : Nat → Nat → Hp → Prop, (∃ m, W 0 m (upd H1 D (.lst []))) ∧ ∀ i m H, W i m H →
      ((Itr lo n).stop i H ∧ Qd H) ∨ ((Itr lo n).go i H ∧ ∃ Nx : Hp → Prop, (∀ H', Nx H' → ∃ m', m' < m ∧ W (i + 1) m' H') ∧ ∀ x H', (Itr lo n).yld i H x H' → g x (wipe σ vs) H' fun σ2 H2 => wipe σ2 vs = wipe σ vs ∧ tt σ2 H2 fun b H3 =>
        if b = true then te σ2 H3 fun y H4 => ∃ acc, H4 D = some (.lst acc) ∧ acc.length < sizeLine ∧ Nx (upd H4 D (.lst (acc ++ [y]))) else Nx H3) := by
  refine ⟨fun i m H => m = n - i ∧ i ≤ n ∧ Pv i H, ⟨n, by simp, Nat.zero_le _, h0⟩, ?_⟩
  rintro i m H ⟨rfl, hi, p⟩
  by_cases hlt : i < n
  · refine .inr ⟨hlt, Pv (i + 1), fun H' p' => ⟨n - (i + 1), by omega, rfl, hlt, p'⟩, fun x H' y => ?_⟩
    obtain ⟨e, y⟩ := y
    subst e y
    exact hs i _ hlt p
  · have e : i = n := by omega
    subst e
    exact .inl ⟨Nat.le_refl _, hd H p⟩
/-- over a list that the block leaves as it is -/
theorem lc_list {K : PySem.W.Frag} {a : Addr} {xs : List V} {g : TG} {tt : TT} {te : TE} {vs : List Nat} {σ : St} {H1 : Hp} {D : Addr} {Qd : Hp → Prop} (Pv : Nat → Hp → Prop) (h0 : Pv 0 (upd H1 D (.lst []))) (hl : ∀ i H, i ≤ xs.length → Pv i H → SqL K H a xs)
    (hs : ∀ i x H, xs[i]? = some x → Pv i H → g x (wipe σ vs) H fun σ2 H2 => wipe σ2 vs = wipe σ vs ∧ tt σ2 H2 fun b H3 =>
      if b = true then te σ2 H3 fun y H4 => ∃ acc, H4 D = some (.lst acc) ∧ acc.length < sizeLine ∧ Pv (i + 1) (upd H4 D (.lst (acc ++ [y]))) else Pv (i + 1) H3) (hd : ∀ H, Pv xs.length H → Qd H) :
    ∃ W : Nat → Nat → Hp → Prop, (∃ m, W 0 m (upd H1 D (.lst []))) ∧ ∀ i m H, W i m H →
      ((Itl K a).stop i H ∧ Qd H) ∨ ((Itl K a).go i H ∧ ∃ Nx : Hp → Prop, (∀ H', Nx H' → ∃ m', m' < m ∧ W (i + 1) m' H') ∧ ∀ x H', (Itl K a).yld i H x H' → g x (wipe σ vs) H' fun σ2 H2 => wipe σ2 vs = wipe σ vs ∧ tt σ2 H2 fun b H3 =>
        if b = true then te σ2 H3 fun y H4 => ∃ acc, H4 D = some (.lst acc) ∧ acc.length < sizeLine ∧ Nx (upd H4 D (.lst (acc ++ [y]))) else Nx H3) := by
  refine ⟨fun i m H => m = xs.length - i ∧ i ≤ xs.length ∧ Pv i H, ⟨xs.length, by simp, Nat.zero_le _, h0⟩, ?_⟩
  rintro i m H ⟨rfl, hi, p⟩
  have q := hl i H hi p
  by_cases hlt : i < xs.length
  · refine .inr ⟨⟨xs, xs[i], q, by simp [hlt]⟩, Pv (i + 1), fun H' p' => ⟨xs.length - (i + 1), by omega, rfl, hlt, p'⟩, fun x H' y => ?_⟩
    obtain ⟨e, y⟩ := y
    subst e
    exact hs i x _ (y xs q) p
  · have e : i = xs.length := by omega
    subst e
    exact .inl ⟨⟨xs, q, Nat.le_refl _⟩, hd H p⟩

def blkC (N : List Str) (sc scope : Scope) (own : List (Str × Nat)) : Bool :=
  (match scope.kind with | .function => true | _ => false) && (scope.names.all fun y => decide (scope.names.lookup y.1 = some y.2)) && (own.all fun p => decide (N[p.2]? = some p.1)) &&
    (scope.names.all fun y => match y.2 with
      | .free => (match sc.names.lookup y.1 with | some .cell => true | some .free => true | _ => false)
      | .local => decide (y.1 ∈ own.map (·.1)) || decide (y.1 ∉ N)
      | .cell => decide (y.1 ∈ own.map (·.1)) || decide (y.1 ∉ N)
      | _ => true)
theorem blkOk_by {N : List Str} {sc scope : Scope} {own : List (Str × Nat)} (h : blkC N sc scope own = true) : BlkOk N sc scope own := by
  unfold blkC at h
  simp only [Bool.and_eq_true, List.all_eq_true, decide_eq_true_eq] at h
  obtain ⟨⟨⟨h1, h2⟩, h3⟩, h4⟩ := h
  refine ⟨?_, h2, h3, fun y hy e => ?_, fun y hy e => ?_⟩
  · split at h1
    · assumption
    · cases h1
  · have q := h4 y hy
    simp only [e] at q
    split at q <;> first | exact .inl (by assumption) | exact .inr (by assumption) | cases q
  · have q := h4 y hy
    rcases e with e | e <;> (simp only [e, Bool.or_eq_true, decide_eq_true_eq] at q; exact q)
end L2

namespace L2
open PySem PySem.Spec PyProof.Rows

section
variable {prog : Program} {w : World} {A : Around} {R : Result → Shared → Prop} {s : Shared} {elt t0 i0 t1 i1 : Expr} {ifs0 ifs1 : List Expr} {scope : Scope} {pos : Pos} {it acc : Value} {env : Env}

end

section
variable {X : Cx}

end
end L2

namespace L2
open PySem PySem.Spec PyProof.Rows

/-! ### lists of pairs as tables -/
section
variable {κ : Type} [DecidableEq κ]

end

/-! ### a tracked dict, its keys ints and texts or tuples of these -/

section
variable {P : Program} {w : World} {H : Hp} {h : Heap} {a : Addr}

end

section
variable {X : Cx} {pins : List (Addr × Obj)} {σ : St} {H : Hp} {s : Shared} {a : Addr} {y v : V} {u r : Value} {o : Option V} {A : Around} {E : Value → Shared → Prop}

end

section
variable {X : Cx} {pins : List (Addr × Obj)} {σ : St} {H : Hp} {s : Shared} {a : Addr} {kvs : List (Key × V)} {k : Key} {u : Value} {A : Around} {E : Value → Shared → Prop}

end

/-! ### readings and rules -/

section
variable {X : Cx} {o i e value : Expr} {pos pos' tpos : Pos} {td ty tv : TE}

end

/-! ### displays -/

section
variable {X : Cx} {pos : Pos}

end

/-! ### methods -/

section
variable {X : Cx} {pins : List (Addr × Obj)} {σ : St} {H : Hp} {s : Shared} {a : Addr} {y d : V} {u r : Value} {o : Option V} {A : Around} {E : Value → Shared → Prop}

end

section
variable {X : Cx} {o e f : Expr} {apos cpos : Pos} {td ty tx : TE}

end

/-! ### dict(d): a copy -/
section
variable {X : Cx} {pins : List (Addr × Obj)} {σ : St} {H : Hp} {s : Shared} {a : Addr} {kvs : List (Key × V)} {A : Around} {E : Value → Shared → Prop}

end

section
variable {X : Cx} {pins : List (Addr × Obj)} {σ : St} {H : Hp} {s : Shared} {a : Addr} {y : V} {u : Value} {A : Around} {E : Value → Shared → Prop}

end
end L2

namespace L2
open PySem PySem.Spec PyProof.Rows

section
variable {prog : Program} {w : World} {A : Around} {E : Value → Shared → Prop}

end

section
variable {X : Cx}

end
end L2

namespace L2
open PySem PySem.Spec PyProof.Rows

section
variable {X : Cx} {pins : List (Addr × Obj)} {σ : St} {H : Hp} {s : Shared} {h' : Heap}
/-- several records of ours have turned -/
theorem Inv.turnedL {t' : Nat} {ch : List Addr} (I : Inv X pins σ H s) (k : ∀ b o, b ∉ ch → s.heap.get? b = some o → h'.get? b = some o) (hf : ∀ b ∈ ch, FpOk X pins H b) : Inv X pins σ H { s with heap := h', toks := t' } := by
  have nit : ∀ b u, H b = some u → b ∉ ch := fun b u e z => by
    have q := (hf b z).1
    rw [q] at e; cases e
  refine I.step (g' := s.gens) (d' := s.drawn) (ch := ch) (fun b hb => ⟨(hf b hb).2.2.2.1, (hf b hb).2.1, (hf b hb).2.2.2.2.1, (hf b hb).2.2.2.2.2⟩) (fun b o _ _ hc e _ => k b o hc e) (fun b o _ _ hc e _ => ⟨o.slots, k b o hc e⟩)
    (fun _ _ _ _ n => n) (fun b o hc e => ⟨o, k b o hc e⟩) (fun _ _ e => e) (fun _ _ _ e => e) (fun b ps e => ⟨#[], by rw [e]; simp⟩) (fun m hm => ?_) (fun b u e => ?_) I.bare
  · obtain ⟨o, es, ep, ho, r⟩ := hm
    exact ⟨o, es, ep, k _ o (fun z => (hf _ z).2.1 rfl) ho, r⟩
  · refine (I.hok b u e).stay (fun c v hc q => k c v ?_ q) (fun _ q => q) fun _ _ q => q
    rcases hc with z | z
    · rw [z]; exact nit b u e
    · exact nit c _ z
/-- .. and one new object is laid -/
theorem Inv.turnedNew {t' : Nat} {ch : List Addr} {T : Addr} {ob : HO} (I : Inv X pins σ H s) (k : ∀ b o, b ∉ ch → s.heap.get? b = some o → h'.get? b = some o) (hf : ∀ b ∈ ch, FpOk X pins H b) (hT : s.heap.objs.size ≤ T)
    (new : ObjOk X.prog X.w (upd H T ob) h' T ob) : Inv X pins σ (upd H T ob) { s with heap := h', toks := t' } := by
  have hn : H T = none := I.hok.fresh hT
  have nit : ∀ b u, H b = some u → b ∉ ch := fun b u e z => by
    have q := (hf b z).1
    rw [q] at e; cases e
  refine I.step (g' := s.gens) (d' := s.drawn) (ch := ch) (fun b hb => ⟨(hf b hb).2.2.2.1, (hf b hb).2.1, (hf b hb).2.2.2.2.1, (hf b hb).2.2.2.2.2⟩) (fun b o _ _ hc e _ => k b o hc e) (fun b o _ _ hc e _ => ⟨o.slots, k b o hc e⟩)
    (fun b o _ e n => ?_) (fun b o hc e => ⟨o, k b o hc e⟩) (fun b xs e => ?_) (fun b o u e => ?_) (fun b ps e => ⟨#[], ?_⟩) (fun m hm => ?_) (fun b u e => ?_) I.bare
  · rw [upd_ne (Nat.ne_of_lt (Nat.lt_of_lt_of_le (Heap.lt_size e) hT))]; exact n
  · rw [upd_ne (ne_of_none e hn)]; exact e
  · rw [upd_ne (ne_of_none e hn)]; exact e
  · rw [upd_ne (ne_of_none e hn), e]; simp
  · obtain ⟨o, es, ep, ho, r⟩ := hm
    exact ⟨o, es, ep, k _ o (fun z => (hf _ z).2.1 rfl) ho, r⟩
  · by_cases hb : b = T
    · subst hb
      rw [upd_same] at e
      cases e
      exact new
    · rw [upd_ne hb] at e
      refine (I.hok b u e).stay (fun c v hc q => k c v ?_ q) (fun c q => by rw [upd_ne (ne_of_none q hn)]; exact q) fun c xs q => by rw [upd_ne (ne_of_none q hn)]; exact q
      rcases hc with z | z
      · rw [z]; exact nit b u e
      · exact nit c _ z

/-! ### locking a thing while a statement runs -/

end

section
variable {X : Cx}

/-! ### one iterator just laid -/

end

/-! ### range with a step -/

section
variable {X : Cx} {tg : Expr}

end

/-! ### reversed(list) -/

section
variable {X : Cx} {tg : Expr}

end

/-! ### a str -/

/-! ### a dict's keys: any dict's entries -/
section
variable {prog : Program} {w : World} {A : Around} {E : Value → Shared → Prop} {s : Shared}

end

/-! ### a locked dict -/

section
variable {X : Cx} {pins : List (Addr × Obj)} {σ : St} {H : Hp} {s : Shared} {d : Addr} {o : Obj}

end

section
variable {P : Program} {w : World} {K : PySem.W.Frag} {tg : Expr} {d : Addr} {o : Obj} {es : Array DictEntry} {ep : Nat}

end

/-! ### for k in d, d.keys(), d.values(), d.items() -/

section
variable {X : Cx} {tg e : Expr} {td : TE} {apos cpos : Pos}

end

/-! ### enumerate(list) -/

/-! ### zip(list, list) -/
theorem boot_zip5 : bootBuiltins "zip" = some (.type "zip") := by decide +kernel

end L2

section 
namespace Bits
open PySem PyProof.Rows

end Bits
end 

section 
namespace TL
open PySem PySem.Builtin PySem.Builtin.Str PySem.StrLaws

/-! ### the list functions -/

/-! ### the model's split and partition are these -/

/-! ### computing spl and par -/

/-! ### digits -/

/-! ### words: x.split() -/

end TL
end 

namespace L2
open PySem PySem.Spec PyProof.Rows

section
variable {X : Cx} {pins : List (Addr × Obj)} {σ : St} {H : Hp} {s : Shared} {Q : VK}

end

section
variable {X : Cx}

/-! ### of a text alone -/

/-! ### of a text and a text -/

end

section
variable {X : Cx} {o e : Expr} {to te : TE}

end
end L2

namespace L2
open PySem PySem.Spec PyProof.Rows

section
variable {X : Cx}

end

/-! ### slices of a text -/

end L2

namespace Att
open PySem PySem.W PySem.Calls PyProof.Rows

/-! ### the script -/

/-! ### the attachment: holds_open's last premise (the goal 'hc' behind k_head) from a wpAny of the law's body -/

/-! ### rules over ANY heap (no ledger) from facts about the written part K: the library's own take a ledger (News) for what they write -/
section
variable {prog : Program} {w : World} {A : Around} {E : Value → Shared → Prop} {s : Shared} {K : Frag}

/-! the whole heap as the ledger: makes every rule that writes through a ledger a rule over any heap -/

end
end Att

namespace L2
open PySem PySem.Spec PyProof.Rows

end L2

namespace L2
open PySem PySem.Spec PyProof.Rows

end L2

/- THE LAST THEOREM (shape; LID, My.* are yours):
   My.Adr: a structure of the addresses that your layer names (classes, functions); My.Txt K t: a structure (Prop) of the equations over K;
   My.txt_mk : {K} {implicit addresses ..} (e1 : nsIn K mainGlobals "law" = some (some (.ref f))) (e2 : K.lookup f = some ⟨oc, od, .func (fnOf "law" "law" params body scope dV kV doc pm an cdv ct), sl⟩) (e3 : codeIn K cdv "law" = true) .. : ∃ t, My.Txt K t

set_option maxRecDepth 100000 in
set_option maxHeartbeats 0 in
theorem PySem.Challenge.cw_LID_holds : PySem.Challenge.rw_LID.Holds := by
  w_on; o_law; k_head; (case hw => w_witness2)
  k_fill
  refine L2.walk_of (l := PySem.Challenge.rw_LID) (n := 63) (k := 40) (x := "script") (CX := fun w => ..) (sp := fun _ => My.sp_law) rfl (by decide) rfl ⟨rfl, by decide, by decide⟩ (fun w h Y => PySem.W.kIn_of Y) ?F ?S ?C
  case F =>
    intro w mg fa h KX G hmg
    have T : ∃ t, My.Txt (L2.KOf KX) t := by
      dsimp only [L2.KOf]                          -- K must stand as «<heap const> w.params» for k_is
      refine' My.txt_mk ?e1 ?e2 ?e3 ..
      (case e1 => PySem.W.k_is)                    -- in the order: a name -> its address -> its object -> its parts
      (case e2 => PySem.W.k_is)
      ..
    obtain ⟨t, T⟩ := T
    have e0 := hmg.symm.trans (PySem.W.mg_of KX G T.law)
    cases e0                                       -- fa is the law's own address
    exact ⟨_, fun s u => .of_eq rfl, fun base kb nb => My.law_fn T kb nb⟩     -- if «.of_eq rfl» comes too early: refine' ⟨_, ?b, fun base kb nb => My.law_fn T kb nb⟩; exact fun s u => .of_eq rfl
  case S => exact fun w H a ns hl hO hS => ..
  case C => exact ..
(the tactic k_is has no namespace: write k_is) -/

/-! SHORT WORDS over the layer: a def of the text, its body, what a loop and a test want. -/
namespace L2
open PySem PySem.Spec PyProof.Rows

/-! ### the text by places -/

def defArgs (s : Stmt) : Arguments := match s with
  | .FunctionDef _ a _ _ _ _ _ _ _ _ => a
  | _ => { posonlyargs := [], args := [], vararg := none, kwonlyargs := [], kw_defaults := [], kwarg := none, defaults := [] }
def defBody (s : Stmt) : List Stmt := match s with
  | .FunctionDef _ _ b _ _ _ _ _ _ _ => b
  | _ => []
def defScope (s : Stmt) : Scope := match s with
  | .FunctionDef _ _ _ _ _ _ sc _ _ _ => sc
  | _ => { kind := .function, names := [], isGenerator := false, isCoroutine := false }

/-! ### no exception leaves a def -/
abbrev CX0 : CXT := fun _ _ _ _ _ _ => False
abbrev E0 : XK := fun _ _ _ => False
theorem pass0 {X : Cx} : Passes CX0 X E0 := fun _ _ _ _ _ _ _ h => h.elim

/-! ### a def (or method) of the text as it stands behind the top -/
structure Fun (K : PySem.W.Frag) (x qual : Str) (st : Stmt) (f : Addr) (fd : FuncData) : Prop where
  ex : ∃ (oc : Value) (od : Option Addr) (kV doc pm : Value) (an : Option Addr) (cdv ct : Value) (osl : Array (Option Value)),
    fd = PySem.W.fnOf x qual (defArgs st) (defBody st) (defScope st) .none kV doc pm an cdv ct ∧ K.lookup f = some ⟨oc, od, .func fd, osl⟩ ∧ PySem.W.codeIn K cdv qual = true
  kp : PySem.W.keepIn K (.ref f) = true
section
variable {P : Program} {w : World} {K : PySem.W.Frag} {mg : Str → Option Value} {base : Heap}
/-- THE RULE for a def: its body as a term of rules, and the reading of that term -/
theorem Fun.ok {x qual : Str} {st : Stmt} {f : Addr} {fd : FuncData} {N ps : List Str} {k : Nat} {sp : Sp} (F : Fun K x qual st f fd) (S : FnScope N ps (defScope st)) (len : ∀ vs H Q E, sp vs H Q E → vs.length = ps.length)
    (hbody : ∀ (cdv : Value) (A : Around) (outer : List Env) (s : Shared) (H : Hp) (vs : List V) (Q : VK) (E : XK), Room k (A.deeper (envOfC qual (defScope st) s.heap.objs.size f cdv)) → sp vs H Q E →
      ∃ t, PSs (cxOf CX0 P w K mg base N qual (defScope st) f cdv A outer s H E).nox (defBody st) t ∧ t { nx := fun _ H' => Q .non H', rt := Q } (start N vs) H) : FnOk P w K mg base CX0 (k + 1) f fd ps sp := by
  obtain ⟨oc, od, kV, doc, pm, an, cdv, ct, osl, rfl, lk, hcd⟩ := F.ex
  refine fn_of lk hcd S len fun A outer s H vs Q E hr hsp => ?_
  obtain ⟨t, h, q⟩ := hbody cdv A outer s H vs Q E hr hsp
  exact ⟨t, h.nox, q⟩
/-- how its arguments bind (no defaults): h is «fun _ _ _ _ _ _ us hl => match us, hl with | [_, _], _ => rfl», one _ a parameter -/
theorem Fun.binds {x qual : Str} {st : Stmt} {f : Addr} {fd : FuncData} {ps : List Str} (F : Fun K x qual st f fd)
    (h : ∀ (kV doc pm : Value) (an : Option Addr) (cdv ct : Value) (us : List Value), us.length = ps.length → bindArgs (PySem.W.fnOf x qual (defArgs st) (defBody st) (defScope st) .none kV doc pm an cdv ct) ⟨us, []⟩ = pure (ps.zip us)) : Binds K fd ps [] := by
  obtain ⟨oc, od, kV, doc, pm, an, cdv, ct, osl, rfl, lk, hcd⟩ := F.ex
  exact .all (h kV doc pm an cdv ct)
theorem fun_mk {x qual : Str} {st : Stmt} {f : Addr} {oc : Value} {od an : Option Addr} {osl : Array (Option Value)} {kV doc pm cdv ct : Value} (l : K.lookup f = some ⟨oc, od, .func (PySem.W.fnOf x qual (defArgs st) (defBody st) (defScope st) .none kV doc pm an cdv ct), osl⟩)
    (c : PySem.W.codeIn K cdv qual = true) (k : PySem.W.keepIn K (.ref f) = true) : Fun K x qual st f (PySem.W.fnOf x qual (defArgs st) (defBody st) (defScope st) .none kV doc pm an cdv ct) := ⟨⟨oc, od, kV, doc, pm, an, cdv, ct, osl, rfl, l, c⟩, k⟩
end

theorem small1000 {n : Nat} (h : n ≤ 1000) : n < sizeLine := Nat.lt_of_le_of_lt h (by decide)

/-! ### expressions in short: the name that stands in the i-th slot -/
section
variable {X : Cx}
theorem pv (i : Nat) {x : Str} {pos : Pos} (hN : X.N[i]? = some x := by rfl) (hv : Vis X.env.scope x := by first | exact Or.inl rfl | exact Or.inr (Or.inl rfl) | exact Or.inr (Or.inr rfl)) (hd : (x == ("__debug__" : Str)) = false := by decide)
    (hcd : (x == ("__classdict__" : Str)) = false := by decide) : PE X (.Name x pos) (tVar i) := pe_var hN hv hd hcd

end

/-! ### tests -/
theorem iteF {A B : Prop} (h : B) : if false = true then A else B := by
  rw [if_neg Bool.false_ne_true]
  exact h
theorem iteT {A B : Prop} (h : A) : if true = true then A else B := by
  rw [if_pos rfl]
  exact h
theorem ite2 {c A B : Prop} [Decidable c] (h1 : c → A) (h2 : ¬ c → B) : if c then A else B := by
  by_cases h : c
  · rw [if_pos h]
    exact h1 h
  · rw [if_neg h]
    exact h2 h

/-! ### heaps -/
/-- all that was tracked is as it was -/
def Same (H H' : Hp) : Prop := ∀ b o, H b = some o → H' b = some o
theorem Same.refl (H : Hp) : Same H H := fun _ _ h => h
theorem Same.trans {H H1 H2 : Hp} (a : Same H H1) (b : Same H1 H2) : Same H H2 := fun c o h => b c o (a c o h)
theorem Same.free {H H' : Hp} (e : Same H H') {l : Addr} (h : H' l = Option.none) : H l = Option.none := by
  cases q : H l with
  | none => rfl
  | some o =>
    rw [e l o q] at h
    cases h
theorem Same.seq {K : PySem.W.Frag} {H H' : Hp} {a : Addr} {xs : List V} (e : Same H H') (h : SqL K H a xs) : SqL K H' a xs := by
  rcases h with (h | ⟨o, h⟩) | h
  · exact .inl (.inl (e _ _ h))
  · exact .inl (.inr ⟨o, e _ _ h⟩)
  · exact .inr h

/-! ### a dict's pairs: keys that differ -/
section
variable {κ : Type} [DecidableEq κ]

end
/-! ### lists -/
theorem at_of {xs : List V} {z : Int} {j : Nat} {v : V} (e : z = (j : Int)) (h : xs[j]? = some v) : atI xs z = some v := by
  rw [e]
  exact atI_nat h

end L2

section
set_option Elab.async false
set_option linter.all false
set_option maxRecDepth 100000
set_option maxHeartbeats 2000000
namespace L2
open PySem PySem.Spec PyProof.Rows
open PySem.W (WData Codec OpenSpec Well WellAll ReadsW ReadsAllW)
/-! ### an answer as data -/
mutual
/-- x stands for the datum d, lists and tuples all the way -/
inductive Dw (K : PySem.W.Frag) (H : Hp) : V → WData → Prop
  | non : Dw K H .non .none
  | bl (b : Bool) : Dw K H (.bl b) (.bool b)
  | int (i : Int) : Dw K H (.int i) (.int i)
  | str (x : Str) : Dw K H (.str x) (.str x)
  | byt (b : Array UInt8) : Dw K H (.byt b) (.bytes b.toList)
  | lst {a : Addr} {xs : List V} {ds : List WData} : SqL K H a xs → DwAll K H xs ds → Dw K H (.ref a) (.list ds)
  | tup {a : Addr} {xs : List V} {ds : List WData} : SqT K H a xs → DwAll K H xs ds → Dw K H (.ref a) (.tuple ds)
inductive DwAll (K : PySem.W.Frag) (H : Hp) : List V → List WData → Prop
  | nil : DwAll K H [] []
  | cons {v : V} {vs : List V} {d : WData} {ds : List WData} : Dw K H v d → DwAll K H vs ds → DwAll K H (v :: vs) (d :: ds)
end
theorem dw_ints {K : PySem.W.Frag} {H : Hp} : ∀ ns : List Int, DwAll K H (ns.map V.int) (ns.map WData.int)
  | [] => .nil
  | n :: r => .cons (.int n) (dw_ints r)
theorem ints_dw {K : PySem.W.Frag} {H : Hp} : ∀ (ns : List Int) (xs : List V), DwAll K H xs (ns.map WData.int) → xs = ns.map V.int
  | [], xs, h => by
    cases h
    rfl
  | n :: r, xs, h => by
    cases h with
    | cons h1 h2 =>
      cases h1
      rw [ints_dw r _ h2] <;> rfl
section
variable {P : Program} {w : World} {K : PySem.W.Frag} {H : Hp} {h : Heap} {R : PySem.W.WRecords} {cl : Str → Option Addr}
theorem sqL_at {a : Addr} {xs : List V} (hok : HOk P w H h) (KX : K.In h) (q : SqL K H a xs) : ∃ (its : List Value) (o : Obj) (n : Nat), Vals xs its ∧ h.get? a = some o ∧ o.cls = .type "list" ∧ o.data = .seq its.toArray n := by
  rcases q with q | ⟨o, its, n, e, hc, _, hd, _, hv⟩
  · obtain ⟨_, its, n, hv, e⟩ := (show ObjOk P w H h a (.lst xs) from q.ok hok)
    exact ⟨its, _, n, hv, e, rfl, rfl⟩
  · exact ⟨its.toList, o, n, hv, KX _ _ e, hc, by simp [hd]⟩
theorem sqT_at {a : Addr} {xs : List V} (hok : HOk P w H h) (KX : K.In h) (q : SqT K H a xs) : ∃ (its : List Value) (o : Obj) (n : Nat), Vals xs its ∧ h.get? a = some o ∧ o.cls = .type "tuple" ∧ o.data = .seq its.toArray n := by
  rcases q with q | ⟨o, its, n, e, hc, hd, _, hv⟩
  · obtain ⟨_, its, hv, o, e, hc, n, hd⟩ := (show ObjOk P w H h a (.tup xs) from q.ok hok)
    exact ⟨its, o, n, hv, e, hc, hd⟩
  · exact ⟨its.toList, o, n, hv, KX _ _ e, hc, by simp [hd]⟩
mutual
theorem Dw.reads (hok : HOk P w H h) (KX : K.In h) : ∀ (d : WData) (v : V) (u : Value), Dw K H v d → RelV v u → ∃ as, ReadsW R cl h u d as
  | .none, _, _, x, r => by
    cases x
    cases r
    exact ⟨_, ReadsW.none⟩
  | .bool b, _, _, x, r => by
    cases x
    cases r
    exact ⟨_, ReadsW.bool b⟩
  | .int i, _, _, x, r => by
    cases x
    obtain ⟨t, rfl⟩ := r
    exact ⟨_, ReadsW.int i t⟩
  | .str s, _, _, x, r => by
    cases x
    obtain ⟨t, rfl⟩ := r
    exact ⟨_, ReadsW.str s t⟩
  | .bytes b, _, _, x, r => by
    cases x
    obtain ⟨t, rfl⟩ := r
    exact ⟨_, ReadsW.bytes _ t⟩
  | .list ds, _, _, x, r => by
    cases x with
    | lst hs ha =>
      cases r
      obtain ⟨its, o, n, rv, ho, hc, hd⟩ := sqL_at hok KX hs
      obtain ⟨as, hr⟩ := Dw.readsAll hok KX ds _ its ha rv
      exact ⟨_, ReadsW.list ho hc hd hr⟩
  | .tuple ds, _, _, x, r => by
    cases x with
    | tup hs ha =>
      cases r
      obtain ⟨its, o, n, rv, ho, hc, hd⟩ := sqT_at hok KX hs
      obtain ⟨as, hr⟩ := Dw.readsAll hok KX ds _ its ha rv
      exact ⟨_, ReadsW.tuple ho hc hd hr⟩
  | .float _, _, _, x, _ => by cases x
  | .dict _, _, _, x, _ => by cases x
  | .bytearray _, _, _, x, _ => by cases x
  | .set _, _, _, x, _ => by cases x
  | .frozenset _, _, _, x, _ => by cases x
  | .obj _ _, _, _, x, _ => by cases x
theorem Dw.readsAll (hok : HOk P w H h) (KX : K.In h) : ∀ (ds : List WData) (vs : List V) (us : List Value), DwAll K H vs ds → Vals vs us → ∃ as, ReadsAllW R cl h us ds as
  | [], _, _, x, r => by
    cases x
    cases r
    exact ⟨_, ReadsAllW.nil⟩
  | d :: ds, _, _, x, r => by
    cases x with
    | cons h1 h2 =>
      cases r with
      | cons r1 r2 =>
        obtain ⟨as, q1⟩ := Dw.reads hok KX d _ _ h1 r1
        obtain ⟨bs, q2⟩ := Dw.readsAll hok KX ds _ _ h2 r2
        exact ⟨_, ReadsAllW.cons q1 q2⟩
end
end
/-! ### the arguments -/
mutual
/-- data that a codec tells -/
def plW : WData → Bool
  | .none => true
  | .bool _ => true
  | .int _ => true
  | .str _ => true
  | .bytes _ => true
  | .list xs => plWs xs
  | .tuple xs => plWs xs
  | _ => false
def plWs : List WData → Bool
  | [] => true
  | x :: r => plW x && plWs r
end
theorem plWs_map {α : Type} {f : α → WData} (h : ∀ a, plW (f a) = true) : ∀ l : List α, plWs (l.map f) = true
  | [] => rfl
  | x :: r => by
    show (plW (f x) && plWs (r.map f)) = true
    rw [h x, plWs_map h r] <;> rfl
theorem pl_enc : ∀ (c : Codec) (a : c.denote), plW (c.enc a) = true
  | .unit, _ => rfl
  | .bool, _ => rfl
  | .int _ _, _ => rfl
  | .nat _ _, _ => rfl
  | .u8, _ => rfl
  | .bytes _ _, _ => rfl
  | .text _ _ _ _, _ => rfl
  | .list _ _ c, a => plWs_map (fun x => pl_enc c x) a
  | .pair c d, a => by
    show (plW (c.enc a.1) && (plW (d.enc a.2) && true)) = true
    rw [pl_enc c a.1, pl_enc d a.2] <;> rfl
  | .triple c d e, a => by
    show (plW (c.enc a.1) && (plW (d.enc a.2.1) && (plW (e.enc a.2.2) && true))) = true
    rw [pl_enc c a.1, pl_enc d a.2.1, pl_enc e a.2.2] <;> rfl
  | .option c, none => rfl
  | .option c, some x => pl_enc c x
theorem pl_encAll : ∀ (cs : List Codec) (a : Codec.denoteAll cs), plWs (Codec.encAll cs a) = true
  | [], _ => rfl
  | c :: cs, a => by
    show (plW (c.enc a.1) && plWs (Codec.encAll cs a.2)) = true
    rw [pl_enc c a.1, pl_encAll cs a.2] <;> rfl
theorem weight_mem : ∀ {xs : List WData} {d : WData}, d ∈ xs → d.weight ≤ WData.weightAll xs
  | [], d, h => absurd h (by simp)
  | x :: r, d, h => by
    show d.weight ≤ x.weight + 1 + WData.weightAll r
    rcases List.mem_cons.mp h with e | m
    · rw [e]
      omega
    · have z := weight_mem m
      omega
def toV : Value → V
  | .none => .non
  | .bool b => .bl b
  | .int i _ => .int i
  | .str x _ => .str x
  | .bytes b _ => .byt b
  | .ref a => .ref a
  | _ => .non
/-- a value of the arguments, its objects among A -/
def OkU (A : List Addr) : Value → Prop
  | .none => True
  | .bool _ => True
  | .int _ _ => True
  | .str _ _ => True
  | .bytes _ _ => True
  | .ref a => a ∈ A
  | _ => False
theorem OkU.mono {A B : List Addr} (h : ∀ a ∈ A, a ∈ B) : ∀ {u : Value}, OkU A u → OkU B u := fun {u} x => by
  cases u with
  | ref a => exact h a x
  | none => trivial
  | bool b => trivial
  | int i t => trivial
  | str s t => trivial
  | bytes b t => trivial
  | _ => exact False.elim x
theorem relV_toV {A : List Addr} {u : Value} (x : OkU A u) : RelV (toV u) u := by
  cases u with
  | ref a => rfl
  | none => rfl
  | bool b => rfl
  | int i t => exact ⟨t, rfl⟩
  | str s t => exact ⟨t, rfl⟩
  | bytes b t => exact ⟨t, rfl⟩
  | _ => exact False.elim x
theorem vals_toV {A : List Addr} : ∀ {vs : List Value}, (∀ u ∈ vs, OkU A u) → Vals (vs.map toV) vs
  | [], _ => .nil
  | u :: r, h => .cons (relV_toV (h u (List.mem_cons_self ..))) (vals_toV fun x hx => h x (List.mem_cons_of_mem _ hx))
/-- an object of the arguments -/
def ArgOb (h : Heap) (A : List Addr) (a : Addr) : Prop := ∃ vs : List Value, vs.length ≤ sizeLine ∧ (∀ u ∈ vs, OkU A u) ∧
  (h.get? a = some { cls := .type "list", data := .seq vs.toArray } ∨ h.get? a = some { cls := .type "tuple", data := .seq vs.toArray })
theorem ArgOb.mono {h : Heap} {A B : List Addr} {a : Addr} (k : ∀ a ∈ A, a ∈ B) (x : ArgOb h A a) : ArgOb h B a := by
  obtain ⟨vs, h1, h2, h3⟩ := x
  exact ⟨vs, h1, fun u hu => (h2 u hu).mono k, h3⟩
theorem wellAll_len {P : Params} {h : Heap} : ∀ {vs : List Value} {ds : List WData}, WellAll P h vs ds → vs.length = ds.length
  | _, _, .nil => rfl
  | _, _, .cons _ b => by
    show _ + 1 = _ + 1
    rw [wellAll_len b]
theorem well_list {P : Params} {h : Heap} {v : Value} {ds : List WData} (x : Well P h v (.list ds)) : ∃ (a : Addr) (vs : List Value), v = .ref a ∧ h.get? a = some { cls := .type "list", data := .seq vs.toArray } ∧ WellAll P h vs ds := by
  cases x with
  | list ho hall => exact ⟨_, _, rfl, ho, hall⟩
theorem well_tuple {P : Params} {h : Heap} {v : Value} {ds : List WData} (x : Well P h v (.tuple ds)) : ∃ (a : Addr) (vs : List Value), v = .ref a ∧ h.get? a = some { cls := .type "tuple", data := .seq vs.toArray } ∧ WellAll P h vs ds := by
  cases x with
  | tuple ho hall => exact ⟨_, _, rfl, ho, hall⟩
theorem well_cons {P : Params} {h : Heap} {us : List Value} {d : WData} {ds : List WData} (x : WellAll P h us (d :: ds)) : ∃ (v : Value) (vs : List Value), us = v :: vs ∧ Well P h v d ∧ WellAll P h vs ds := by
  cases x with
  | cons a b => exact ⟨_, _, rfl, a, b⟩
theorem line_of {n : Nat} (h : n ≤ 1048576) : n ≤ sizeLine := Nat.le_trans h (by decide)
section
variable {P : Params} {h : Heap}
mutual
theorem area_one : ∀ (d : WData) (v : Value), Well P h v d → plW d = true → d.weight ≤ 1048576 → ∃ A : List Addr, OkU A v ∧ ∀ a ∈ A, ArgOb h A a
  | .none, _, x, _, _ => by
    cases x
    exact ⟨[], trivial, fun a m => absurd m (by simp)⟩
  | .bool b, _, x, _, _ => by
    cases x
    exact ⟨[], trivial, fun a m => absurd m (by simp)⟩
  | .int i, _, x, _, _ => by
    cases x
    exact ⟨[], trivial, fun a m => absurd m (by simp)⟩
  | .str s, _, x, _, _ => by
    cases x
    exact ⟨[], trivial, fun a m => absurd m (by simp)⟩
  | .bytes b, _, x, _, _ => by
    cases x
    exact ⟨[], trivial, fun a m => absurd m (by simp)⟩
  | .list ds, _, x, p, z => by
    obtain ⟨a, vs, rfl, ho, hall⟩ := well_list x
    have z2 : WData.weightAll ds ≤ 1048576 := z
    obtain ⟨A, h1, h2⟩ := area_all ds _ hall p fun d hd => Nat.le_trans (weight_mem hd) z2
    have k : ∀ b ∈ A, b ∈ a :: A := fun b hb => List.mem_cons_of_mem _ hb
    refine ⟨a :: A, List.mem_cons_self .., fun b hb => ?_⟩
    rcases List.mem_cons.mp hb with e | m
    · rw [e]
      exact ⟨vs, line_of (by rw [wellAll_len hall]; exact Nat.le_trans (PySem.W.length_le_weightAllW ds) z2), fun u hu => (h1 u hu).mono k, .inl ho⟩
    · exact (h2 b m).mono k
  | .tuple ds, _, x, p, z => by
    obtain ⟨a, vs, rfl, ho, hall⟩ := well_tuple x
    have z2 : WData.weightAll ds ≤ 1048576 := z
    obtain ⟨A, h1, h2⟩ := area_all ds _ hall p fun d hd => Nat.le_trans (weight_mem hd) z2
    have k : ∀ b ∈ A, b ∈ a :: A := fun b hb => List.mem_cons_of_mem _ hb
    refine ⟨a :: A, List.mem_cons_self .., fun b hb => ?_⟩
    rcases List.mem_cons.mp hb with e | m
    · rw [e]
      exact ⟨vs, line_of (by rw [wellAll_len hall]; exact Nat.le_trans (PySem.W.length_le_weightAllW ds) z2), fun u hu => (h1 u hu).mono k, .inr ho⟩
    · exact (h2 b m).mono k
  | .float _, _, _, p, _ => Bool.noConfusion (show false = true from p)
  | .dict _, _, _, p, _ => Bool.noConfusion (show false = true from p)
  | .bytearray _, _, _, p, _ => Bool.noConfusion (show false = true from p)
  | .set _, _, _, p, _ => Bool.noConfusion (show false = true from p)
  | .frozenset _, _, _, p, _ => Bool.noConfusion (show false = true from p)
  | .obj _ _, _, _, p, _ => Bool.noConfusion (show false = true from p)
theorem area_all : ∀ (ds : List WData) (vs : List Value), WellAll P h vs ds → plWs ds = true → (∀ d ∈ ds, d.weight ≤ 1048576) → ∃ A : List Addr, (∀ u ∈ vs, OkU A u) ∧ ∀ a ∈ A, ArgOb h A a
  | [], _, x, _, _ => by
    cases x
    exact ⟨[], fun u m => absurd m (by simp), fun a m => absurd m (by simp)⟩
  | d :: ds, _, x, p, z => by
    obtain ⟨v, vs, rfl, x1, x2⟩ := well_cons x
    have q : plW d = true ∧ plWs ds = true := Bool.and_eq_true_iff.mp p
    obtain ⟨A, a1, a2⟩ := area_one d v x1 q.1 (z d (List.mem_cons_self ..))
    obtain ⟨B, b1, b2⟩ := area_all ds vs x2 q.2 fun e he => z e (List.mem_cons_of_mem _ he)
    have kA : ∀ b ∈ A, b ∈ A ++ B := fun b hb => List.mem_append.mpr (.inl hb)
    have kB : ∀ b ∈ B, b ∈ A ++ B := fun b hb => List.mem_append.mpr (.inr hb)
    refine ⟨A ++ B, fun u hu => ?_, fun b hb => ?_⟩
    · rcases List.mem_cons.mp hu with e | m
      · rw [e]
        exact a1.mono kA
      · exact (b1 u m).mono kB
    · rcases List.mem_append.mp hb with m | m
      · exact (a2 b m).mono kA
      · exact (b2 b m).mono kB
end
end
/-- what is tracked of an argument's object -/
def hoOf (o : Obj) : Option HO := match o.data with
  | .seq vs _ => if (o.cls == Value.type "list") = true then some (.frz o (.lst (vs.toList.map toV))) else some (.frz o (.tup (vs.toList.map toV)))
  | _ => none
def argH (K : PySem.W.Frag) (h : Heap) (A : List Addr) : Hp := fun b => if b ∈ A then (if (K.lookup b).isNone = true then (h.get? b).bind hoOf else none) else none
/-- nothing is tracked but what is known to the object -/
def OnlyF (H : Hp) : Prop := ∀ b, H b = none ∨ ∃ o u, H b = some (.frz o u)
theorem hoOf_lst (vs : List Value) : hoOf { cls := .type "list", data := .seq vs.toArray } = some (.frz { cls := .type "list", data := .seq vs.toArray } (.lst (vs.map toV))) := by
  show (if (Value.type "list" == Value.type "list") = true then some (HO.frz { cls := .type "list", data := .seq vs.toArray } (.lst (vs.toArray.toList.map toV))) else some (HO.frz { cls := .type "list", data := .seq vs.toArray } (.tup (vs.toArray.toList.map toV)))) = _
  rw [if_pos (beq_self_eq_true _)]
theorem hoOf_tup (vs : List Value) : hoOf { cls := .type "tuple", data := .seq vs.toArray } = some (.frz { cls := .type "tuple", data := .seq vs.toArray } (.tup (vs.map toV))) := by
  show (if (Value.type "tuple" == Value.type "list") = true then some (HO.frz { cls := .type "tuple", data := .seq vs.toArray } (.lst (vs.toArray.toList.map toV))) else some (HO.frz { cls := .type "tuple", data := .seq vs.toArray } (.tup (vs.toArray.toList.map toV)))) = _
  rw [if_neg (by decide)]
section
variable {P : Program} {w : World} {K : PySem.W.Frag} {h : Heap} {A : List Addr}
theorem argH_at {b : Addr} {o : Obj} (hb : b ∈ A) (hk : K.lookup b = none) (e : h.get? b = some o) : argH K h A b = hoOf o := by
  unfold argH
  rw [if_pos hb, hk, if_pos (show (none : Option Obj).isNone = true from rfl), e] <;> rfl
theorem of_argH {b : Addr} {u : HO} (q : argH K h A b = some u) : b ∈ A ∧ K.lookup b = none := by
  unfold argH at q
  by_cases hb : b ∈ A
  · rw [if_pos hb] at q
    cases hk : K.lookup b with
    | none => exact ⟨hb, rfl⟩
    | some o =>
      rw [hk, if_neg (by simp)] at q
      cases q
  · rw [if_neg hb] at q
    cases q
/-- what stands tracked -/
theorem argH_is (ar : ∀ a ∈ A, ArgOb h A a) {b : Addr} {u : HO} (q : argH K h A b = some u) : K.lookup b = none ∧ ∃ vs : List Value, vs.length ≤ sizeLine ∧ (∀ u ∈ vs, OkU A u) ∧
    ((h.get? b = some { cls := .type "list", data := .seq vs.toArray } ∧ u = .frz { cls := .type "list", data := .seq vs.toArray } (.lst (vs.map toV))) ∨
     (h.get? b = some { cls := .type "tuple", data := .seq vs.toArray } ∧ u = .frz { cls := .type "tuple", data := .seq vs.toArray } (.tup (vs.map toV)))) := by
  obtain ⟨hb, hk⟩ := of_argH q
  obtain ⟨vs, h1, h2, h3⟩ := ar b hb
  refine ⟨hk, vs, h1, h2, ?_⟩
  rcases h3 with e | e
  · rw [argH_at hb hk e, hoOf_lst] at q
    exact .inl ⟨e, (Option.some.inj q).symm⟩
  · rw [argH_at hb hk e, hoOf_tup] at q
    exact .inr ⟨e, (Option.some.inj q).symm⟩
theorem argH_only (ar : ∀ a ∈ A, ArgOb h A a) : OnlyF (argH K h A) := fun b => by
  cases q : argH K h A b with
  | none => exact .inl rfl
  | some u =>
    obtain ⟨_, vs, _, _, ⟨_, e⟩ | ⟨_, e⟩⟩ := argH_is ar q
    · exact .inr ⟨_, _, by rw [e]⟩
    · exact .inr ⟨_, _, by rw [e]⟩
theorem argH_ok (ar : ∀ a ∈ A, ArgOb h A a) : HOk P w (argH K h A) h := fun b u q => by
  obtain ⟨_, vs, h1, h2, ⟨e, rfl⟩ | ⟨e, rfl⟩⟩ := argH_is ar q
  · exact ⟨e, by rw [List.length_map]; exact h1, vs, _, vals_toV h2, e⟩
  · exact ⟨e, by rw [List.length_map]; exact h1, vs, vals_toV h2, _, e, rfl, _, rfl⟩
theorem seq_inj {c c' : Value} {vs us : List Value} (e : (some { cls := c, data := .seq vs.toArray } : Option Obj) = some { cls := c', data := .seq us.toArray }) : c = c' ∧ vs = us := by
  have e1 := Option.some.inj e
  have e2 : c = c' := congrArg Obj.cls e1
  have e3 : Data.seq vs.toArray = Data.seq us.toArray := congrArg Obj.data e1
  injection e3 with e4
  refine ⟨e2, ?_⟩
  have e5 := congrArg Array.toList e4
  simpa using e5
/-- a list argument -/
theorem argL (KX : K.In h) (ar : ∀ a ∈ A, ArgOb h A a) {a : Addr} {vs : List Value} (ha : a ∈ A) (e : h.get? a = some { cls := .type "list", data := .seq vs.toArray }) : (∀ u ∈ vs, OkU A u) ∧ SqL K (argH K h A) a (vs.map toV) := by
  obtain ⟨us, h1, h2, h3⟩ := ar a ha
  have hu : us = vs := by
    rcases h3 with q | q
    · rw [e] at q
      exact (seq_inj q).2.symm
    · rw [e] at q
      exact absurd (Value.type.inj (seq_inj q).1) (by decide)
  subst hu
  refine ⟨h2, ?_⟩
  cases hk : K.lookup a with
  | none => exact .inl (.inr ⟨_, by rw [argH_at ha hk e, hoOf_lst]⟩)
  | some o =>
    have e2 := KX a o hk
    rw [e] at e2
    obtain rfl := Option.some.inj e2
    exact .inr ⟨_, us.toArray, _, hk, rfl, rfl, rfl, by rw [List.size_toArray]; exact h1, by simpa using vals_toV h2⟩
theorem argT (KX : K.In h) (ar : ∀ a ∈ A, ArgOb h A a) {a : Addr} {vs : List Value} (ha : a ∈ A) (e : h.get? a = some { cls := .type "tuple", data := .seq vs.toArray }) : (∀ u ∈ vs, OkU A u) ∧ SqT K (argH K h A) a (vs.map toV) := by
  obtain ⟨us, h1, h2, h3⟩ := ar a ha
  have hu : us = vs := by
    rcases h3 with q | q
    · rw [e] at q
      exact absurd (Value.type.inj (seq_inj q).1) (by decide)
    · rw [e] at q
      exact (seq_inj q).2.symm
  subst hu
  refine ⟨h2, ?_⟩
  cases hk : K.lookup a with
  | none => exact .inl (.inr ⟨_, by rw [argH_at ha hk e, hoOf_tup]⟩)
  | some o =>
    have e2 := KX a o hk
    rw [e] at e2
    obtain rfl := Option.some.inj e2
    exact .inr ⟨_, us.toArray, _, hk, rfl, rfl, by rw [List.size_toArray]; exact h1, by simpa using vals_toV h2⟩
mutual
theorem dw_one {Pm : Params} (KX : K.In h) (ar : ∀ a ∈ A, ArgOb h A a) : ∀ (d : WData) (v : Value), Well Pm h v d → plW d = true → OkU A v → Dw K (argH K h A) (toV v) d
  | .none, _, x, _, _ => by
    cases x
    exact .non
  | .bool b, _, x, _, _ => by
    cases x
    exact .bl b
  | .int i, _, x, _, _ => by
    cases x
    exact .int i
  | .str s, _, x, _, _ => by
    cases x
    exact .str s
  | .bytes b, _, x, _, _ => by
    cases x
    have z := Dw.byt (K := K) (H := argH K h A) b.toArray
    exact z
  | .list ds, _, x, p, hu => by
    obtain ⟨a, vs, rfl, ho, hall⟩ := well_list x
    obtain ⟨h2, hs⟩ := argL KX ar hu ho
    exact .lst hs (dw_all KX ar ds _ hall p h2)
  | .tuple ds, _, x, p, hu => by
    obtain ⟨a, vs, rfl, ho, hall⟩ := well_tuple x
    obtain ⟨h2, hs⟩ := argT KX ar hu ho
    exact .tup hs (dw_all KX ar ds _ hall p h2)
  | .float _, _, _, p, _ => Bool.noConfusion (show false = true from p)
  | .dict _, _, _, p, _ => Bool.noConfusion (show false = true from p)
  | .bytearray _, _, _, p, _ => Bool.noConfusion (show false = true from p)
  | .set _, _, _, p, _ => Bool.noConfusion (show false = true from p)
  | .frozenset _, _, _, p, _ => Bool.noConfusion (show false = true from p)
  | .obj _ _, _, _, p, _ => Bool.noConfusion (show false = true from p)
theorem dw_all {Pm : Params} (KX : K.In h) (ar : ∀ a ∈ A, ArgOb h A a) : ∀ (ds : List WData) (vs : List Value), WellAll Pm h vs ds → plWs ds = true → (∀ u ∈ vs, OkU A u) → DwAll K (argH K h A) (vs.map toV) ds
  | [], _, x, _, _ => by
    cases x
    exact .nil
  | d :: ds, _, x, p, hu => by
    obtain ⟨v, vs, rfl, x1, x2⟩ := well_cons x
    have q : plW d = true ∧ plWs ds = true := Bool.and_eq_true_iff.mp p
    exact .cons (dw_one KX ar d v x1 q.1 (hu _ (List.mem_cons_self ..))) (dw_all KX ar ds vs x2 q.2 fun u m => hu u (List.mem_cons_of_mem _ m))
end
end
/-! ### the call -/
theorem spec_call {P : Program} {w : World} {K : PySem.W.Frag} {mg mb : Str → Option Value} {CX : CXT} {k : Nat} {fa : Addr} {fd : FuncData} {ps : List Str} {sp : Sp} {s₁ : Shared} {vals : List Value} {ds : List WData} {R : PySem.W.WRecords} {cl : Str → Option Addr} {d0 : WData}
    (KX : K.In s₁.heap) (hns : s₁.heap.Ns mainGlobals mg) (hb : s₁.heap.Ns builtinsNs mb) (hbb : ∀ x : Str, x ≠ "__name__" → mb x = bootBuiltins x) (hlim : s₁.heap.NoLimit) (hg : s₁.gens = #[])
    (hwl : WellAll w.params s₁.heap vals ds) (hpl : plWs ds = true) (hwt : ∀ d ∈ ds, d.weight ≤ 1048576) (hr : Room k callerA)
    (F : ∀ base : Heap, K.In base → base.Ns mainGlobals mg → FnOk P w K mg base CX k fa fd ps sp) (hbind : ∀ (s : Shared) (us : List Value), us.length = ps.length → BindsTo s fd ⟨us, []⟩ (ps.zip us)) (hlen : ds.length = ps.length)
    (hsp : ∀ (H : Hp) (xs : List V), OnlyF H → DwAll K H xs ds → sp xs H (fun v H' => Dw K H' v d0) fun _ _ _ => False)
    (hCX : ∀ H e s', CX [] H s₁ (fun _ _ _ => False) e s' → False) :
    codeAny (model P w) callerA (.call (.ref fa) ⟨vals, []⟩) (fun r s' => ∃ u as, r = .ok (.ret u) ∧ ReadsW R cl s'.heap u d0 as ∧ OldK s₁.heap s'.heap ∧ s'.os = s₁.os ∧ AllBare s'.gens) s₁ := by
  obtain ⟨A, ho, ar⟩ := area_all ds vals hwl hpl hwt
  have hO : OnlyF (argH K s₁.heap A) := argH_only ar
  have hok : HOk P w (argH K s₁.heap A) s₁.heap := argH_ok ar
  have hS := dw_all KX ar ds vals hwl hpl ho
  have hV := vals_toV ho
  have hK : ∀ b u, argH K s₁.heap A b = some u → K.lookup b = none := fun b u q => (argH_is ar q).1
  have noA : ∀ {b : Addr} {o : Obj} {es : Array DictEntry} {ep : Nat}, s₁.heap.get? b = some o → o.data = .dict es ep → argH K s₁.heap A b = none := fun {b o es ep} e d => by
    cases q : argH K s₁.heap A b with
    | none => rfl
    | some u =>
      obtain ⟨_, vs, _, _, ⟨e2, _⟩ | ⟨e2, _⟩⟩ := argH_is ar q
      · rw [e2] at e
        cases e
        have d' : Data.seq vs.toArray _ = Data.dict es ep := d
        cases d'
      · rw [e2] at e
        cases e
        have d' : Data.seq vs.toArray _ = Data.dict es ep := d
        cases d'
  generalize argH K s₁.heap A = H at hO hok hS hK noA
  have base_of : ∀ {b : Addr} {o : Obj}, s₁.heap.get? b = some o → H b = none → (hidT s₁.heap H).get? b = some o := fun e n => hidT_get e n
  have nsK : ∀ {b : Addr} {m : Str → Option Value}, s₁.heap.Ns b m → (hidT s₁.heap H).Ns b m := fun {b m} ⟨o, es, ep, e, d, r⟩ => ⟨o, es, ep, base_of e (noA e d), d, r⟩
  have nK : ∀ b o, K.lookup b = some o → H b = none := fun b o e => by
    cases q : H b with
    | none => rfl
    | some u =>
      rw [hK b u q] at e
      cases e
  have hKb : K.In (hidT s₁.heap H) := fun b o e => base_of (KX b o e) (nK b o e)
  have hM : Mod K mg (hidT s₁.heap H) := ⟨hKb, nsK hns, ⟨mb, nsK hb, hbb⟩, let ⟨mc, h1, h2⟩ := hlim; ⟨mc, nsK h1, h2⟩⟩
  have e0 : Env0 P w K mg (hidT s₁.heap H) callerA [] s₁ H := ⟨rfl, hM, fun b o e => of_hidT e, Nat.le_of_eq (hidT_size _ _), trivial, fun b hb => absurd (show b ∈ ([] : List Addr) from hb) (by simp), hok, .of_eq hg⟩
  have hl : vals.length = ps.length := by rw [wellAll_len hwl]; exact hlen
  refine codeAny_mono ((F _ hKb (nsK hns)).run callerA [] s₁ H ⟨vals, []⟩ vals (vals.map toV) _ _ hr e0 (hbind s₁ vals hl) hV (hsp H _ hO hS)) fun r s' x => ?_
  cases r with
  | error e => exact (hCX H e s' x).elim
  | ok fl =>
    cases fl with
    | next => exact False.elim x
    | brk => exact False.elim x
    | cont => exact False.elim x
    | ret u =>
      obtain ⟨v, H', os, bare, un, hok', r', q⟩ := x
      have kept : ∀ b o, s₁.heap.get? b = some o → s'.heap.get? b = some o := fun b o e => by
        cases q2 : H b with
        | none => exact un.keep b o e q2 (by intro z; exact absurd (show b ∈ ([] : List Addr) from z) (by simp)) (by simp)
        | some u2 =>
          rcases hO b with z | ⟨ob, u3, z⟩
          · rw [q2] at z
            cases z
          · have z2 := un.frzs b ob _ z
            obtain ⟨e1, _⟩ := hok b _ z
            obtain ⟨e2, _⟩ := hok' b _ z2
            rw [e] at e1
            cases e1
            exact e2
      have KX' : K.In s'.heap := fun b o e => kept b o (KX b o e)
      obtain ⟨as, hrd⟩ := Dw.reads (R := R) (cl := cl) hok' KX' d0 v u q r'
      exact ⟨u, as, rfl, hrd, OldK.of_keep kept, os, bare⟩
/-! ### the row -/
theorem layable_weight {ds : List WData} (h : WData.layableAll ds = true) : ∀ d ∈ ds, d.weight ≤ 1048576 := fun d hd =>
  (PySem.W.layableW_iff.mp (List.all_eq_true.mp h d hd)).2.2
theorem encAll_len : ∀ (cs : List Codec) (a : Codec.denoteAll cs), (Codec.encAll cs a).length = cs.length
  | [], _ => rfl
  | c :: cs, a => by
    show (Codec.encAll cs a.2).length + 1 = cs.length + 1
    rw [encAll_len cs a.2]
/-- the goal that k_headS leaves (case hc), from the promise of the row's def: whatever the arguments that the codecs let and the row asks for, the def gives what stands for enc (f ..) -/
theorem walk_spec {r : OpenSpec} {k : Nat} {q : Program} {loose : List Str} {XP : (Str → Option Value) → Heap → Prop} {YP : World → Heap → Prop} {d : DefRec} {K : Params → PySem.W.Frag} {CX : World → CXT} {ps : List Str} {sp : World → Sp}
    (hwell : r.wellSaid = true) (hdf : d.params.defaults = []) (hlen : r.args.length = ps.length) (hr : Room k callerA)
    (hY : ∀ (w : World) (h : Heap), YP w h → (K w.params).In h)
    (F : ∀ (w : World) (mg : Str → Option Value) (fa : Addr) (h : Heap), YP w h → (K w.params).In h → h.Ns mainGlobals mg → mg d.name = some (.ref fa) →
      ∃ fd : FuncData, (∀ (s : Shared) (us : List Value), us.length = ps.length → BindsTo s fd ⟨us, []⟩ (ps.zip us)) ∧
        ∀ base : Heap, (K w.params).In base → base.Ns mainGlobals mg → FnOk r.prog w (K w.params) mg base (CX w) k fa fd ps (sp w))
    (hsp : ∀ (w : World) (H : Hp) (xs : List V) (a : Codec.denoteAll r.args), OnlyF H → Codec.withinAll r.args a = true → Codec.app r.args r.asked a = true → DwAll (K w.params) H xs (Codec.encAll r.args a) →
      sp w xs H (fun v H' => Dw (K w.params) H' v (r.ret.enc (Codec.app r.args r.f a))) fun _ _ _ => False)
    (hCX : ∀ (w : World) (H : Hp) (s : Shared) (e : Value) (s' : Shared), CX w [] H s (fun _ _ _ => False) e s' → False) :
    PySem.W.WalkOS q loose XP YP r d [] (fun f vs => PySem.call f vs) := by
  intro w s_0 s₁ mg mb G Y fa o pm cd doc dV kV ho hd hcd hD hmg hg args vals as hpre hlay hrd hwl hlo
  obtain ⟨a, e1, e2⟩ := PySem.W.os_pre_some hpre
  obtain ⟨e3, hwi⟩ := Codec.encAll_of_decAll r.args args a e1
  subst e3
  have KX := hY w _ Y
  obtain ⟨fd, hb, hF⟩ := F w mg fa _ Y KX G.T.g hmg
  refine PySem.W.enter_call (codeAny_mono (spec_call (R := []) (cl := classAt s_0.heap) (d0 := r.ret.enc (Codec.app r.args r.f a)) KX G.T.g G.T.b G.T.builtins G.T.nolimit hg hwl (pl_encAll _ _) (layable_weight hlay) hr hF hb (by rw [encAll_len]; exact hlen)
    (fun H xs hO hS => hsp w H xs a hO hwi e2 hS) fun H e s' => hCX w H s₁ e s') fun r' s' hq => ?_)
  obtain ⟨u, as', rfl, h1, h2, h3, h4⟩ := hq
  exact ⟨.inl ⟨u, _, as', rfl, fun _ => rfl, h1, (OpenSpec.post_iff hwell hwi _ _).mpr rfl, fun z => Bool.noConfusion (show false = true from z)⟩, h2, h3, h4⟩
/-- the same where the promise hangs on the written part alone -/
theorem walk_specK {r : OpenSpec} {k : Nat} {q : Program} {loose : List Str} {XP : (Str → Option Value) → Heap → Prop} {YP : World → Heap → Prop} {d : DefRec} {K : Params → PySem.W.Frag} {CX : CXT} {ps : List Str} {sp : PySem.W.Frag → Sp}
    (hwell : r.wellSaid = true) (hdf : d.params.defaults = []) (hlen : r.args.length = ps.length) (hr : Room k callerA)
    (hY : ∀ (w : World) (h : Heap), YP w h → (K w.params).In h)
    (F : ∀ (w : World) (mg : Str → Option Value) (fa : Addr) (h : Heap), YP w h → (K w.params).In h → h.Ns mainGlobals mg → mg d.name = some (.ref fa) →
      ∃ fd : FuncData, (∀ (s : Shared) (us : List Value), us.length = ps.length → BindsTo s fd ⟨us, []⟩ (ps.zip us)) ∧
        ∀ base : Heap, (K w.params).In base → base.Ns mainGlobals mg → FnOk r.prog w (K w.params) mg base CX k fa fd ps (sp (K w.params)))
    (hsp : ∀ (K : PySem.W.Frag) (H : Hp) (xs : List V) (a : Codec.denoteAll r.args), OnlyF H → Codec.withinAll r.args a = true → Codec.app r.args r.asked a = true → DwAll K H xs (Codec.encAll r.args a) →
      sp K xs H (fun v H' => Dw K H' v (r.ret.enc (Codec.app r.args r.f a))) fun _ _ _ => False)
    (hCX : ∀ (H : Hp) (s : Shared) (e : Value) (s' : Shared), CX [] H s (fun _ _ _ => False) e s' → False) :
    PySem.W.WalkOS q loose XP YP r d [] (fun f vs => PySem.call f vs) :=
  walk_spec (K := K) (CX := fun _ => CX) (sp := fun w => sp (K w.params)) hwell hdf hlen hr hY F (fun w H xs a h1 h2 h3 h4 => hsp (K w.params) H xs a h1 h2 h3 h4) fun _ H s e s' => hCX H s e s'
end L2
-- rests on (row put in by the clerk, for the bench that shows a file only what it spells): KE.SpHead KE.OsShapes
end

set_option Elab.async false
set_option linter.all false
set_option maxRecDepth 100000
set_option maxHeartbeats 2000000
namespace JX
open PySem PySem.Spec PyProof.Rows PySem.SeqAt
/-! list.index from a place on -/
theorem list_index3At (l : Addr) (items : Array Value) (n : Nat) (dd : Option Addr) (sl : Array (Option Value)) (x : Value) (e : Value → Bool) (a : Nat) (t : Tok) (j : Nat) (hj : j < items.size) (hsmall : (j : Int) < 2 ^ 63 - 1) (haj : a ≤ j)
    (hit : e items[j] = true) (hno : ∀ m (hm : m < items.size), a ≤ m → m < j → e items[m] = false) :
    Meets (Builtin.«list.index» ⟨[.ref l, x, .int (a : Nat) t], []⟩)
      (fun A R s => s.heap.get? l = some { cls := .type "list", dict := dd, data := .seq items n, slots := sl } ∧ (∀ y, y ∈ items → EqAt A.in1 s y x (e y)) ∧ R (.ok (.ret (.int j s.toks))) { s with toks := s.toks + 1 }) := by
  intro prog w A R s h
  obtain ⟨hp, g, d, tk, os⟩ := s; obtain ⟨hl, he, h⟩ := h
  wp_walk using AutoSeq1.wpAny_loadPart' hl
  have a1 : ((fun i : Int => if i < 0 then max 0 (i + (items.size : Int)) else i) ((some (a : Int) : Option Int).getD 0)) = ((a : Nat) : Int) := by
    show (if (a : Int) < 0 then max 0 ((a : Int) + (items.size : Int)) else (a : Int)) = (a : Int)
    rw [if_neg (by omega)]
  have a2 : ((fun i : Int => if i < 0 then max 0 (i + (items.size : Int)) else i) ((none : Option Int).getD (2 ^ 63 - 1))) = 2 ^ 63 - 1 := by simp
  rw [a1, a2]
  exact ⟨plainId_quiet MeetsSeq.plain_index_loop _, codeAny_builtin MeetsSeq.entry_index_loop (by
    rw [Around.under_plainId MeetsSeq.plain_index_loop _]
    exact index_loopAt l items n dd sl x e (2 ^ 63 - 1) j hj hsmall hit _ a rfl haj (fun m hm h1 h2 => hno m hm h1 h2) prog w A R _ ⟨hl, he, h⟩)⟩
end JX
namespace L2
open PySem PySem.Spec PyProof.Rows
section
variable {X : Cx}
def rIndex3 (K : PySem.W.Frag) : V → List V → Hp → VK → Prop := fun x xs H Q => ∃ (a : Addr) (ns : List Int) (k : Int) (b j : Nat), x = V.ref a ∧ xs = [.int k, .int (b : Nat)] ∧ SqL K H a (ns.map V.int) ∧ b ≤ j ∧ ns[j]? = some k ∧
  (∀ (m : Nat) (z : Int), b ≤ m → m < j → ns[m]? = some z → z ≠ k) ∧ Q (.int (j : Nat)) H
theorem mt_index3 : MtR X "list.index" (rIndex3 X.K) := by
  intro pins s σ H x xs v us Q I rx rxs h
  obtain ⟨a, ns, k, b, j, rfl, rfl, hs, hbj, hz, hno, q⟩ := h
  cases rx
  cases rxs with
  | cons ry rt =>
    rename_i uy ut
    cases rt with
    | cons rb rt =>
    cases rt
    obtain ⟨tb, rfl⟩ := rb
    obtain ⟨its, rv, ⟨⟨cls, dd, data, sl⟩, n, ho, hc, hdn, hd⟩, hlen⟩ := I.list hs
    simp only at hc hd
    subst hc hd
    have hz' : (ns.map V.int)[j]? = some (V.int k) := by rw [List.getElem?_map, hz]; rfl
    obtain ⟨u, hu, ru⟩ := rv.get hz'
    obtain ⟨hjl, hje⟩ := List.getElem?_eq_some_iff.mp hu
    have hvl := rv.length
    have hj : j < its.toArray.size := by simpa using hjl
    have hsl := sizeLine_eq
    have fys : (ns.map V.int).all flatV = true := by
      rw [List.all_map]
      exact List.all_eq_true.mpr fun _ _ => rfl
    have fy : flatV (V.int k) = true := rfl
    refine call_meets PySem.F.slot_list_index ⟨_, ho, rfl⟩ PySem.F.entry_list_index (PySem.F.args_list_index_3 _ _ _)
      (JX.list_index3At a its.toArray n dd sl uy (eqU (V.int k)) b tb j hj (by omega) hbj ?_ ?_) ⟨ho, fun u' hu' => mem_eqAt ry fy rv fys u' (by simpa using hu'), ?_⟩
    · have e1 : its.toArray[j] = u := by simpa using hje
      rw [e1, eqU_of ru (flat_at fys hz')]
      simp [eqV]
    · intro m hm hbm hmj
      have hml : m < its.length := by simpa using hm
      have hmy : m < ns.length := by rw [List.length_map] at hvl; omega
      have hy' : (ns.map V.int)[m]? = some (V.int ns[m]) := by rw [List.getElem?_map, List.getElem?_eq_getElem hmy]; rfl
      obtain ⟨u2, hu2, ru2⟩ := rv.get hy'
      obtain ⟨_, hme⟩ := List.getElem?_eq_some_iff.mp hu2
      have e1 : its.toArray[m] = u2 := by simpa using hme
      rw [e1, eqU_of ru2 (flat_at fys hy')]
      have := hno m ns[m] hbm hmj (List.getElem?_eq_getElem hmy)
      simp [eqV, this]
    · exact ⟨.int (j : Nat), H, I.tok _, ⟨_, rfl⟩, q⟩
/-- xs[i], by values -/
def rGetL (K : PySem.W.Frag) : V → V → Hp → VK → Prop := fun o i H Q => ∃ p xs, ∃ j : Nat, ∃ v, o = .ref p ∧ i = .int (j : Nat) ∧ SqL K H p xs ∧ xs[j]? = some v ∧ Q v H
theorem get_list : PGet X (rGetL X.K) := by
  intro pins s σ H o i ov iv Q I ro ri h
  obtain ⟨p, xs, j, v, rfl, rfl, hq, hv, q⟩ := h
  cases ro
  obtain ⟨t, rfl⟩ := ri
  obtain ⟨its, r, pl, hz⟩ := I.list hq
  obtain ⟨w, ew, rw'⟩ := r.get hv
  have hl := r.length
  have hn := line63
  have hj : j < xs.length := (List.getElem?_eq_some_iff.mp hv).1
  exact wpAny_getItem_list pl.isList (by omega) (by omega) (by simpa using ew) ⟨v, H, I, rw', q⟩
/-- sorted(xs, reverse=True), ints -/
def tSortedR (K : PySem.W.Frag) (ta : TA) : TE := fun σ H Q => ta σ H fun vs H1 => ∃ (a : Addr) (ns : List Int), vs = [V.ref a] ∧ SqL K H1 a (ns.map V.int) ∧ ns.length < 64 ∧
  ∀ (ns' : List Int) (p : Addr), ns'.Perm ns → ns'.Pairwise (· ≥ ·) → H1 p = none → Q (.ref p) (upd H1 p (.lst (ns'.map V.int)))
theorem pe_sortedR {e : Expr} {ta : TA} {p pos kp cp : Pos} {j : Nat} (hg : Gl X "sorted") (hm : X.mg "sorted" = none) (ha : PA X [e] ta)
    (hs : starEach [e] X.env = [(false, eval e X.env)] := by rfl) : PE X (.Call (.Name "sorted" p) [e] [⟨some "reverse", .Constant (.bool true) j cp, kp⟩] pos) (tSortedR X.K ta) := by
  intro pins s σ H Q I h
  refine wpAny_Call_Name_kw (ld_blt I hg hm PyProof.Rows.boot_sorted ?_)
  refine callWith_kw (he := by rw [hs]; rfl) (hplain := by rw [hs]; rfl) (thn (ha pos pins s σ H _ I h) fun us s1 ⟨vs, H1, I1, r1, q1⟩ => ?_)
  · obtain ⟨a, ns, rfl, hq, h64, q⟩ := q1
    have hk : PK X [⟨some "reverse", .Constant (.bool true) j cp, kp⟩] (tCons (tC (.bl true)) tNil) := pk_cons pe_bl pk_nil
    refine thn (hk pos pins s1 σ H1 (fun zs H2 => zs = [.bl true] ∧ H2 = H1) I1 ⟨rfl, rfl⟩) fun ws s2 ⟨zs, H2, I2, r2, e1, e2⟩ => ?_
    subst e1 e2
    cases r2 with
    | cons rb rt =>
      cases rt
      cases rb
      obtain ⟨its, rv, hl, _⟩ := I2.list hq
      rw [Vals.ref1 r1]
      have hi := rv.ints
      refine PyProof.Rows.sorted_ints_rev (b := true) hl.isList hi (by rw [hi.length]; exact h64) fun out ns' h1 h2 h3 => ?_
      obtain ⟨ep, he'⟩ := PyProof.Rows.sortedAll_at s2.heap its out
      have hlen : (ns'.map V.int).length ≤ sizeLine := by rw [List.length_map, h2.length_eq]; exact small64 h64
      exact ⟨.ref _, upd _ (s2.heap.objs.size + 1) (.lst (ns'.map V.int)), I2.laid (t' := s2.toks) (fun _ _ => PyProof.Rows.sortedAll_old) (Nat.le_succ _) ⟨hlen, out.toList, ep, vals_of_ints h1, he'⟩, rfl, q ns' _ h2 h3 (I2.hok.fresh (Nat.le_succ _))⟩
end
end L2

/-! The mathematics: the specification's reading of a text, step by step, over lists of ints. -/
namespace Jm
open Jug

def by8 (t : List Int) : Bytes := t.map fun z => UInt8.ofNat z.toNat
def hI (z : Int) : Int := if 48 ≤ z ∧ z ≤ 57 then z - 48 else if 97 ≤ z ∧ z ≤ 102 then z - 97 + 10 else -1
def Ok8 (t : List Int) : Prop := ∀ z ∈ t, 0 ≤ z ∧ z ≤ 255

theorem Ok8.drop {t : List Int} (h : Ok8 t) (n : Nat) : Ok8 (t.drop n) := fun z hz => h z (List.mem_of_mem_drop hz)
theorem by8_nil : by8 [] = [] := rfl
theorem by8_cons (z : Int) (r : List Int) : by8 (z :: r) = UInt8.ofNat z.toNat :: by8 r := rfl
theorem by8_length (t : List Int) : (by8 t).length = t.length := by simp [by8]
theorem u8_toNat {z : Int} (h0 : 0 ≤ z) (h1 : z ≤ 255) : (UInt8.ofNat z.toNat).toNat = z.toNat := by
  rw [UInt8.toNat_ofNat']
  have : z.toNat < 256 := by omega
  omega
theorem u8_eq {z : Int} (h0 : 0 ≤ z) (h1 : z ≤ 255) (c : UInt8) : UInt8.ofNat z.toNat = c ↔ z = (c.toNat : Int) := by
  constructor
  · intro h
    have := congrArg UInt8.toNat h
    rw [u8_toNat h0 h1] at this
    omega
  · intro h
    apply UInt8.toNat_inj.mp
    rw [u8_toNat h0 h1]
    omega
theorem u8_93 {z : Int} (h0 : 0 ≤ z) (h1 : z ≤ 255) : UInt8.ofNat z.toNat = 93 ↔ z = 93 := u8_eq h0 h1 93
theorem u8_91 {z : Int} (h0 : 0 ≤ z) (h1 : z ≤ 255) : UInt8.ofNat z.toNat = 91 ↔ z = 91 := u8_eq h0 h1 91
theorem hI_lt (z : Int) : hI z < 16 := by unfold hI; split <;> (try split) <;> omega

theorem digitIn_none {z : Int} (h0 : 0 ≤ z) (h1 : z ≤ 255) (h : hI z < 0) : digitIn (UInt8.ofNat z.toNat) = none := by
  unfold digitIn
  rw [u8_toNat h0 h1]
  unfold hI at h
  split at h
  · omega
  · split at h
    · omega
    · rw [if_neg (by omega), if_neg (by omega)]
theorem digitIn_some {z : Int} (h0 : 0 ≤ z) (h1 : z ≤ 255) (h : 0 ≤ hI z) : digitIn (UInt8.ofNat z.toNat) = some (hI z).toNat := by
  unfold digitIn
  rw [u8_toNat h0 h1]
  unfold hI at h ⊢
  split at h
  · rename_i q
    rw [if_pos (by omega), if_pos q]
    congr 1
    omega
  · rename_i q
    split at h
    · rename_i q'
      rw [if_neg (by omega), if_pos (by omega), if_neg q, if_pos q']
      congr 1
      omega
    · omega
/-! handIn, a byte at a time -/
theorem hand_nil (p : Nat) (l : List Nat) : handIn p (by8 []) l = .error p := by simp [by8, handIn]
theorem hand_close (p : Nat) {z : Int} (r : List Int) (l : List Nat) (h : z = 93) : handIn p (by8 (z :: r)) l = if l.length < 2 then .error p else .ok (falling l, p + 1, by8 r) := by
  subst h
  rw [by8_cons]
  show handIn p ((93 : UInt8) :: by8 r) l = _
  rw [handIn, if_pos rfl]
theorem hand_bad (p : Nat) {z : Int} (r : List Int) (l : List Nat) (h0 : 0 ≤ z) (h1 : z ≤ 255) (h : z ≠ 93) (hb : 3 ≤ l.length ∨ hI z < 1) : handIn p (by8 (z :: r)) l = .error p := by
  rw [by8_cons, handIn, if_neg (fun e => h ((u8_93 h0 h1).mp e))]
  by_cases hn : hI z < 0
  · rw [digitIn_none h0 h1 hn]
  · rw [digitIn_some h0 h1 (by omega)]
    show (if (hI z).toNat = 0 ∨ ATONCE ≤ l.length then _ else _) = _
    rw [if_pos]
    show (hI z).toNat = 0 ∨ 3 ≤ l.length
    omega
theorem hand_go (p : Nat) {z : Int} (r : List Int) (l : List Nat) (h0 : 0 ≤ z) (h1 : z ≤ 255) (h : z ≠ 93) (hl : l.length < 3) (hb : 1 ≤ hI z) :
    handIn p (by8 (z :: r)) l = handIn (p + 1) (by8 r) (l ++ [(hI z).toNat]) := by
  rw [by8_cons, handIn, if_neg (fun e => h ((u8_93 h0 h1).mp e)), digitIn_some h0 h1 (by omega)]
  show (if (hI z).toNat = 0 ∨ ATONCE ≤ l.length then _ else _) = _
  rw [if_neg]
  show ¬((hI z).toNat = 0 ∨ 3 ≤ l.length)
  omega
def dg (z : Int) : Nat := (hI z).toNat
theorem hand_ok : ∀ (r : List Int) (p : Nat) (l : List Nat) (x : Beat) (q : Nat) (s : Bytes), Ok8 r → handIn p (by8 r) l = .ok (x, q, s) →
    ∃ ds rest, r = ds ++ 93 :: rest ∧ q = p + ds.length + 1 ∧ s = by8 rest ∧ x = falling (l ++ ds.map dg) ∧ (∀ z ∈ ds, 1 ≤ hI z ∧ z ≠ 93) ∧ 2 ≤ (l ++ ds.map dg).length ∧ ((l ++ ds.map dg).length ≤ max 3 l.length)
  | [], p, l, x, q, s, _, h => by rw [hand_nil] at h; cases h
  | z :: r, p, l, x, q, s, h8, h => by
    obtain ⟨h0, h1⟩ := h8 z (List.mem_cons_self)
    by_cases hz : z = 93
    · rw [hand_close p r l hz] at h
      split at h
      · cases h
      · rename_i hl
        cases h
        refine ⟨[], r, by rw [hz]; rfl, rfl, rfl, by simp, by simp, by simp; omega, by simp; omega⟩
    · by_cases hb : 3 ≤ l.length ∨ hI z < 1
      · rw [hand_bad p r l h0 h1 hz hb] at h
        cases h
      · rw [hand_go p r l h0 h1 hz (by omega) (by omega)] at h
        obtain ⟨ds, rest, e1, e2, e3, e4, e5, e6, e7⟩ := hand_ok r (p + 1) _ x q s (fun y hy => h8 y (List.mem_cons_of_mem _ hy)) h
        refine ⟨z :: ds, rest, by rw [e1]; rfl, by rw [e2, List.length_cons]; omega, e3, by rw [e4]; simp [dg], ?_, ?_, ?_⟩
        · intro y hy
          rcases List.mem_cons.mp hy with rfl | hy
          · exact ⟨by omega, hz⟩
          · exact e5 y hy
        · simp at e6 ⊢; omega
        · simp at e7 ⊢; omega
/-! one beat -/
def stepIn (p : Nat) : Bytes → Except Nat (Beat × Nat × Bytes)
  | [] => .error p
  | c :: r => if c = 91 then handIn (p + 1) r [] else match digitIn c with
    | none => .error p
    | some n => .ok (if n = 0 then [] else [n], p + 1, r)
theorem beats_nil (f p : Nat) (l : Pattern) : beatsIn (f + 1) p [] l = if l.isEmpty = true then .error p else .ok l := by rw [beatsIn]
theorem beats_long (f p : Nat) (c : UInt8) (r : Bytes) (l : Pattern) (h : 16 ≤ l.length) : beatsIn (f + 1) p (c :: r) l = .error p := by
  rw [beatsIn, if_pos (show LONG ≤ l.length from h)]
theorem beats_err (f p : Nat) (c : UInt8) (r : Bytes) (l : Pattern) (h : l.length < 16) {e : Nat} (hs : stepIn p (c :: r) = .error e) : beatsIn (f + 1) p (c :: r) l = .error e := by
  rw [beatsIn, if_neg (show ¬ LONG ≤ l.length by show ¬ 16 ≤ l.length; omega)]
  unfold stepIn at hs
  dsimp only at hs
  by_cases hc : c = 91
  · rw [if_pos hc] at hs ⊢
    rw [hs]
  · rw [if_neg hc] at hs ⊢
    cases hd : digitIn c with
    | none => rw [hd] at hs; cases hs; rfl
    | some n => rw [hd] at hs; cases hs
theorem beats_go (f p : Nat) (c : UInt8) (r : Bytes) (l : Pattern) (h : l.length < 16) {x : Beat} {q : Nat} {s : Bytes} (hs : stepIn p (c :: r) = .ok (x, q, s)) : beatsIn (f + 1) p (c :: r) l = beatsIn f q s (l ++ [x]) := by
  rw [beatsIn, if_neg (show ¬ LONG ≤ l.length by show ¬ 16 ≤ l.length; omega)]
  unfold stepIn at hs
  dsimp only at hs
  by_cases hc : c = 91
  · rw [if_pos hc] at hs ⊢
    rw [hs]
  · rw [if_neg hc] at hs ⊢
    cases hd : digitIn c with
    | none => rw [hd] at hs; cases hs
    | some n => rw [hd] at hs; cases hs; rfl
/-- a beat without a fault: its bytes -/
theorem step_ok {t : List Int} {p : Nat} {x : Beat} {q : Nat} {s : Bytes} (h8 : Ok8 t) (h : stepIn p (by8 t) = .ok (x, q, s)) :
    ∃ seg rest, t = seg ++ rest ∧ q = p + seg.length ∧ s = by8 rest ∧ 1 ≤ seg.length ∧ seg.length ≤ 5 ∧ x = falling (((seg.map hI).filter (fun z => decide (0 < z))).map Int.toNat) ∧
      (x.length ≤ 3 ∧ ∀ n ∈ ((seg.map hI).filter (fun z => decide (0 < z))), 1 ≤ n ∧ n ≤ 15) ∧
      (∀ z r, t = z :: r → (z = 91 → ∃ ds, seg = 91 :: ds ++ [93] ∧ ∀ y ∈ ds, y ≠ 93) ∧ (z ≠ 91 → seg.length = 1)) := by
  have pos15 : ∀ seg : List Int, ∀ n ∈ ((seg.map hI).filter (fun z => decide (0 < z))), 1 ≤ n ∧ n ≤ 15 := by
    intro seg n hn
    obtain ⟨hm, hp⟩ := List.mem_filter.mp hn
    obtain ⟨z, _, rfl⟩ := List.mem_map.mp hm
    have := hI_lt z
    have : 0 < hI z := of_decide_eq_true hp
    omega
  cases t with
  | nil => cases h
  | cons z r =>
    obtain ⟨h0, h1⟩ := h8 z (List.mem_cons_self)
    rw [by8_cons] at h
    unfold stepIn at h
    dsimp only at h
    by_cases hz : z = 91
    · rw [if_pos ((u8_91 h0 h1).mpr hz)] at h
      obtain ⟨ds, rest, e1, e2, e3, e4, e5, e6, e7⟩ := hand_ok r (p + 1) [] x q s (fun y hy => h8 y (List.mem_cons_of_mem _ hy)) h
      have hf : ∀ ds : List Int, (∀ z ∈ ds, 1 ≤ hI z ∧ z ≠ 93) → (((91 :: ds ++ [93]).map hI).filter (fun z => decide (0 < z))).map Int.toNat = ds.map dg := by
        intro ds hd
        have h91 : hI 91 = -1 := rfl
        have h93 : hI 93 = -1 := rfl
        rw [List.map_append, List.map_cons, List.filter_append, List.filter_cons, h91]
        simp only [List.map_cons, List.map_nil, h93]
        rw [if_neg (by decide)]
        have e2 : List.filter (fun z => decide (0 < z)) [(-1 : Int)] = [] := by decide
        rw [e2, List.append_nil]
        induction ds with
        | nil => rfl
        | cons d ds ih =>
          obtain ⟨hd1, _⟩ := hd d (List.mem_cons_self)
          rw [List.map_cons, List.filter_cons, if_pos (by simp; omega), List.map_cons, ih (fun z hz => hd z (List.mem_cons_of_mem _ hz))]
          rfl
      have hlen : ∀ (n : Nat) (l : List Nat), (putIn n l).length = l.length + 1 := by
        intro n l
        induction l with
        | nil => rfl
        | cons m r ih => unfold putIn; split <;> simp [ih]
      have hfl : ∀ l : List Nat, (falling l).length = l.length := by
        intro l
        induction l with
        | nil => rfl
        | cons m r ih => show (putIn m (falling r)).length = _; rw [hlen, ih]; rfl
      simp at e6 e7
      refine ⟨91 :: ds ++ [93], rest, by rw [e1, hz]; simp, by rw [e2]; simp; omega, e3, by simp, by simp; omega, ?_, ⟨?_, pos15 _⟩, ?_⟩
      · rw [hf ds e5, e4]; rfl
      · rw [e4, hfl]; simp; omega
      · intro z' r' e
        cases e
        exact ⟨fun _ => ⟨ds, rfl, fun y hy => (e5 y hy).2⟩, fun hne => absurd hz hne⟩
    · rw [if_neg (fun e => hz ((u8_91 h0 h1).mp e))] at h
      by_cases hn : hI z < 0
      · rw [digitIn_none h0 h1 hn] at h; cases h
      · rw [digitIn_some h0 h1 (by omega)] at h
        cases h
        refine ⟨[z], r, rfl, rfl, rfl, by simp, by simp, ?_, ⟨?_, pos15 _⟩, ?_⟩
        · simp only [List.map_cons, List.map_nil, List.filter_cons, List.filter_nil]
          by_cases hzz : (hI z).toNat = 0
          · rw [if_pos hzz, if_neg (by simp; omega)]; rfl
          · rw [if_neg hzz, if_pos (by simp; omega)]; rfl
        · split <;> simp
        · intro z' r' e
          cases e
          exact ⟨fun e => absurd e hz, fun _ => rfl⟩
/-- the reading, from a place on: l is what has been read -/
def At (t : List Int) (place : Nat) (l : Pattern) : Prop :=
  place ≤ t.length ∧ l.length ≤ 16 ∧ (place = 0 ↔ l = []) ∧ ∃ f, t.length - place < f ∧ read (by8 t) = beatsIn f place (by8 (t.drop place)) l
theorem At.start (t : List Int) : At t 0 [] := ⟨Nat.zero_le _, Nat.zero_le _, by simp, t.length + 1, by omega, by rw [List.drop_zero]; unfold Jug.read; rw [by8_length]⟩
theorem drop_cons {t : List Int} {p : Nat} (h : p < t.length) : ∃ z r, t.drop p = z :: r ∧ t[p]? = some z := ⟨t[p], t.drop (p + 1), List.drop_eq_getElem_cons h, List.getElem?_eq_getElem h⟩
theorem At.long {t : List Int} {p : Nat} {l : Pattern} (a : At t p l) (hp : p < t.length) (hl : l.length = 16) : read (by8 t) = .error p := by
  obtain ⟨_, _, _, f, hf, e⟩ := a
  obtain ⟨z, r, ed, _⟩ := drop_cons hp
  obtain ⟨f', rfl⟩ : ∃ f', f = f' + 1 := ⟨f - 1, by omega⟩
  rw [e, ed, by8_cons, beats_long _ _ _ _ _ (by omega)]
theorem At.err {t : List Int} {p e : Nat} {l : Pattern} (a : At t p l) (hp : p < t.length) (hl : l.length ≠ 16) (hs : stepIn p (by8 (t.drop p)) = .error e) : read (by8 t) = .error e := by
  obtain ⟨_, h16, _, f, hf, er⟩ := a
  obtain ⟨z, r, ed, _⟩ := drop_cons hp
  obtain ⟨f', rfl⟩ : ∃ f', f = f' + 1 := ⟨f - 1, by omega⟩
  rw [ed, by8_cons] at hs
  rw [er, ed, by8_cons, beats_err _ _ _ _ _ (by omega) hs]
theorem At.next {t : List Int} (h8 : Ok8 t) {p q : Nat} {x : Beat} {s : Bytes} {l : Pattern} (a : At t p l) (hp : p < t.length) (hl : l.length ≠ 16) (hs : stepIn p (by8 (t.drop p)) = .ok (x, q, s)) : At t q (l ++ [x]) ∧ p < q := by
  obtain ⟨_, h16, hz, f, hf, er⟩ := a
  obtain ⟨z, r, ed, _⟩ := drop_cons hp
  obtain ⟨f', rfl⟩ : ∃ f', f = f' + 1 := ⟨f - 1, by omega⟩
  obtain ⟨seg, rest, e1, e2, e3, e4, _⟩ := step_ok (h8.drop p) hs
  have hlen : (t.drop p).length = seg.length + rest.length := by rw [e1, List.length_append]
  rw [List.length_drop] at hlen
  have erest : t.drop q = rest := by
    rw [e2, ← List.drop_drop, e1, List.drop_left]
  rw [ed, by8_cons] at hs
  refine ⟨⟨by omega, by simp; omega, ⟨by omega, by simp⟩, f', by omega, ?_⟩, by omega⟩
  rw [er, ed, by8_cons, beats_go _ _ _ _ _ (by omega) hs, e3, erest]
theorem At.last {t : List Int} {l : Pattern} (a : At t t.length l) : read (by8 t) = if l = [] then .error t.length else .ok l := by
  obtain ⟨_, _, _, f, hf, er⟩ := a
  obtain ⟨f', rfl⟩ : ∃ f', f = f' + 1 := ⟨f - 1, by omega⟩
  rw [er, List.drop_length, by8_nil, beats_nil]
  cases l with
  | nil => rfl
  | cons a b => rfl
/-! patterns that are read -/

theorem putIn_mem {n y : Nat} : ∀ {l : List Nat}, y ∈ putIn n l ↔ y = n ∨ y ∈ l
  | [] => by simp [putIn]
  | m :: r => by
    unfold putIn
    split
    · simp
    · simp only [List.mem_cons, putIn_mem (l := r)]
      constructor
      · rintro (h | h | h) <;> simp [h]
      · rintro (h | h | h) <;> simp [h]
theorem putIn_sorted {n : Nat} : ∀ {l : List Nat}, l.Pairwise (· ≥ ·) → (putIn n l).Pairwise (· ≥ ·)
  | [], _ => by simp [putIn]
  | m :: r, h => by
    obtain ⟨h1, h2⟩ := List.pairwise_cons.mp h
    unfold putIn
    split
    · rename_i hlt
      refine List.pairwise_cons.mpr ⟨fun y hy => ?_, h⟩
      rcases List.mem_cons.mp hy with rfl | hy
      · show n ≥ y; omega
      · have := h1 y hy; show n ≥ y; omega
    · refine List.pairwise_cons.mpr ⟨fun y hy => ?_, putIn_sorted h2⟩
      rcases putIn_mem.mp hy with rfl | hy
      · show m ≥ y; omega
      · exact h1 y hy
theorem putIn_perm {n : Nat} : ∀ {l : List Nat}, (putIn n l).Perm (n :: l)
  | [] => List.Perm.refl _
  | m :: r => by
    unfold putIn
    split
    · exact List.Perm.refl _
    · exact ((putIn_perm (l := r)).cons m).trans (List.Perm.swap n m r)
theorem falling_sorted : ∀ l : List Nat, (falling l).Pairwise (· ≥ ·)
  | [] => List.Pairwise.nil
  | _ :: r => putIn_sorted (falling_sorted r)
theorem falling_perm : ∀ l : List Nat, (falling l).Perm l
  | [] => List.Perm.refl _
  | n :: r => (putIn_perm (n := n)).trans ((falling_perm r).cons n)
/-- two falling lists of the same numbers are one -/
theorem falling_one {a b : List Nat} (hp : a.Perm b) (ha : a.Pairwise (· ≥ ·)) (hb : b.Pairwise (· ≥ ·)) : a = b :=
  hp.eq_of_pairwise (le := fun x y => x ≥ y) (fun _ _ _ _ h1 h2 => Nat.le_antisymm h2 h1) ha hb
theorem falling_ints {ns ms : List Int} (h0 : ∀ n ∈ ns, 0 ≤ n) (hp : ms.Perm ns) (hs : ms.Pairwise (· ≥ ·)) : ms = (falling (ns.map Int.toNat)).map Int.ofNat := by
  have back : ∀ l : List Int, (∀ n ∈ l, 0 ≤ n) → l = (l.map Int.toNat).map Int.ofNat := by
    intro l hl
    rw [List.map_map]
    induction l with
    | nil => rfl
    | cons a r ih =>
      rw [List.map_cons, ← ih (fun n hn => hl n (List.mem_cons_of_mem _ hn))]
      congr 1
      exact (Int.toNat_of_nonneg (hl a List.mem_cons_self)).symm
  have hm : ∀ n ∈ ms, 0 ≤ n := fun n hn => h0 n (hp.mem_iff.mp hn)
  have e := back ms hm
  have q : ms.map Int.toNat = falling (ns.map Int.toNat) := by
    refine falling_one ((hp.map Int.toNat).trans (falling_perm _).symm) ?_ (falling_sorted _)
    rw [List.pairwise_map]
    refine hs.imp ?_
    intro a b hab
    show b.toNat ≤ a.toNat
    have : b ≤ a := hab
    omega
  rw [← q]
  exact e
/-! a beat by its first byte -/
theorem drop_at {t : List Int} {p : Nat} {z : Int} (h : t[p]? = some z) : t.drop p = z :: t.drop (p + 1) := by
  obtain ⟨hp, e⟩ := List.getElem?_eq_some_iff.mp h
  rw [← e]
  exact List.drop_eq_getElem_cons hp
theorem step_open {t : List Int} {p : Nat} {z : Int} (h : t[p]? = some z) (hz : z = 91) : stepIn p (by8 (t.drop p)) = handIn (p + 1) (by8 (t.drop (p + 1))) [] := by
  subst hz
  rw [drop_at h, by8_cons]
  unfold stepIn
  dsimp only
  rw [if_pos (show UInt8.ofNat (Int.toNat 91) = 91 from rfl)]
theorem step_none {t : List Int} {p : Nat} {z : Int} (h : t[p]? = some z) (z0 : 0 ≤ z) (z1 : z ≤ 255) (hz : z ≠ 91) (hn : hI z < 0) : stepIn p (by8 (t.drop p)) = .error p := by
  rw [drop_at h, by8_cons]
  unfold stepIn
  dsimp only
  rw [if_neg (fun e => hz ((u8_91 z0 z1).mp e)), digitIn_none z0 z1 hn]
theorem step_dig {t : List Int} {p : Nat} {z : Int} (h : t[p]? = some z) (z0 : 0 ≤ z) (z1 : z ≤ 255) (hz : z ≠ 91) (hn : 0 ≤ hI z) : ∃ x, stepIn p (by8 (t.drop p)) = .ok (x, p + 1, by8 (t.drop (p + 1))) := by
  rw [drop_at h, by8_cons]
  unfold stepIn
  dsimp only
  rw [if_neg (fun e => hz ((u8_91 z0 z1).mp e)), digitIn_some z0 z1 hn]
  exact ⟨_, rfl⟩
theorem step_index {t : List Int} (h8 : Ok8 t) {p q : Nat} {x : Beat} {s : Bytes} (hz : t[p]? = some 91) (h : stepIn p (by8 (t.drop p)) = .ok (x, q, s)) :
    1 ≤ q ∧ p ≤ q - 1 ∧ t[q - 1]? = some 93 ∧ ∀ m z, p ≤ m → m < q - 1 → t[m]? = some z → z ≠ 93 := by
  obtain ⟨seg, rest, e1, e2, e3, e4, e5, e6, e7, e8⟩ := step_ok (h8.drop p) h
  obtain ⟨ds, es, hds⟩ := (e8 91 _ (drop_at hz)).1 rfl
  have hlen : seg.length = ds.length + 2 := by rw [es]; simp
  have at_ : ∀ k, t[p + k]? = (seg ++ rest)[k]? := fun k => by rw [← e1, List.getElem?_drop]
  refine ⟨by omega, by omega, ?_, ?_⟩
  · have e : q - 1 = p + (ds.length + 1) := by omega
    rw [e, at_, es]
    simp
  · intro m z h1 h2 hm
    obtain ⟨k, rfl⟩ : ∃ k, m = p + k := ⟨m - p, by omega⟩
    rw [at_, es] at hm
    cases k with
    | zero => simp at hm; omega
    | succ k =>
      have hk : k < ds.length := by omega
      have : (91 :: ds ++ [93] ++ rest)[k + 1]? = some ds[k] := by
        simp [List.getElem?_append, hk]
      rw [this] at hm
      exact hds z (by rw [← Option.some.inj hm]; exact List.getElem_mem hk)
theorem step_single {t : List Int} (h8 : Ok8 t) {p q : Nat} {x : Beat} {s : Bytes} {z : Int} (ez : t[p]? = some z) (hz : z ≠ 91) (h : stepIn p (by8 (t.drop p)) = .ok (x, q, s)) : q = p + 1 := by
  obtain ⟨seg, rest, e1, e2, e3, e4, e5, e6, e7, e8⟩ := step_ok (h8.drop p) h
  have := (e8 z _ (drop_at ez)).2 hz
  omega
/-! what is read is good -/
def GoodBeat (b : Beat) : Prop := b.length ≤ 3 ∧ (∀ h ∈ b, 1 ≤ h ∧ h ≤ 15) ∧ b.Pairwise (· ≥ ·)
theorem step_good {t : List Int} {p q : Nat} {x : Beat} {s : Bytes} (h8 : Ok8 t) (h : stepIn p (by8 t) = .ok (x, q, s)) : GoodBeat x := by
  obtain ⟨seg, rest, e1, e2, e3, e4, e5, e6, e7, e8⟩ := step_ok h8 h
  refine ⟨e7.1, fun n hn => ?_, by rw [e6]; exact falling_sorted _⟩
  rw [e6] at hn
  have hm := (falling_perm _).mem_iff.mp hn
  obtain ⟨z, hz, rfl⟩ := List.mem_map.mp hm
  have := e7.2 z hz
  omega
theorem beats_good : ∀ (f p : Nat) (t : List Int) (l q : Pattern), Ok8 t → beatsIn f p (by8 t) l = .ok q → (∀ b ∈ l, GoodBeat b) → l.length ≤ 16 → (∀ b ∈ q, GoodBeat b) ∧ 1 ≤ q.length ∧ q.length ≤ 16
  | 0, p, t, l, q, _, h, _, _ => by
    unfold beatsIn at h
    cases h
  | f + 1, p, [], l, q, _, h, hl, h16 => by
    rw [by8_nil, beats_nil] at h
    split at h
    · cases h
    · rename_i hne
      cases h
      refine ⟨hl, ?_, h16⟩
      cases l with
      | nil => exact absurd rfl hne
      | cons a b => simp
  | f + 1, p, z :: r, l, q, h8, h, hl, h16 => by
    by_cases h1 : l.length = 16
    · rw [by8_cons, beats_long _ _ _ _ _ (by omega)] at h
      cases h
    · cases hs : stepIn p (by8 (z :: r)) with
      | error e =>
        rw [by8_cons] at hs h
        rw [beats_err _ _ _ _ _ (by omega) hs] at h
        cases h
      | ok y =>
        obtain ⟨x, q', s⟩ := y
        have hg := step_good h8 hs
        obtain ⟨seg, rest, e1, e2, e3, e4, _⟩ := step_ok h8 hs
        rw [by8_cons] at hs h
        rw [beats_go _ _ _ _ _ (by omega) hs, e3] at h
        refine beats_good f q' rest _ q (fun y hy => h8 y (by rw [e1]; exact List.mem_append_right _ hy)) h (fun b hb => ?_) (by simp; omega)
        rcases List.mem_append.mp hb with hb | hb
        · exact hl b hb
        · rw [List.mem_singleton.mp hb]
          exact hg
theorem read_good {t : List Int} {p : Pattern} (h8 : Ok8 t) (h : Jug.read (by8 t) = .ok p) : (∀ b ∈ p, GoodBeat b) ∧ 1 ≤ p.length ∧ p.length ≤ 16 := by
  unfold Jug.read at h
  exact beats_good _ _ _ _ _ h8 h (by simp) (by simp)
/-! counting -/
def cnt (N : Nat) (ks : List Nat) : List Nat := (List.range N).map fun k => ks.count k
theorem cnt_length (N : Nat) (ks : List Nat) : (cnt N ks).length = N := by simp [cnt]
theorem cnt_at {N k : Nat} (ks : List Nat) (h : k < N) : (cnt N ks)[k]? = some (ks.count k) := by
  unfold cnt
  rw [List.getElem?_map, List.getElem?_range h]
  rfl
theorem cnt_nil (N : Nat) : cnt N [] = List.replicate N 0 := by
  unfold cnt
  apply List.ext_getElem?
  intro i
  by_cases h : i < N
  · rw [List.getElem?_map, List.getElem?_range h, List.getElem?_replicate, if_pos h]
    rfl
  · rw [List.getElem?_eq_none (by simp; omega), List.getElem?_eq_none (by simp; omega)]
theorem cnt_bump {N k : Nat} (ks : List Nat) (h : k < N) : (cnt N ks).set k (ks.count k + 1) = cnt N (ks ++ [k]) := by
  apply List.ext_getElem?
  intro i
  by_cases hi : i < N
  · rw [cnt_at _ hi, List.getElem?_set, cnt_length, List.count_append]
    by_cases e : k = i
    · subst e
      rw [if_pos rfl, if_pos h]
      simp
    · rw [if_neg e, cnt_at _ hi]
      have : List.count i [k] = 0 := by
        rw [List.count_eq_zero]
        simp
        omega
      rw [this, Nat.add_zero]
  · rw [List.getElem?_eq_none (by rw [List.length_set, cnt_length]; omega), List.getElem?_eq_none (by rw [cnt_length]; omega)]
theorem total_count {α : Type} (F : α → List Nat) (t : Nat) : ∀ L : List α, total (L.map fun x => (F x).count t) = (L.flatMap F).count t
  | [] => rfl
  | a :: r => by
    rw [List.map_cons, List.flatMap_cons, List.count_append, ← total_count F t r]
    rfl
theorem filter_count {f : Nat → Nat} {t : Nat} : ∀ b : List Nat, (b.filter fun h => f h == t).length = (b.map f).count t
  | [] => rfl
  | a :: r => by
    rw [List.filter_cons, List.map_cons, List.count_cons, ← filter_count r]
    split <;> simp
/-- where the throws of the first i beats land -/
def landKs (p : Pattern) (i : Nat) : List Nat := (List.range i).flatMap fun s => (p.getD s []).map fun h => (s + h) % p.length
theorem landKs_succ (p : Pattern) (i : Nat) : landKs p (i + 1) = landKs p i ++ (p.getD i []).map fun h => (i + h) % p.length := by
  unfold landKs
  rw [List.range_succ, List.flatMap_append]
  simp
theorem zipIdx_map {β : Type} (p : Pattern) (g : Beat × Nat → β) : p.zipIdx.map g = (List.range p.length).map fun s => g (p.getD s [], s) := by
  apply List.ext_getElem?
  intro i
  by_cases h : i < p.length
  · rw [List.getElem?_map, List.getElem?_map, List.getElem?_range h, List.getElem?_zipIdx, List.getElem?_eq_getElem h]
    simp [List.getD, h]
  · rw [List.getElem?_eq_none (by simp; omega), List.getElem?_eq_none (by simp; omega)]
theorem landing_count (p : Pattern) (t : Nat) : landing p t = (landKs p p.length).count t := by
  unfold landing landKs
  rw [zipIdx_map, ← total_count]
  congr 1
  apply List.map_congr_left
  intro s _
  exact filter_count (f := fun h => (s + h) % p.length) (p.getD s [])
/-- what is in the air, beat by beat back -/
def backIx (p : Pattern) (t d : Nat) : Nat := (t + LONG * p.length - (d + 1)) % p.length
def airKs (p : Pattern) (t i : Nat) : List Nat := (List.range i).flatMap fun d => ((p.getD (backIx p t d) []).filter fun h => decide (d + 1 ≤ h)).map fun h => h - (d + 1)
theorem airKs_succ (p : Pattern) (t i : Nat) : airKs p t (i + 1) = airKs p t i ++ ((p.getD (backIx p t i) []).filter fun h => decide (i + 1 ≤ h)).map fun h => h - (i + 1) := by
  unfold airKs
  rw [List.range_succ, List.flatMap_append]
  simp
theorem airAt_cnt (p : Pattern) (t : Nat) : airAt p t = cnt 15 (airKs p t 15) := by
  unfold airAt cnt airKs
  apply List.map_congr_left
  intro k _
  rw [← total_count]
  show total ((List.range 15).map _) = _
  congr 1
  apply List.map_congr_left
  intro d _
  show ((p.getD (backIx p t d) []).filter fun h => h == k + d + 1).length = _
  generalize p.getD (backIx p t d) [] = b
  induction b with
  | nil => rfl
  | cons a r ih =>
    rw [List.filter_cons, List.filter_cons]
    by_cases h1 : d + 1 ≤ a
    · rw [if_pos (show decide (d + 1 ≤ a) = true from decide_eq_true h1), List.map_cons, List.count_cons, ← ih]
      by_cases h2 : a = k + d + 1
      · rw [if_pos (by simpa using h2), if_pos (by simp; omega)]
        rfl
      · rw [if_neg (by simpa using h2), if_neg (by simp; omega)]
        rfl
    · rw [if_neg (by simp; omega), if_neg (by simpa using h1), ih]
theorem backIx_int {p : Pattern} (hp : 1 ≤ p.length) {k d : Nat} (hd : d < 15) : ((k : Int) - (1 + (d : Int))) % (p.length : Int) = (backIx p (k % p.length) d : Int) := by
  unfold backIx
  show _ = (((k % p.length + 16 * p.length - (d + 1)) % p.length : Nat) : Int)
  rw [Int.natCast_emod]
  have e : ((k % p.length + 16 * p.length - (d + 1) : Nat) : Int) = (k : Int) - (1 + (d : Int)) + (p.length : Int) * (16 - ((k / p.length : Nat) : Int)) := by
    have h1 := Nat.div_add_mod k p.length
    have h2 : ((k % p.length : Nat) : Int) = (k : Int) - (p.length : Int) * ((k / p.length : Nat) : Int) := by
      have : ((p.length * (k / p.length) + k % p.length : Nat) : Int) = (k : Int) := by rw [h1]
      rw [Int.natCast_add, Int.natCast_mul] at this
      omega
    rw [Int.mul_sub]
    omega
  rw [e, Int.add_mul_emod_self_left]
theorem backIx_lt {p : Pattern} (hp : 1 ≤ p.length) (t d : Nat) : backIx p t d < p.length := Nat.mod_lt _ hp
/-! refusals -/
def refusal (t : List Int) : List Int := match Jug.read (by8 t) with
  | .error e => [-6, (e : Int)]
  | .ok p => match clash p with
    | some k => [-5, (k : Int)]
    | none => []
theorem of_refused {t : List Int} {f : Pattern → Answer} (h : refusal t ≠ []) : Jug.of (by8 t) f = refusal t := by
  unfold Jug.of refusal at *
  cases e : Jug.read (by8 t) with
  | error e => rfl
  | ok p =>
    rw [e] at h
    dsimp only at h ⊢
    cases e2 : clash p with
    | some k => rfl
    | none => rw [e2] at h; exact absurd rfl h
theorem of_right {t : List Int} {f : Pattern → Answer} (h : refusal t = []) : ∃ p, Jug.read (by8 t) = .ok p ∧ clash p = none ∧ Jug.of (by8 t) f = f p := by
  unfold Jug.of refusal at *
  cases e : Jug.read (by8 t) with
  | error e' => rw [e] at h; cases h
  | ok p =>
    rw [e] at h
    dsimp only at h ⊢
    cases e2 : clash p with
    | some k => rw [e2] at h; cases h
    | none => exact ⟨p, rfl, e2, rfl⟩
end Jm

set_option Elab.async false
set_option linter.all false
set_option maxRecDepth 100000
set_option maxHeartbeats 2000000
namespace L2
open PySem PySem.Spec PyProof.Rows
/-! words for defs and globals -/
def IntG (mg : Str → Option Value) (x : Str) (i : Int) : Prop := ∃ t, mg x = some (.int i t)
/-- a def of the text, as a caller sees it -/
structure Def (P : Program) (w : World) (K : PySem.W.Frag) (mg : Str → Option Value) (base : Heap) (x : Str) (ps : List Str) (k : Nat) (sp : Sp) : Prop where
  ex : ∃ (f : Addr) (fd : FuncData), FnOk P w K mg base CX0 k f fd ps sp ∧ mg x = some (.ref f) ∧ PySem.W.keepIn K (.ref f) = true ∧ Binds K fd ps []
section
variable {X : Cx}
theorem pgl {x : Str} {i : Int} {pos : Pos} (h : IntG X.mg x i) (hg : Gl X x := by rfl) (hd : (x == ("__debug__" : Str)) = false := by decide) : PE X (.Name x pos) (tC (.int i)) := by
  obtain ⟨t, e⟩ := h
  exact pe_glob hg e ⟨t, rfl⟩ hd
theorem pcall {x : Str} {ps : List Str} {k : Nat} {sp : Sp} {e : Expr} {es : List Expr} {t : TA} {p pos : Pos} (D : Def X.prog X.w X.K X.mg X.base x ps k sp) (hr : Room k X.A) (ha : PA X (e :: es) t)
    (hg : Gl X x := by rfl) (hdb : (x == ("__debug__" : Str)) = false := by decide) (he : starEach (e :: es) X.env = (false, eval e X.env) :: starEach es X.env := by rfl)
    (hpl : (backTo pos (starEach es X.env)).any (·.1) = false := by rfl) (hx : Passes CX0 X E0 := by exact pass0) :
    PE X (.Call (.Name x p) (e :: es) [] pos) (tCall sp [] E0 t) := by
  obtain ⟨f, fd, G, hm, hk, hb⟩ := D.ex
  exact pe_call G hr hg hm hk hb .nil hx ha hdb he hpl
end
theorem Same.new {H H1 : Hp} (s : Same H H1) {p : Addr} {o : HO} (hp : H1 p = none) : Same H (upd H1 p o) := fun b u e => by
  have e1 := s b u e
  rw [upd_ne (ne_of_none e1 hp)]
  exact e1
/-- a write to what was not there at the start -/
theorem Same.own {H H1 : Hp} (s : Same H H1) {p : Addr} {o : HO} (hp : H p = none) : Same H (upd H1 p o) := fun b u e => by
  rw [upd_ne (ne_of_none e hp)]
  exact s b u e
/-! patterns in the heap -/
def natsV (l : List Nat) : List V := l.map fun (n : Nat) => V.int (n : Int)
theorem natsV_int (l : List Nat) : natsV l = (l.map Int.ofNat).map V.int := by
  unfold natsV
  rw [List.map_map]
  rfl
def BeatAt (H : Hp) (v : V) (b : List Nat) : Prop := ∃ x, v = .ref x ∧ H x = some (.lst (natsV b))
def PatAt (H : Hp) (v : V) (p : List (List Nat)) : Prop := ∃ x vs, v = .ref x ∧ H x = some (.lst vs) ∧ Paired (BeatAt H) vs p
theorem BeatAt.same {H H' : Hp} (s : Same H H') {v : V} {b : List Nat} (h : BeatAt H v b) : BeatAt H' v b := by
  obtain ⟨x, e, h⟩ := h
  exact ⟨x, e, s _ _ h⟩
theorem BeatAt.upd {H : Hp} {v : V} {b : List Nat} {D : Addr} {o : HO} (h : BeatAt H v b) (hn : v ≠ .ref D) : BeatAt (upd H D o) v b := by
  obtain ⟨x, rfl, h⟩ := h
  exact ⟨x, rfl, by rw [upd_ne (fun e => hn (by rw [e]))]; exact h⟩

theorem Paired.getL {α β : Type} {F : α → β → Prop} : ∀ {l : List α} {m : List β} {i : Nat} {a : α}, Paired F l m → l[i]? = some a → ∃ b, m[i]? = some b ∧ F a b
  | _, _, _, _, .nil, e => by simp at e
  | _, _, 0, _, .cons r _, e => by simp at e; subst e; exact ⟨_, rfl, r⟩
  | _, _, i + 1, a, .cons _ t, e => by
    obtain ⟨u, h1, h2⟩ := Paired.getL (i := i) (a := a) t (by simpa using e)
    exact ⟨u, by simpa using h1, h2⟩
theorem Paired.getR {α β : Type} {F : α → β → Prop} : ∀ {l : List α} {m : List β} {i : Nat} {b : β}, Paired F l m → m[i]? = some b → ∃ a, l[i]? = some a ∧ F a b
  | _, _, _, _, .nil, e => by simp at e
  | _, _, 0, _, .cons r _, e => by simp at e; subst e; exact ⟨_, rfl, r⟩
  | _, _, i + 1, a, .cons _ t, e => by
    obtain ⟨u, h1, h2⟩ := Paired.getR (i := i) (b := a) t (by simpa using e)
    exact ⟨u, by simpa using h1, h2⟩
theorem take_snoc {α : Type} : ∀ {l : List α} {i : Nat} {x : α}, l[i]? = some x → l.take (i + 1) = l.take i ++ [x]
  | [], i, x, h => by simp at h
  | a :: l, 0, x, h => by
    have e : a = x := Option.some.inj h
    subst e
    rfl
  | a :: l, i + 1, x, h => by
    have ih := take_snoc (l := l) (i := i) (x := x) h
    show a :: l.take (i + 1) = a :: l.take i ++ [x]
    rw [ih]
    rfl
theorem map_get {α β : Type} {f : α → β} {l : List α} {i : Nat} {y : β} (h : (l.map f)[i]? = some y) : ∃ x, l[i]? = some x ∧ y = f x := by
  rw [List.getElem?_map] at h
  cases e : l[i]? with
  | none => rw [e] at h; cases h
  | some z => rw [e] at h; exact ⟨z, rfl, (Option.some.inj h).symm⟩
/-! comprehensions: [f(x) for x in xs], [x for x in xs if p(x)] -/
theorem lc_mapL {K : PySem.W.Frag} {a : Addr} {xs : List V} {j : Nat} {te : TE} {vs : List Nat} {σ : St} {H1 : Hp} {D : Addr} {Qd : Hp → Prop} (f : V → V) (hS : SqL K H1 a xs) (hD : H1 D = none) (hlen : xs.length ≤ sizeLine)
    (hw : ∀ x, wipe ((wipe σ vs).set j (some x)) vs = wipe σ vs)
    (he : ∀ (i : Nat) (x : V) (H' : Hp) (Qk : VK), xs[i]? = some x → Same H1 H' → (∀ H4, Same H' H4 → Qk (f x) H4) → te ((wipe σ vs).set j (some x)) H' Qk)
    (hd : ∀ H', Same H1 H' → H' D = some (.lst (xs.map f)) → Qd H') :
    ∃ W : Nat → Nat → Hp → Prop, (∃ m, W 0 m (upd H1 D (.lst []))) ∧ ∀ i m H, W i m H →
      ((Itl K a).stop i H ∧ Qd H) ∨ ((Itl K a).go i H ∧ ∃ Nx : Hp → Prop, (∀ H', Nx H' → ∃ m', m' < m ∧ W (i + 1) m' H') ∧ ∀ x H', (Itl K a).yld i H x H' → gName j x (wipe σ vs) H' fun σ2 H2 => wipe σ2 vs = wipe σ vs ∧ tYes σ2 H2 fun b H3 =>
        if b = true then te σ2 H3 fun y H4 => ∃ acc, H4 D = some (.lst acc) ∧ acc.length < sizeLine ∧ Nx (upd H4 D (.lst (acc ++ [y]))) else Nx H3) := by
  refine lc_list (xs := xs) (fun i H' => Same H1 H' ∧ H' D = some (.lst ((xs.take i).map f))) ⟨(Same.refl H1).new hD, upd_same⟩ (fun i H' _ ⟨s, _⟩ => s.seq hS) ?_ ?_
  · rintro i x H' hi ⟨s, hDv⟩
    refine ⟨hw x, ?_⟩
    unfold tYes
    dsimp only
    rw [if_pos rfl]
    refine he i x H' _ hi s fun H4 s4 => ⟨_, s4 _ _ hDv, ?_, (s.trans s4).own hD, ?_⟩
    · rw [List.length_map, List.length_take]
      have := (List.getElem?_eq_some_iff.mp hi).1
      omega
    · rw [upd_same, take_snoc hi, List.map_append]
      rfl
  · rintro H' ⟨s, hDv⟩
    rw [List.take_length] at hDv
    exact hd H' s hDv
theorem lc_filterL {K : PySem.W.Frag} {a : Addr} {xs : List V} {j : Nat} {tt : TT} {vs : List Nat} {σ : St} {H1 : Hp} {D : Addr} {Qd : Hp → Prop} (p : V → Bool) (hS : SqL K H1 a xs) (hD : H1 D = none) (hlen : xs.length ≤ sizeLine) (hj : j < σ.length)
    (hw : ∀ x, wipe ((wipe σ vs).set j (some x)) vs = wipe σ vs)
    (he : ∀ (i : Nat) (x : V) (H' : Hp) (Qk : Bool → Hp → Prop), xs[i]? = some x → Same H1 H' → Qk (p x) H' → tt ((wipe σ vs).set j (some x)) H' Qk)
    (hd : ∀ H', Same H1 H' → H' D = some (.lst (xs.filter p)) → Qd H') :
    ∃ W : Nat → Nat → Hp → Prop, (∃ m, W 0 m (upd H1 D (.lst []))) ∧ ∀ i m H, W i m H →
      ((Itl K a).stop i H ∧ Qd H) ∨ ((Itl K a).go i H ∧ ∃ Nx : Hp → Prop, (∀ H', Nx H' → ∃ m', m' < m ∧ W (i + 1) m' H') ∧ ∀ x H', (Itl K a).yld i H x H' → gName j x (wipe σ vs) H' fun σ2 H2 => wipe σ2 vs = wipe σ vs ∧ tt σ2 H2 fun b H3 =>
        if b = true then tVar j σ2 H3 fun y H4 => ∃ acc, H4 D = some (.lst acc) ∧ acc.length < sizeLine ∧ Nx (upd H4 D (.lst (acc ++ [y]))) else Nx H3) := by
  refine lc_list (xs := xs) (fun i H' => Same H1 H' ∧ H' D = some (.lst ((xs.take i).filter p))) ⟨(Same.refl H1).new hD, upd_same⟩ (fun i H' _ ⟨s, _⟩ => s.seq hS) ?_ ?_
  · rintro i x H' hi ⟨s, hDv⟩
    refine ⟨hw x, he i x H' _ hi s ?_⟩
    have hil := (List.getElem?_eq_some_iff.mp hi).1
    have e1 := take_snoc hi
    cases hp : p x with
    | true =>
      refine iteT ⟨x, ?_, _, hDv, ?_, s.own hD, ?_⟩
      · rw [List.getElem?_set_self (by rw [wipe_length]; exact hj)]
      · have := List.length_filter_le p (xs.take i)
        rw [List.length_take] at this
        omega
      · rw [upd_same, e1, List.filter_append, List.filter_cons, if_pos hp]
        rfl
    | false =>
      refine iteF ⟨s, ?_⟩
      rw [e1, List.filter_append, List.filter_cons, if_neg (by rw [hp]; exact Bool.false_ne_true), List.filter_nil, List.append_nil]
      exact hDv
  · rintro H' ⟨s, hDv⟩
    rw [List.take_length] at hDv
    exact hd H' s hDv
theorem cutV_seg {α : Type} {f : α → V} {t seg rest : List α} {p q : Nat} (hp : p ≤ t.length) (e : t.drop p = seg ++ rest) (hq : q = p + seg.length) : cutV (t.map f) (some (p : Int)) (some (q : Int)) = seg.map f := by
  have hl : (t.drop p).length = seg.length + rest.length := by rw [e, List.length_append]
  rw [List.length_drop] at hl
  unfold cutV
  rw [HT.sIx_nat, HT.sIx_nat, List.length_map, Nat.min_eq_left hp, Nat.min_eq_left (by omega), ← List.map_drop, ← List.map_take, e, hq, Nat.add_sub_cancel_left, List.take_left]
def hV : V → V
  | .int z => .int (Jm.hI z)
  | v => v
def posV : V → Bool
  | .int z => decide (0 < z)
  | _ => false
theorem filter_pos (l : List Int) : (l.map V.int).filter posV = (l.filter fun z => decide (0 < z)).map V.int := by
  rw [List.filter_map]
  rfl
/-! lists of ints in the heap -/
def IntsAt (H : Hp) (v : V) (l : List Int) : Prop := ∃ x, v = .ref x ∧ H x = some (.lst (l.map V.int))

theorem natsV_length (l : List Nat) : (natsV l).length = l.length := by simp [natsV]
theorem natsV_at {l : List Nat} {i n : Nat} (h : l[i]? = some n) : (natsV l)[i]? = some (V.int (n : Int)) := by
  unfold natsV
  rw [List.getElem?_map, h]
  rfl
theorem natsV_set (l : List Nat) (i n : Nat) : (natsV l).set i (V.int (n : Int)) = natsV (l.set i n) := by
  unfold natsV
  rw [List.map_set]
theorem natsV_get {l : List Nat} {i : Nat} {v : V} (h : (natsV l)[i]? = some v) : ∃ n, l[i]? = some n ∧ v = V.int (n : Int) := map_get h
theorem ixN_nat {n j : Nat} (h : j < n) : ixN n (j : Int) = some j := by
  unfold ixN
  rw [if_pos (by omega), if_pos (by omega)]
  rfl
/-- x[j] += 1 of a count -/
theorem bump_ok {N k : Nat} {ks : List Nat} (h : k < N) : (natsV (Jm.cnt N ks)).set k (V.int (((ks.count k : Nat) : Int) + 1)) = natsV (Jm.cnt N (ks ++ [k])) := by
  have e : ((ks.count k : Nat) : Int) + 1 = ((ks.count k + 1 : Nat) : Int) := by omega
  rw [e, natsV_set, Jm.cnt_bump ks h]
theorem rep_zero (n : Nat) : (List.replicate n [V.int 0]).flatten = natsV (Jm.cnt n []) := by
  rw [Jm.cnt_nil]
  unfold natsV
  induction n with
  | zero => rfl
  | succ n ih => rw [List.replicate_succ, List.flatten_cons, ih, List.replicate_succ, List.map_cons]; rfl
theorem PatAt.at {H : Hp} {x : Addr} {vs : List V} {p : List (List Nat)} (h : Paired (BeatAt H) vs p) {i : Nat} (hi : i < p.length) : ∃ y b, vs[i]? = some (.ref y) ∧ p[i]? = some b ∧ p.getD i [] = b ∧ H y = some (.lst (natsV b)) := by
  obtain ⟨v, e1, y, rfl, e2⟩ := Paired.getR h (List.getElem?_eq_getElem hi)
  exact ⟨y, p[i], e1, List.getElem?_eq_getElem hi, by simp [List.getD, hi], e2⟩
end L2

/-! The root of a pattern: told over and over, or turned into itself. -/
namespace Jm
open Jug

/-! heights, balls -/
theorem total_sum (l : List Nat) : total l = l.sum := by
  induction l with
  | nil => rfl
  | cons a r ih => rw [List.sum_cons, ← ih]; rfl
theorem heights_flat (p : Pattern) : heights p = p.flatten.sum := by
  unfold heights
  induction p with
  | nil => rfl
  | cons b r ih =>
    rw [List.map_cons, List.flatten_cons, List.sum_append, ← ih, ← total_sum]
    rfl

end Jm

set_option Elab.async false
set_option linter.all false
set_option maxRecDepth 100000
set_option maxHeartbeats 2000000
namespace L2
open PySem PySem.Spec PyProof.Rows
/-! patterns as data: == of two -/

/-! parts of patterns -/

theorem Paired.drop {α β : Type} {F : α → β → Prop} : ∀ {l : List α} {m : List β} (n : Nat), Paired F l m → Paired F (l.drop n) (m.drop n)
  | _, _, 0, r => r
  | _, _, _ + 1, .nil => .nil
  | _, _, n + 1, .cons _ t => Paired.drop n t

theorem cut_drop {xs : List V} {k : Nat} (hk : k ≤ xs.length) : cutV xs (some (k : Int)) none = xs.drop k := by
  unfold cutV
  rw [HT.sIx_none, HT.sIx_nat, Nat.min_eq_left hk]
  exact List.take_of_length_le (by rw [List.length_drop]; exact Nat.le_refl _)
/-! rules within a comprehension's block: the written part by its name -/
section
variable {X : Cx} {K : PySem.W.Frag}

end

theorem natsV_append (a b : List Nat) : natsV (a ++ b) = natsV a ++ natsV b := by
  unfold natsV
  rw [List.map_append]

end L2

set_option Elab.async false
set_option linter.all false
set_option maxRecDepth 100000
set_option maxHeartbeats 4000000
namespace JX
open PySem PySem.Spec PyProof.Rows
/-! max of a list, whatever its items: the comparison may read the heap; with or without a default -/

section
variable {prog : Program} {w : World} {A : Around}

end
end JX
namespace L2
open PySem PySem.Spec PyProof.Rows
section
variable {X : Cx}

end
end L2

/-! States: what is in the air, a beat from a state. -/
namespace Jm
open Jug

/-! a beat from a state -/

end Jm

set_option Elab.async false
set_option linter.all false
set_option maxRecDepth 100000
set_option maxHeartbeats 4000000
namespace JX
open PySem PySem.Spec PyProof.Rows
open PySem.AutoSeq1 (wpAny_loadPart')

end JX
namespace L2
open PySem PySem.Spec PyProof.Rows
section
variable {X : Cx}

end
end L2

set_option Elab.async false
set_option linter.all false
set_option maxRecDepth 100000
set_option maxHeartbeats 4000000
namespace JX
open PySem PySem.Spec PyProof.Rows
open PySem.SeqAt (EqAt)
open PySem.AutoSeq1 (wpAny_loadPart')
/-! a > b of lists, item by item -/

end JX
namespace L2
open PySem PySem.Spec PyProof.Rows

section
variable {X : Cx}

end
end L2

/-! Texts told; the form. -/
namespace Jm
open Jug

/-! the greatest turn -/

end Jm

set_option Elab.async false
set_option linter.all false
set_option maxRecDepth 100000
set_option maxHeartbeats 4000000
namespace L2
open PySem PySem.Spec PyProof.Rows
section
variable {X : Cx}

end
end L2

/-! Ways: rows of throws, layers of states. -/
namespace Jm
open Jug
/-! rows of throws, grown at their ends -/

/-! one layer -/

/-! what stays true -/

/-! a beat's step keeps the rows in order -/

/-! the search -/

end Jm

set_option Elab.async false
set_option linter.all false
set_option maxRecDepth 100000
set_option maxHeartbeats 2000000
namespace L2
open PySem PySem.Spec PyProof.Rows
/-! heaps where only dicts by tuples have changed -/

/-! states as keys -/

/-! a heap without one thing -/

/-! lists of ints as data -/

end L2

/-! What a way may be asked of. -/
namespace Jm
open Jug

end Jm

/-! As many balls are in the air as the heights say. -/
namespace Jm
open Jug
def sm {α : Type} (l : List α) (f : α → Nat) : Nat := (l.map f).sum
theorem sm_nil {α : Type} (f : α → Nat) : sm [] f = 0 := rfl
theorem sm_cons {α : Type} (a : α) (l : List α) (f : α → Nat) : sm (a :: l) f = f a + sm l f := by
  unfold sm
  rw [List.map_cons, List.sum_cons]
theorem sm_append {α : Type} (l m : List α) (f : α → Nat) : sm (l ++ m) f = sm l f + sm m f := by
  unfold sm
  rw [List.map_append, List.sum_append]
theorem sm_congr {α : Type} {l : List α} {f g : α → Nat} (h : ∀ a ∈ l, f a = g a) : sm l f = sm l g := by
  unfold sm
  rw [List.map_congr_left h]
theorem sm_zero {α : Type} : ∀ l : List α, sm l (fun _ => 0) = 0
  | [] => rfl
  | a :: r => by rw [sm_cons, sm_zero r]
theorem sm_one {α : Type} : ∀ l : List α, sm l (fun _ => 1) = l.length
  | [] => rfl
  | a :: r => by rw [sm_cons, sm_one r, List.length_cons]; omega
theorem sm_add {α : Type} (f g : α → Nat) : ∀ l : List α, sm l (fun a => f a + g a) = sm l f + sm l g
  | [] => rfl
  | a :: r => by
    rw [sm_cons, sm_cons, sm_cons, sm_add f g r]
    omega
theorem sm_mul {α : Type} (c : Nat) (f : α → Nat) : ∀ l : List α, sm l (fun a => c * f a) = c * sm l f
  | [] => rfl
  | a :: r => by
    rw [sm_cons, sm_cons, sm_mul c f r, Nat.mul_add]
theorem sm_swap {α β : Type} (f : α → β → Nat) (m : List β) : ∀ l : List α, sm l (fun a => sm m (f a)) = sm m fun b => sm l fun a => f a b
  | [] => by
    show 0 = sm m fun _ => 0
    rw [sm_zero]
  | a :: r => by
    rw [sm_cons, sm_swap f m r, ← sm_add]
    exact sm_congr fun b _ => (sm_cons a r fun a => f a b).symm
theorem sm_flat {α β : Type} (F : α → List β) (f : β → Nat) : ∀ l : List α, sm (l.flatMap F) f = sm l fun a => sm (F a) f
  | [] => rfl
  | a :: r => by rw [List.flatMap_cons, sm_append, sm_cons, sm_flat F f r]
theorem sm_map {α β : Type} (g : α → β) (f : β → Nat) (l : List α) : sm (l.map g) f = sm l fun a => f (g a) := by
  unfold sm
  rw [List.map_map]
  rfl
theorem sm_filter {α : Type} (p : α → Bool) (f : α → Nat) : ∀ l : List α, sm (l.filter p) f = sm l fun a => if p a = true then f a else 0
  | [] => rfl
  | a :: r => by
    rw [List.filter_cons, sm_cons, ← sm_filter p f r]
    by_cases h : p a = true
    · rw [if_pos h, if_pos h, sm_cons]
    · rw [if_neg h, if_neg h, Nat.zero_add]
theorem sm_range_succ (n : Nat) (f : Nat → Nat) : sm (List.range (n + 1)) f = sm (List.range n) f + f n := by
  rw [List.range_succ, sm_append, sm_cons, sm_nil, Nat.add_zero]
/-- one of a range -/
theorem sm_pick (c : Nat → Nat) : ∀ (n x : Nat), x < n → sm (List.range n) (fun k => if x = k then c k else 0) = c x
  | 0, x, h => absurd h (by omega)
  | n + 1, x, h => by
    rw [sm_range_succ]
    by_cases e : x = n
    · subst e
      rw [if_pos rfl]
      have : sm (List.range x) (fun k => if x = k then c k else 0) = 0 := by
        refine (sm_congr (g := fun _ => 0) fun k hk => ?_).trans (sm_zero _)
        have := List.mem_range.mp hk
        rw [if_neg (by omega)]
      omega
    · rw [if_neg e, sm_pick c n x (by omega)]
      omega
theorem count_sm (k : Nat) : ∀ ks : List Nat, ks.count k = sm ks fun x => if x = k then 1 else 0
  | [] => rfl
  | a :: r => by
    rw [List.count_cons, sm_cons, count_sm k r]
    by_cases h : a = k
    · rw [if_pos h, if_pos (by simpa using h)]
      omega
    · rw [if_neg h, if_neg (by simpa using h)]
      omega
theorem cnt_total {N : Nat} {ks : List Nat} (h : ∀ k ∈ ks, k < N) : (cnt N ks).sum = ks.length := by
  show sm (List.range N) (fun k => ks.count k) = _
  rw [sm_congr fun k _ => count_sm k ks, sm_swap, ← sm_one ks]
  exact sm_congr fun x hx => sm_pick (fun _ => 1) N x (h x hx)
/-- how often a walk from j comes by the period's begin in h beats -/
theorem comes (n j : Nat) (hn : 0 < n) (hj : j < n) : ∀ h, sm (List.range h) (fun a => if (j + (a + 1)) % n = 0 then 1 else 0) = (j + h) / n
  | 0 => by
    rw [Nat.add_zero, Nat.div_eq_of_lt hj]
    rfl
  | h + 1 => by
    rw [sm_range_succ, comes n j hn hj h]
    have e : j + (h + 1) = (j + h) + 1 := by omega
    rw [e, Nat.succ_div]
    by_cases hd : n ∣ j + h + 1
    · rw [if_pos hd, if_pos (Nat.mod_eq_zero_of_dvd hd)]
    · rw [if_neg hd, if_neg (fun z => hd (Nat.dvd_of_mod_eq_zero z))]
theorem back_iff {p : Pattern} (hn : 0 < p.length) {d j : Nat} (hd : d < 15) (hj : j < p.length) : backIx p 0 d = j ↔ (j + (d + 1)) % p.length = 0 := by
  unfold backIx
  show (0 + 16 * p.length - (d + 1)) % p.length = j ↔ _
  have h16 : d + 1 ≤ 16 * p.length := by omega
  constructor
  · intro h
    have h1 := Nat.div_add_mod (0 + 16 * p.length - (d + 1)) p.length
    rw [h] at h1
    have h2 : j + (d + 1) = p.length * (16 - (0 + 16 * p.length - (d + 1)) / p.length) := by
      have hle : (0 + 16 * p.length - (d + 1)) / p.length ≤ 16 := by
        rw [Nat.div_le_iff_le_mul_add_pred hn]
        omega
      rw [Nat.mul_sub]
      omega
    rw [h2, Nat.mul_mod_right]
  · intro h
    obtain ⟨c, hc⟩ := Nat.dvd_of_mod_eq_zero h
    have hc16 : c ≤ 16 := by
      rcases Nat.lt_or_ge 16 c with q | q
      · have : p.length * 17 ≤ p.length * c := Nat.mul_le_mul_left _ q
        omega
      · exact q
    have e : 0 + 16 * p.length - (d + 1) = j + p.length * (16 - c) := by
      rw [Nat.mul_sub]
      have : p.length * c ≤ p.length * 16 := Nat.mul_le_mul_left _ hc16
      omega
    rw [e, Nat.add_mul_mod_self_left, Nat.mod_eq_of_lt hj]
theorem range_cut (f : Nat → Nat) : ∀ (n h : Nat), h ≤ n → sm (List.range n) (fun d => if d + 1 ≤ h then f d else 0) = sm (List.range h) f
  | 0, h, hh => by
    have : h = 0 := by omega
    subst this
    rfl
  | n + 1, h, hh => by
    rw [sm_range_succ]
    by_cases e : h = n + 1
    · subst e
      rw [if_pos (by omega), sm_range_succ]
      congr 1
      exact sm_congr fun d hd => by
        have := List.mem_range.mp hd
        rw [if_pos (by omega)]
    · rw [if_neg (by omega), range_cut f n h (by omega)]
      omega
/-- what is in the air, throw by throw -/
theorem air_sum {p : Pattern} (hn : 0 < p.length) (hp : ∀ b ∈ p, ∀ h ∈ b, 1 ≤ h ∧ h ≤ 15) :
    (airAt p 0).sum = sm (List.range p.length) fun j => sm (p.getD j []) fun h => (j + h) / p.length := by
  have hgd : ∀ j, ∀ h ∈ p.getD j [], 1 ≤ h ∧ h ≤ 15 := fun j h hh => by
    by_cases hj : j < p.length
    · have e : p.getD j [] = p[j] := by simp [List.getD, hj]
      rw [e] at hh
      exact hp _ (List.getElem_mem hj) h hh
    · have e : p.getD j [] = [] := by simp [List.getD, hj]
      rw [e] at hh
      cases hh
  have hk : ∀ k ∈ airKs p 0 15, k < 15 := fun k hk => by
    unfold airKs at hk
    obtain ⟨d, hd, hk⟩ := List.mem_flatMap.mp hk
    obtain ⟨h, hh, rfl⟩ := List.mem_map.mp hk
    have := hgd _ h (List.mem_filter.mp hh).1
    omega
  rw [airAt_cnt, cnt_total hk, ← sm_one]
  unfold airKs
  rw [sm_flat]
  have step : ∀ d ∈ List.range 15, sm (((p.getD (backIx p 0 d) []).filter fun h => decide (d + 1 ≤ h)).map fun h => h - (d + 1)) (fun _ => 1) =
      sm (List.range p.length) fun j => sm (p.getD j []) fun h => if d + 1 ≤ h then (if (j + (d + 1)) % p.length = 0 then 1 else 0) else 0 := fun d hd => by
    have hd := List.mem_range.mp hd
    rw [sm_map, sm_filter]
    have h1 := sm_pick (fun j => sm (p.getD j []) fun h => if decide (d + 1 ≤ h) = true then 1 else 0) p.length (backIx p 0 d) (backIx_lt hn 0 d)
    rw [← h1]
    refine sm_congr fun j hj => ?_
    have hj := List.mem_range.mp hj
    have hb := back_iff (p := p) hn hd hj
    by_cases e : backIx p 0 d = j
    · rw [if_pos e]
      refine sm_congr fun h _ => ?_
      rw [if_pos (hb.mp e)]
      by_cases q : d + 1 ≤ h
      · rw [if_pos (decide_eq_true q), if_pos q]
      · rw [if_neg (by simpa using q), if_neg q]
    · rw [if_neg e]
      refine (sm_zero (p.getD j [])).symm.trans (sm_congr fun h _ => ?_)
      rw [if_neg (fun z => e (hb.mpr z))]
      split <;> rfl
  rw [sm_congr step, sm_swap]
  refine sm_congr fun j hj => ?_
  have hj := List.mem_range.mp hj
  rw [sm_swap]
  refine sm_congr fun h hh => ?_
  rw [range_cut (fun d => if (j + (d + 1)) % p.length = 0 then 1 else 0) 15 h (hgd j h hh).2, comes p.length j hn hj h]
/-- what lands, throw by throw -/
theorem land_sum {p : Pattern} (hn : 0 < p.length) (hc : clash p = none) : (sm (List.range p.length) fun j => sm (p.getD j []) fun h => (j + h) % p.length) = sm (List.range p.length) fun j => sm (p.getD j []) fun _ => j := by
  have h1 : (sm (List.range p.length) fun j => sm (p.getD j []) fun h => (j + h) % p.length) = sm (landKs p p.length) fun x => x := by
    unfold landKs
    rw [sm_flat]
    exact sm_congr fun j _ => (sm_map (fun h => (j + h) % p.length) (fun x => x) (p.getD j [])).symm
  have hlt : ∀ x ∈ landKs p p.length, x < p.length := fun x hx => by
    unfold landKs at hx
    obtain ⟨j, _, hx⟩ := List.mem_flatMap.mp hx
    obtain ⟨h, _, rfl⟩ := List.mem_map.mp hx
    exact Nat.mod_lt _ hn
  have h2 : sm (landKs p p.length) (fun x => x) = sm (List.range p.length) fun k => k * (landKs p p.length).count k := by
    have e : ∀ x ∈ landKs p p.length, x = sm (List.range p.length) fun k => if x = k then k else 0 := fun x hx => (sm_pick (fun k => k) p.length x (hlt x hx)).symm
    rw [sm_congr e, sm_swap]
    refine sm_congr fun k _ => ?_
    rw [count_sm, ← sm_mul]
    refine sm_congr fun x _ => ?_
    split <;> simp
  rw [h1, h2]
  refine sm_congr fun k hk => ?_
  have hk := List.mem_range.mp hk
  unfold clash at hc
  rw [List.find?_range_eq_none] at hc
  have := hc k hk
  have this : landing p k = (p.getD k []).length := by simpa using this
  rw [← landing_count, this, ← sm_one, ← sm_mul, Nat.mul_one]
theorem heights_sm (p : Pattern) : heights p = sm (List.range p.length) fun j => sm (p.getD j []) fun h => h := by
  rw [heights_flat]
  have e : (List.range p.length).map (fun j => p.getD j []) = p := by
    apply List.ext_getElem?
    intro i
    by_cases h : i < p.length
    · rw [List.getElem?_map, List.getElem?_range h]
      simp [List.getD, h]
    · rw [List.getElem?_eq_none (by simp; omega), List.getElem?_eq_none (by omega)]
  have f : ∀ q : Pattern, q.flatten.sum = sm q fun b => b.sum := fun q => by
    induction q with
    | nil => rfl
    | cons b r ih => rw [List.flatten_cons, List.sum_append, sm_cons, ih]
  rw [f]
  conv => lhs; rw [← e]
  rw [sm_map]
  refine sm_congr fun j _ => ?_
  unfold sm
  rw [List.map_id']
theorem balls_air {p : Pattern} (hn : 0 < p.length) (hp : ∀ b ∈ p, ∀ h ∈ b, 1 ≤ h ∧ h ≤ 15) (hc : clash p = none) : (airAt p 0).sum = balls p := by
  have h1 : (sm (List.range p.length) fun j => sm (p.getD j []) fun h => j + h) = p.length * (airAt p 0).sum + sm (List.range p.length) fun j => sm (p.getD j []) fun _ => j := by
    rw [air_sum hn hp, ← land_sum hn hc, ← sm_mul, ← sm_add]
    refine sm_congr fun j _ => ?_
    rw [← sm_mul, ← sm_add]
    refine sm_congr fun h _ => ?_
    exact (Nat.div_add_mod (j + h) p.length).symm
  have h2 : (sm (List.range p.length) fun j => sm (p.getD j []) fun h => j + h) = (sm (List.range p.length) fun j => sm (p.getD j []) fun _ => j) + heights p := by
    rw [heights_sm, ← sm_add]
    exact sm_congr fun j _ => sm_add (fun _ => j) (fun h => h) (p.getD j [])
  unfold balls
  have h3 : heights p = p.length * (airAt p 0).sum := by omega
  rw [h3, Nat.mul_div_cancel_left _ hn]
/-! joins -/

end Jm



/-! What is made of a right pattern is right: seen backwards, swapped. -/
namespace Jm
open Jug
theorem getD_mem {p : Pattern} {j : Nat} {h : Nat} (hh : h ∈ p.getD j []) : j < p.length ∧ p.getD j [] ∈ p := by
  by_cases hj : j < p.length
  · have e : p.getD j [] = p[j] := by simp [List.getD, hj]
    rw [e]
    exact ⟨hj, List.getElem_mem hj⟩
  · have e : p.getD j [] = [] := by simp [List.getD, hj]
    rw [e] at hh
    cases hh
theorem len_filter_sm {α : Type} (p : α → Bool) (l : List α) : (l.filter p).length = sm l fun a => if p a = true then 1 else 0 := by
  rw [← sm_one, sm_filter]
theorem landing_sm (p : Pattern) (t : Nat) : landing p t = sm (List.range p.length) fun s => sm (p.getD s []) fun h => if (s + h) % p.length = t then 1 else 0 := by
  rw [landing_count, count_sm]
  unfold landKs
  rw [sm_flat]
  exact sm_congr fun s _ => sm_map _ _ _
theorem clash_none {p : Pattern} : clash p = none ↔ ∀ t, t < p.length → landing p t = (p.getD t []).length := by
  unfold clash
  rw [List.find?_range_eq_none]
  constructor
  · intro h t ht
    simpa using h t ht
  · intro h t ht
    simpa using h t ht

/-! single throws: right just if no two land on one beat (a height of 0 stays where it is) -/

/-! swapped -/

end Jm

namespace Jm
open Jug
/-! Balls followed: each ball's beats till it lands. -/
/-- how many land k beats from beat t on, thrown before -/
def airN (p : Pattern) (t k : Nat) : Nat := sm (List.range 15) fun d => (p.getD (backIx p t d) []).count (k + d + 1)
theorem count_filter_len (b : List Nat) (x : Nat) : (b.filter fun h => h == x).length = b.count x := by
  rw [List.count, ← List.countP_eq_length_filter]
theorem airAt_map (p : Pattern) (t : Nat) : airAt p t = (List.range 15).map (airN p t) := by
  unfold airAt
  refine List.map_congr_left fun k _ => ?_
  rw [total_sum]
  unfold airN sm
  congr 1
  refine List.map_congr_left fun d _ => ?_
  exact count_filter_len _ _
def Low (p : Pattern) : Prop := ∀ b ∈ p, ∀ h ∈ b, 1 ≤ h ∧ h ≤ 15
theorem low_at {p : Pattern} (hp : Low p) {j h : Nat} (hh : h ∈ p.getD j []) : 1 ≤ h ∧ h ≤ 15 := hp _ (getD_mem hh).2 h hh
theorem airN_high {p : Pattern} (hp : Low p) {t k : Nat} (hk : 15 ≤ k) : airN p t k = 0 := by
  unfold airN
  refine (sm_congr (g := fun _ => 0) fun d _ => ?_).trans (sm_zero _)
  rw [List.count_eq_zero]
  intro hm
  have := (low_at hp hm).2
  omega
theorem airAt_get {p : Pattern} (hp : Low p) (t k : Nat) : (airAt p t).getD k 0 = airN p t k := by
  rw [airAt_map, List.getD]
  by_cases hk : k < 15
  · rw [List.getElem?_map, List.getElem?_range hk]
    rfl
  · rw [List.getElem?_eq_none (by simp; omega), airN_high hp (by omega)]
    rfl
theorem sm_range_shift (f : Nat → Nat) : ∀ n, sm (List.range (n + 1)) f = f 0 + sm (List.range n) fun d => f (d + 1)
  | 0 => by
    rw [sm_range_succ]
    show 0 + f 0 = f 0 + 0
    omega
  | n + 1 => by
    rw [sm_range_succ, sm_range_shift f n, sm_range_succ]
    omega
theorem backIx_zero {p : Pattern} (hn : 1 ≤ p.length) (t : Nat) : backIx p ((t + 1) % p.length) 0 = t % p.length := by
  have h := backIx_int (k := t + 1) (d := 0) hn (by omega)
  have e : ((t + 1 : Nat) : Int) - (1 + ((0 : Nat) : Int)) = (t : Int) := by omega
  rw [e] at h
  omega
theorem backIx_next {p : Pattern} (hn : 1 ≤ p.length) (t : Nat) {d : Nat} (hd : d + 1 < 15) : backIx p ((t + 1) % p.length) (d + 1) = backIx p (t % p.length) d := by
  have h := backIx_int (k := t + 1) (d := d + 1) hn hd
  have h2 := backIx_int (k := t) (d := d) hn (by omega)
  have e : ((t + 1 : Nat) : Int) - (1 + ((d + 1 : Nat) : Int)) = (t : Int) - (1 + (d : Int)) := by omega
  rw [e, h2] at h
  omega
/-- the state moves by one, and has one more for each throw -/
theorem airN_step {p : Pattern} (hn : 1 ≤ p.length) (hp : Low p) (t k : Nat) : airN p ((t + 1) % p.length) k = airN p (t % p.length) (k + 1) + (p.getD (t % p.length) []).count (k + 1) := by
  unfold airN
  rw [sm_range_shift _ 14, sm_range_succ 14 fun d => (p.getD (backIx p (t % p.length) d) []).count (k + 1 + d + 1), backIx_zero hn]
  have e1 : (p.getD (backIx p (t % p.length) 14) []).count (k + 1 + 14 + 1) = 0 := by
    rw [List.count_eq_zero]
    intro hm
    have := (low_at hp hm).2
    omega
  have e2 : (sm (List.range 14) fun d => (p.getD (backIx p ((t + 1) % p.length) (d + 1)) []).count (k + (d + 1) + 1)) = sm (List.range 14) fun d => (p.getD (backIx p (t % p.length) d) []).count (k + 1 + d + 1) := sm_congr fun d hd => by
    have hd := List.mem_range.mp hd
    rw [backIx_next hn t (by omega), show k + (d + 1) + 1 = k + 1 + d + 1 by omega]
  rw [e1, e2, Nat.add_zero, Nat.add_zero]
  omega
theorem backIx_iff {p : Pattern} (hn : 1 ≤ p.length) {t s h : Nat} (ht : t < p.length) (hs : s < p.length) (h1 : 1 ≤ h) (h15 : h ≤ 15) : backIx p t (h - 1) = s ↔ (s + h) % p.length = t := by
  have hb := backIx_int (k := t) (d := h - 1) hn (by omega)
  rw [Nat.mod_eq_of_lt ht, show ((t : Int) - (1 + ((h - 1 : Nat) : Int))) = (t : Int) - (h : Int) by omega] at hb
  constructor
  · intro e
    rw [e] at hb
    have : (((s + h) % p.length : Nat) : Int) = (t : Int) := by
      rw [Int.natCast_emod, Int.natCast_add, ← hb, Int.emod_add_emod, show (t : Int) - (h : Int) + (h : Int) = (t : Int) by omega]
      exact Int.emod_eq_of_lt (by omega) (by omega)
    omega
  · intro e
    have : ((backIx p t (h - 1) : Nat) : Int) = (s : Int) := by
      rw [← hb, ← e, Int.natCast_emod, Int.emod_sub_emod, Int.natCast_add, show (s : Int) + (h : Int) - (h : Int) = (s : Int) by omega]
      exact Int.emod_eq_of_lt (by omega) (by omega)
    omega
/-- of a right pattern as many land as are thrown -/
theorem airN_head {p : Pattern} (hn : 1 ≤ p.length) (hp : Low p) (hc : clash p = none) {t : Nat} (ht : t < p.length) : airN p t 0 = (p.getD t []).length := by
  rw [← clash_none.mp hc t ht, landing_sm]
  unfold airN
  have e1 : ∀ d ∈ List.range 15, (p.getD (backIx p t d) []).count (0 + d + 1) = sm (List.range p.length) fun s => sm (p.getD s []) fun h => if backIx p t d = s then (if h = d + 1 then 1 else 0) else 0 := fun d _ => by
    have e2 : ∀ s ∈ List.range p.length, (sm (p.getD s []) fun h => if backIx p t d = s then (if h = d + 1 then 1 else 0) else 0) = if backIx p t d = s then (p.getD s []).count (d + 1) else 0 := fun s _ => by
      by_cases e : backIx p t d = s
      · simp only [if_pos e]
        rw [count_sm]
      · simp only [if_neg e]
        exact sm_zero _
    rw [sm_congr e2, sm_pick (fun s => (p.getD s []).count (d + 1)) p.length _ (backIx_lt hn t d), Nat.zero_add]
  rw [sm_congr e1, sm_swap]
  refine sm_congr fun s hs => ?_
  have hs := List.mem_range.mp hs
  rw [sm_swap]
  refine sm_congr fun h hh => ?_
  obtain ⟨h1, h15⟩ := low_at hp hh
  have e3 : ∀ d ∈ List.range 15, (if backIx p t d = s then (if h = d + 1 then 1 else 0) else 0) = if h - 1 = d then (if backIx p t d = s then 1 else 0) else 0 := fun d _ => by
    by_cases q : h = d + 1
    · rw [if_pos q, if_pos (show h - 1 = d by omega)]
    · rw [if_neg q, if_neg (show ¬ h - 1 = d by omega)]
      split <;> rfl
  rw [sm_congr e3, sm_pick (fun d => if backIx p t d = s then 1 else 0) 15 (h - 1) (by omega)]
  have := backIx_iff hn ht hs h1 h15
  by_cases q : (s + h) % p.length = t
  · rw [if_pos q, if_pos (this.mpr q)]
  · rw [if_neg q, if_neg (fun z => q (this.mp z))]
/-! each ball's beats till it lands -/
def ballsL (W : List Nat) : List Ball := (List.range W.length).map fun i => (i, W.getD i 0)
/-- those that land now, by their numbers -/
def nowW (W : List Nat) : List Nat := (List.range W.length).filter fun i => W.getD i 0 == 0
def lookB (z : List Ball) (i : Nat) : Nat := ((z.find? fun x => x.1 == i).map Prod.snd).getD 0
def stepW (W : List Nat) (b : Beat) : List Nat := (List.range W.length).map fun i => if W.getD i 0 = 0 then lookB ((nowW W).zip b) i - 1 else W.getD i 0 - 1
theorem stepW_len (W : List Nat) (b : Beat) : (stepW W b).length = W.length := by unfold stepW; rw [List.length_map, List.length_range]
theorem nowW_nodup (W : List Nat) : (nowW W).Nodup := List.Pairwise.filter _ (List.nodup_range (n := W.length))
theorem mem_nowW {W : List Nat} {i : Nat} : i ∈ nowW W ↔ i < W.length ∧ W.getD i 0 = 0 := by
  unfold nowW
  rw [List.mem_filter, List.mem_range]
  simp
theorem thrown_out (W : List Nat) (b : Beat) : (thrown b (ballsL W)).1 = (nowW W).zip b := by
  unfold thrown ballsL
  dsimp only
  rw [List.filter_map, List.map_map]
  congr 1
  exact List.map_id _
theorem find_map_range {n i : Nat} (F : Nat → Nat) (q : Nat → Bool) (hi : i < n) : (((List.range n).filter q).map fun i => ((i, F i) : Ball)).find? (fun x => x.1 == i) = if q i = true then some (i, F i) else none := by
  rw [List.find?_map]
  have e : ((fun (x : Ball) => x.1 == i) ∘ fun i => ((i, F i) : Ball)) = fun j => j == i := rfl
  rw [e]
  by_cases hq : q i = true
  · rw [if_pos hq]
    have : ((List.range n).filter q).find? (fun j => j == i) = some i := by
      cases h : ((List.range n).filter q).find? (fun j => j == i) with
      | none =>
        rw [List.find?_eq_none] at h
        exact absurd (by simp) (h i (List.mem_filter.mpr ⟨List.mem_range.mpr hi, hq⟩))
      | some j =>
        have := List.find?_some h
        rw [beq_iff_eq.mp this]
    rw [this]
    rfl
  · rw [if_neg hq]
    have : ((List.range n).filter q).find? (fun j => j == i) = none := by
      rw [List.find?_eq_none]
      intro j hj e
      rw [beq_iff_eq.mp e] at hj
      exact hq (List.mem_filter.mp hj).2
    rw [this]
    rfl
theorem find_zip : ∀ {l : List Nat} {b : List Nat} {i : Nat}, l.length ≤ b.length → i ∈ l → ∃ h, (l.zip b).find? (fun x => x.1 == i) = some (i, h)
  | [], _, _, _, h => by cases h
  | a :: l, [], _, h, _ => by simp at h
  | a :: l, c :: b, i, h, hi => by
    rw [List.zip_cons_cons, List.find?_cons]
    by_cases e : a = i
    · subst e
      exact ⟨c, by simp⟩
    · have e2 : (a == i) = false := beq_eq_false_iff_ne.mpr e
      dsimp only
      rw [e2]
      refine find_zip (by simpa using h) ?_
      rcases List.mem_cons.mp hi with q | q
      · exact absurd q.symm e
      · exact q
theorem thrown_then {W : List Nat} {b : Beat} (hl : (nowW W).length ≤ b.length) : byNumber (thrown b (ballsL W)).2 W.length = ballsL (stepW W b) := by
  have e0 : (thrown b (ballsL W)).2 = (((List.range W.length).filter fun i => W.getD i 0 != 0).map fun i => ((i, W.getD i 0 - 1) : Ball)) ++ ((nowW W).zip b).map fun x => (x.1, x.2 - 1) := by
    have h1 := thrown_out W b
    unfold thrown at h1 ⊢
    dsimp only at h1 ⊢
    rw [h1]
    congr 1
    unfold ballsL
    rw [List.filter_map, List.map_map]
    rfl
  rw [e0]
  unfold byNumber
  have e1 : ∀ i ∈ List.range W.length, ((((List.range W.length).filter fun i => W.getD i 0 != 0).map fun i => ((i, W.getD i 0 - 1) : Ball)) ++ ((nowW W).zip b).map fun (x : Ball) => ((x.1, x.2 - 1) : Ball)).find? (fun x => x.1 == i) = some (i, if W.getD i 0 = 0 then lookB ((nowW W).zip b) i - 1 else W.getD i 0 - 1) := fun i hi => by
    have hi := List.mem_range.mp hi
    rw [List.find?_append, find_map_range (fun i => W.getD i 0 - 1) (fun i => W.getD i 0 != 0) hi]
    by_cases e : W.getD i 0 = 0
    · rw [if_neg (by rw [e]; simp), if_pos e, Option.none_or, List.find?_map]
      obtain ⟨h, hh⟩ := find_zip hl (mem_nowW.mpr ⟨hi, e⟩)
      have e2 : ((fun (x : Ball) => x.1 == i) ∘ fun (x : Ball) => ((x.1, x.2 - 1) : Ball)) = fun x => x.1 == i := rfl
      rw [e2]
      unfold lookB
      rw [hh]
      rfl
    · rw [if_pos (by simpa using e), if_neg e]
      rfl
  have e3 : ∀ (l : List Nat) (F : Nat → Option Ball) (G : Nat → Ball), (∀ i ∈ l, F i = some (G i)) → l.filterMap F = l.map G := fun l F G h => by
    induction l with
    | nil => rfl
    | cons a r ih =>
      rw [List.filterMap_cons, h a List.mem_cons_self, List.map_cons, ih fun i hi => h i (List.mem_cons_of_mem _ hi)]
  rw [e3 _ _ _ e1]
  unfold ballsL
  rw [stepW_len]
  refine List.map_congr_left fun i hi => ?_
  have hi := List.mem_range.mp hi
  have e4 : (stepW W b).getD i 0 = if W.getD i 0 = 0 then lookB ((nowW W).zip b) i - 1 else W.getD i 0 - 1 := by
    unfold stepW
    rw [List.getD, List.getElem?_map, List.getElem?_range hi]
    rfl
  rw [e4]
/-- the run, ball by ball -/
def runW (p : Pattern) : Nat → Nat → List Nat → List (List Ball)
  | 0, _, _ => []
  | f + 1, t, W => (nowW W).zip (p.getD (t % p.length) []) :: runW p f (t + 1) (stepW W (p.getD (t % p.length) []))
/-- before beat t: as many land each beat as the state tells -/
structure WOk (p : Pattern) (t : Nat) (W : List Nat) : Prop where
  low : ∀ w ∈ W, w < 15
  cnt : ∀ k, W.count k = airN p (t % p.length) k
theorem count_range (W : List Nat) (k : Nat) : W.count k = sm (List.range W.length) fun i => if W.getD i 0 = k then 1 else 0 := by
  rw [count_sm]
  have e : (List.range W.length).map (fun i => W.getD i 0) = W := by
    apply List.ext_getElem?
    intro i
    by_cases h : i < W.length
    · rw [List.getElem?_map, List.getElem?_range h]
      simp [List.getD, h]
    · rw [List.getElem?_eq_none (by simp; omega), List.getElem?_eq_none (by omega)]
  conv => lhs; rw [← e]
  rw [sm_map]
theorem nowW_len (W : List Nat) : (nowW W).length = W.count 0 := by
  rw [count_range]
  unfold nowW
  rw [len_filter_sm]
  refine sm_congr fun i _ => ?_
  by_cases e : W.getD i 0 = 0
  · rw [if_pos e, if_pos (by rw [e]; rfl)]
  · rw [if_neg e, if_neg (by simpa using e)]
theorem look_map : ∀ {l b : List Nat}, l.Nodup → l.length = b.length → l.map (lookB (l.zip b)) = b
  | [], [], _, _ => rfl
  | [], _ :: _, _, h => by cases h
  | _ :: _, [], _, h => by cases h
  | a :: l, c :: b, hn, h => by
    rw [List.nodup_cons] at hn
    rw [List.map_cons, List.zip_cons_cons]
    have e1 : lookB ((a, c) :: l.zip b) a = c := by
      unfold lookB
      rw [List.find?_cons]
      simp
    have e2 : l.map (lookB ((a, c) :: l.zip b)) = l.map (lookB (l.zip b)) := List.map_congr_left fun i hi => by
      unfold lookB
      rw [List.find?_cons]
      have : (a == i) = false := beq_eq_false_iff_ne.mpr fun e => hn.1 (e ▸ hi)
      dsimp only
      rw [this]
    rw [e1, e2, look_map hn.2 (by simpa using h)]
theorem step_count {W : List Nat} {b : Beat} (hl : (nowW W).length = b.length) (hb : ∀ h ∈ b, 1 ≤ h) (k : Nat) : (stepW W b).count k = W.count (k + 1) + b.count (k + 1) := by
  rw [count_sm, count_range W (k + 1)]
  unfold stepW
  rw [sm_map]
  have e1 : (sm (nowW W) fun i => if lookB ((nowW W).zip b) i = k + 1 then 1 else 0) = b.count (k + 1) := by
    rw [count_sm]
    conv => rhs; rw [← look_map (nowW_nodup W) hl]
    rw [sm_map]
  rw [← e1]
  have e2 : (sm (nowW W) fun i => if lookB ((nowW W).zip b) i = k + 1 then 1 else 0) = sm (List.range W.length) fun i => if W.getD i 0 = 0 then (if lookB ((nowW W).zip b) i = k + 1 then 1 else 0) else 0 := by
    conv => lhs; unfold nowW
    rw [sm_filter]
    refine sm_congr fun i _ => ?_
    by_cases e : W.getD i 0 = 0
    · rw [if_pos e, if_pos (by rw [e]; rfl)]
      rfl
    · rw [if_neg e, if_neg (by simpa using e)]
  rw [e2, ← sm_add]
  refine sm_congr fun i hi => ?_
  have hi := List.mem_range.mp hi
  by_cases e : W.getD i 0 = 0
  · rw [if_pos e, if_pos e, e, if_neg (show ¬ 0 = k + 1 by omega), Nat.zero_add]
    have hm : i ∈ nowW W := mem_nowW.mpr ⟨hi, e⟩
    have h1 : 1 ≤ lookB ((nowW W).zip b) i := by
      have : lookB ((nowW W).zip b) i ∈ b := by
        rw [← look_map (nowW_nodup W) hl]
        refine List.mem_map.mpr ⟨i, hm, ?_⟩
        rw [look_map (nowW_nodup W) hl]
      exact hb _ this
    by_cases q : lookB ((nowW W).zip b) i = k + 1
    · rw [if_pos q, if_pos (by omega)]
    · rw [if_neg q, if_neg (by omega)]
  · rw [if_neg e, if_neg e, Nat.add_zero]
    by_cases q : W.getD i 0 = k + 1
    · rw [if_pos q, if_pos (by omega)]
    · rw [if_neg q, if_neg (by omega)]
theorem WOk.now {p : Pattern} {t : Nat} {W : List Nat} (hn : 1 ≤ p.length) (hp : Low p) (hc : clash p = none) (h : WOk p t W) : (nowW W).length = (p.getD (t % p.length) []).length := by
  rw [nowW_len, h.cnt 0, airN_head hn hp hc (Nat.mod_lt _ hn)]
theorem WOk.next {p : Pattern} {t : Nat} {W : List Nat} (hn : 1 ≤ p.length) (hp : Low p) (hc : clash p = none) (h : WOk p t W) : WOk p (t + 1) (stepW W (p.getD (t % p.length) [])) := by
  have hl := h.now hn hp hc
  have hcnt : ∀ k, (stepW W (p.getD (t % p.length) [])).count k = airN p ((t + 1) % p.length) k := fun k => by
    rw [step_count hl (fun x hx => (low_at hp hx).1), h.cnt (k + 1), airN_step hn hp]
  refine ⟨fun w hw => ?_, hcnt⟩
  rcases Nat.lt_or_ge w 15 with q | q
  · exact q
  · have h1 := hcnt w
    rw [airN_high hp q] at h1
    exact absurd hw (List.count_eq_zero.mp h1)
theorem runFrom_W {p : Pattern} (hn : 1 ≤ p.length) (hp : Low p) (hc : clash p = none) : ∀ (f t : Nat) (W : List Nat), WOk p t W → runFrom p W.length f t (ballsL W) = runW p f t W
  | 0, _, _, _ => rfl
  | f + 1, t, W, h => by
    have hl := h.now hn hp hc
    show (thrown (p.getD (t % p.length) []) (ballsL W)).1 :: runFrom p W.length f (t + 1) (byNumber (thrown (p.getD (t % p.length) []) (ballsL W)).2 W.length) = _
    rw [thrown_out, thrown_then (by omega)]
    have := runFrom_W hn hp hc f (t + 1) _ (h.next hn hp hc)
    rw [stepW_len] at this
    rw [this]
    rfl
/-- the balls of a state, numbered as they land -/
def startW : Nat → List Nat → List Nat
  | _, [] => []
  | k, m :: r => List.replicate m k ++ startW (k + 1) r
theorem startW_count : ∀ (s : List Nat) (k j : Nat), (startW k s).count j = if k ≤ j then s.getD (j - k) 0 else 0
  | [], k, j => by
    unfold startW
    split <;> simp
  | m :: r, k, j => by
    unfold startW
    rw [List.count_append, startW_count r (k + 1) j, List.count_replicate]
    by_cases e : k = j
    · subst e
      rw [if_pos (by simp), if_neg (by omega), if_pos (Nat.le_refl _), Nat.sub_self]
      rfl
    · rw [if_neg (by simpa using e)]
      by_cases q : k ≤ j
      · rw [if_pos q, if_pos (by omega), Nat.zero_add]
        obtain ⟨d, rfl⟩ : ∃ d, j = k + 1 + d := ⟨j - (k + 1), by omega⟩
        rw [show k + 1 + d - (k + 1) = d by omega, show k + 1 + d - k = d + 1 by omega]
        rfl
      · rw [if_neg q, if_neg (by omega)]
theorem ballsFrom_eq : ∀ (s : List Nat) (n k : Nat), ballsFrom n k s = ((startW k s).zipIdx n).map fun (x : Nat × Nat) => ((x.2, x.1) : Ball)
  | [], n, k => rfl
  | m :: r, n, k => by
    unfold ballsFrom startW
    rw [List.zipIdx_append, List.map_append, ballsFrom_eq r (n + m) (k + 1), List.length_replicate]
    congr 1
    apply List.ext_getElem?
    intro i
    rw [List.getElem?_map, List.getElem?_map, List.getElem?_zipIdx, List.getElem?_replicate]
    by_cases h : i < m
    · rw [List.getElem?_range h, if_pos h]
      rfl
    · rw [List.getElem?_eq_none (by simp; omega), if_neg h]
      rfl
theorem zip_balls (W : List Nat) : (W.zipIdx.map fun x => ((x.2, x.1) : Ball)) = ballsL W := by
  unfold ballsL
  apply List.ext_getElem?
  intro i
  rw [List.getElem?_map, List.getElem?_map, List.getElem?_zipIdx]
  by_cases h : i < W.length
  · rw [List.getElem?_range h, List.getElem?_eq_getElem h]
    simp [List.getD, h]
  · rw [List.getElem?_eq_none (show W.length ≤ i by omega), List.getElem?_eq_none (by simp; omega)]
    rfl
theorem startW_len (s : List Nat) : ∀ k, (startW k s).length = s.sum := by
  induction s with
  | nil => intro k; rfl
  | cons m r ih =>
    intro k
    unfold startW
    rw [List.length_append, List.length_replicate, ih, List.sum_cons]
theorem start_ok {p : Pattern} (hn : 1 ≤ p.length) (hp : Low p) : WOk p 0 (startW 0 (airAt p 0)) := by
  have hcnt : ∀ k, (startW 0 (airAt p 0)).count k = airN p (0 % p.length) k := fun k => by
    rw [startW_count, if_pos (Nat.zero_le _), Nat.sub_zero, airAt_get hp, Nat.zero_mod]
  refine ⟨fun w hw => ?_, hcnt⟩
  rcases Nat.lt_or_ge w 15 with q | q
  · exact q
  · have h1 := hcnt w
    rw [airN_high hp q] at h1
    exact absurd hw (List.count_eq_zero.mp h1)
/-- what the call runs tells, ball by ball -/
theorem runs_W {p : Pattern} (hn : 1 ≤ p.length) (hp : Low p) (hc : clash p = none) (a n : Nat) : Jug.runs p a n = (runW p (a + n) 0 (startW 0 (airAt p 0))).drop a := by
  unfold Jug.runs
  have e1 : balls p = (startW 0 (airAt p 0)).length := by rw [startW_len, balls_air hn hp hc]
  have e2 : ballsFrom 0 0 (airAt p 0) = ballsL (startW 0 (airAt p 0)) := by rw [ballsFrom_eq, ← zip_balls]
  rw [e1, e2, runFrom_W hn hp hc _ _ _ (start_ok hn hp)]
/-! different states -/

end Jm

set_option Elab.async false
set_option linter.all false
set_option maxRecDepth 100000
set_option maxHeartbeats 2000000
namespace Jm
open Jug
/-! Who lands when, as lists of balls. -/
def whoL (W : List Nat) (j : Nat) : List Nat := (List.range W.length).filter fun i => W.getD i 0 == j
theorem whoL_now (W : List Nat) : whoL W 0 = nowW W := rfl
theorem mem_whoL {W : List Nat} {i j : Nat} : i ∈ whoL W j ↔ i < W.length ∧ W.getD i 0 = j := by
  unfold whoL
  rw [List.mem_filter, List.mem_range, beq_iff_eq]
theorem whoL_nodup (W : List Nat) (j : Nat) : (whoL W j).Nodup := List.Pairwise.filter _ (List.nodup_range (n := W.length))
theorem whoL_sorted (W : List Nat) (j : Nat) : (whoL W j).Pairwise (· < ·) := List.Pairwise.filter _ (List.pairwise_lt_range (n := W.length))
theorem zip_look {l b : List Nat} (hn : l.Nodup) (hl : l.length = b.length) {i h : Nat} (hm : (i, h) ∈ l.zip b) : lookB (l.zip b) i = h := by
  obtain ⟨q, hq⟩ := List.getElem?_of_mem hm
  rw [List.getElem?_zip_eq_some] at hq
  have := look_map hn hl
  have e : (l.map (lookB (l.zip b)))[q]? = some (lookB (l.zip b) i) := by rw [List.getElem?_map, hq.1]; rfl
  rw [this, hq.2] at e
  exact (Option.some.inj e).symm
theorem look_zip {l b : List Nat} (hl : l.length = b.length) {i : Nat} (hi : i ∈ l) : (i, lookB (l.zip b) i) ∈ l.zip b := by
  obtain ⟨h, hh⟩ := find_zip (Nat.le_of_eq hl) hi
  have e : lookB (l.zip b) i = h := by
    unfold lookB
    rw [hh]
    rfl
  rw [e]
  exact List.mem_of_find?_eq_some hh
theorem stepW_get {W : List Nat} {b : Beat} {i : Nat} (hi : i < W.length) : (stepW W b).getD i 0 = if W.getD i 0 = 0 then lookB ((nowW W).zip b) i - 1 else W.getD i 0 - 1 := by
  unfold stepW
  rw [List.getD, List.getElem?_map, List.getElem?_range hi]
  rfl
theorem who_step {W : List Nat} {b : Beat} (hl : (nowW W).length = b.length) (hb : ∀ h ∈ b, 1 ≤ h) (k : Nat) :
    (whoL W (k + 1) ++ (((nowW W).zip b).filter fun y => y.2 == k + 1).map Prod.fst).Perm (whoL (stepW W b) k) := by
  have hsub : (((nowW W).zip b).filter fun y => y.2 == k + 1).map Prod.fst |>.Sublist (nowW W) := by
    have h1 := (List.filter_sublist (p := fun (y : Nat × Nat) => y.2 == k + 1) (l := (nowW W).zip b)).map Prod.fst
    rw [List.map_fst_zip (Nat.le_of_eq hl)] at h1
    exact h1
  refine (List.perm_ext_iff_of_nodup ?_ (whoL_nodup _ _)).mpr fun i => ?_
  · refine List.nodup_append.mpr ⟨whoL_nodup _ _, (nowW_nodup W).sublist hsub, fun x hx y hy e => ?_⟩
    have h1 := (mem_whoL.mp hx).2
    have h2 := (mem_nowW.mp (hsub.subset hy)).2
    rw [e] at h1
    omega
  · rw [List.mem_append, mem_whoL, mem_whoL, List.mem_map, stepW_len]
    constructor
    · rintro (⟨h1, h2⟩ | ⟨⟨i', h⟩, hm, rfl⟩)
      · refine ⟨h1, ?_⟩
        rw [stepW_get h1, if_neg (by omega)]
        omega
      · obtain ⟨hz, hk⟩ := List.mem_filter.mp hm
        have hk : h = k + 1 := beq_iff_eq.mp hk
        have hin := (List.of_mem_zip hz).1
        obtain ⟨h1, h2⟩ := mem_nowW.mp hin
        refine ⟨h1, ?_⟩
        show (stepW W b).getD i' 0 = k
        rw [stepW_get h1, if_pos h2, zip_look (nowW_nodup W) hl hz]
        omega
    · rintro ⟨h1, h2⟩
      rw [stepW_get h1] at h2
      by_cases e : W.getD i 0 = 0
      · rw [if_pos e] at h2
        have hin := mem_nowW.mpr ⟨h1, e⟩
        have hz := look_zip hl hin
        have hge := hb _ (List.of_mem_zip hz).2
        exact .inr ⟨_, List.mem_filter.mpr ⟨hz, by rw [beq_iff_eq]; show lookB _ i = k + 1; omega⟩, rfl⟩
      · rw [if_neg e] at h2
        exact .inl ⟨h1, by omega⟩
theorem whoL_zip (W : List Nat) (j : Nat) : whoL W j = (W.zipIdx.filter fun x => x.1 == j).map Prod.snd := by
  have e : W.zipIdx = (List.range W.length).map fun i => (W.getD i 0, i) := by
    apply List.ext_getElem?
    intro i
    rw [List.getElem?_zipIdx, List.getElem?_map]
    by_cases h : i < W.length
    · rw [List.getElem?_range h, List.getElem?_eq_getElem h]
      simp [List.getD, h]
    · rw [List.getElem?_eq_none (show W.length ≤ i by omega), List.getElem?_eq_none (by simp; omega)]
      rfl
  rw [e, List.filter_map, List.map_map]
  unfold whoL
  conv => lhs; rw [← List.map_id ((List.range W.length).filter _)]
  rfl
theorem rep_zip (m k n0 j : Nat) : (((List.replicate m k).zipIdx n0).filter fun x => x.1 == j).map Prod.snd = if k = j then List.range' n0 m else [] := by
  induction m generalizing n0 with
  | zero => split <;> rfl
  | succ m ih =>
    rw [List.replicate_succ, List.zipIdx_cons, List.filter_cons]
    by_cases e : k = j
    · rw [if_pos (by rw [beq_iff_eq]; exact e), List.map_cons, ih, if_pos e, if_pos e, List.range'_succ]
    · rw [if_neg (by rw [beq_iff_eq]; exact e), ih, if_neg e, if_neg e]
theorem start_who : ∀ (s : List Nat) (n0 k j : Nat), (((startW k s).zipIdx n0).filter fun x => x.1 == j).map Prod.snd = if k ≤ j then List.range' (n0 + (s.take (j - k)).sum) (s.getD (j - k) 0) else []
  | [], n0, k, j => by
    unfold startW
    split <;> simp
  | m :: r, n0, k, j => by
    unfold startW
    rw [List.zipIdx_append, List.filter_append, List.map_append, rep_zip, List.length_replicate, start_who r (n0 + m) (k + 1) j]
    by_cases e : k = j
    · subst e
      rw [if_pos rfl, if_neg (by omega), if_pos (Nat.le_refl _), Nat.sub_self, List.append_nil]
      rfl
    · rw [if_neg e, List.nil_append]
      by_cases q : k ≤ j
      · rw [if_pos q, if_pos (by omega)]
        obtain ⟨d, rfl⟩ : ∃ d, j = k + 1 + d := ⟨j - (k + 1), by omega⟩
        rw [show k + 1 + d - (k + 1) = d by omega, show k + 1 + d - k = d + 1 by omega, List.take_succ_cons, List.sum_cons, Nat.add_assoc]
        rfl
      · rw [if_neg q, if_neg (by omega)]
theorem whoL_start (s : List Nat) (j : Nat) : whoL (startW 0 s) j = List.range' ((s.take j).sum) (s.getD j 0) := by
  rw [whoL_zip, start_who, if_pos (Nat.zero_le _), Nat.sub_zero, Nat.zero_add]
theorem air_len15 (p : Pattern) (t : Nat) : (airAt p t).length = 15 := by rw [airAt_map, List.length_map, List.length_range]
theorem runW_len (p : Pattern) : ∀ (f t : Nat) (W : List Nat), (runW p f t W).length = f
  | 0, _, _ => rfl
  | f + 1, t, W => by
    unfold runW
    rw [List.length_cons, runW_len]
/-- the waits before beat t -/
def waits (p : Pattern) : Nat → List Nat
  | 0 => startW 0 (airAt p 0)
  | t + 1 => stepW (waits p t) (p.getD (t % p.length) [])
theorem runW_waits (p : Pattern) : ∀ (f t : Nat), runW p f t (waits p t) = (List.range' t f).map fun t => (nowW (waits p t)).zip (p.getD (t % p.length) [])
  | 0, _ => rfl
  | f + 1, t => by
    unfold runW
    rw [List.range'_succ, List.map_cons, ← runW_waits p f (t + 1)]
    rfl
theorem waits_ok {p : Pattern} (hn : 1 ≤ p.length) (hp : Low p) (hc : clash p = none) : ∀ t, WOk p t (waits p t)
  | 0 => start_ok hn hp
  | t + 1 => (waits_ok hn hp hc t).next hn hp hc
theorem run_take (p : Pattern) (m : Nat) : runW p m 0 (startW 0 (airAt p 0)) = (List.range m).map fun t => (nowW (waits p t)).zip (p.getD (t % p.length) []) := by
  rw [show startW 0 (airAt p 0) = waits p 0 from rfl, runW_waits, List.range_eq_range']
end Jm

set_option Elab.async false
set_option linter.all false
set_option maxRecDepth 100000
set_option maxHeartbeats 2000000
namespace L2
open PySem PySem.Spec PyProof.Rows
/-! list(range(..)), list(zip(..)) -/
section
variable {X : Cx}
/-- what the call T(e) tells, e a thing that is walked on the spot -/
def PWk (X : Cx) (T : Value) (e : Expr) (t : TE) : Prop := ∀ (pins : List (Addr × Obj)) (s : Shared) (σ : St) (H : Hp) (Q : VK), Inv X pins σ H s → t σ H Q →
  wpAny (model X.prog X.w) X.A (eval e X.env) (fun u s1 => wpAny (model X.prog X.w) X.A (call T [u]) (EP X pins σ Q) X.xe s1) X.xe s
theorem pe_ofK {T : String} {x : Str} {e : Expr} {t : TE} {p pos : Pos} (hk : PWk X (.type T) e t) (hg : Gl X x) (hm : X.mg x = none) (hv : bootBuiltins x = some (.type T)) (hn : x ≠ "__name__" := by decide) (hdb : (x == ("__debug__" : Str)) = false := by decide)
    (he : starEach [e] X.env = (false, eval e X.env) :: starEach [] X.env := by rfl) : PE X (.Call (.Name x p) [e] [] pos) t := by
  intro pins s σ H Q I h
  refine wpAny_Call_Name_kw (ld_blt I hg hm hv ?_ hn hdb)
  refine PyProof.Rows.callWith_type1 ?_ he rfl
  rw [he]
  show wpAny _ _ (spliced ((false, eval e X.env) :: backTo pos (starEach [] X.env))) _ _ s
  exact Calls.spliced_cons (thn (hk pins s σ H Q I h) fun u s1 q => Calls.spliced_nil q)
theorem vals_get : ∀ {ys : List V} {its : List Value}, ys.length = its.length → (∀ (j : Nat) y u, ys[j]? = some y → its[j]? = some u → RelV y u) → Vals ys its
  | [], [], _, _ => .nil
  | [], _ :: _, h, _ => by cases h
  | _ :: _, [], h, _ => by cases h
  | y :: ys, u :: its, h, k => .cons (k 0 y u rfl rfl) (vals_get (by simpa using h) fun j y' u' a b => k (j + 1) y' u' a b)
theorem list_rng {pins : List (Addr × Obj)} {σ : St} {H : Hp} {s : Shared} {Q : VK} {lo hi : Int} {t u v : Tok} {tk : Nat} (hc : X.calm = true) (I : Inv X pins σ H s) (h0 : 0 ≤ lo) (hle : lo ≤ hi) (hs : hi ≤ 16777216)
    (q : ∀ l, H l = none → Q (.ref l) (upd H l (.lst ((List.range (hi - lo).toNat).map fun (i : Nat) => V.int (lo + (i : Int)))))) :
    wpAny (model X.prog X.w) X.A (call (.type "list") [.ref s.heap.objs.size]) (EP X pins σ Q) X.xe { s with heap := s.heap.push { cls := .type "range", data := .fields #[.int lo t, .int hi u, .int 1 v] }, toks := tk } := by
  have I1 : Inv X pins σ H { s with heap := s.heap.push { cls := .type "range", data := .fields #[.int lo t, .int hi u, .int 1 v] }, toks := tk } := I.kept fun b o e => Heap.get?_push_of_some _ e
  refine call_list_range (n := (hi - lo).toNat) (I.ok.hd hc) (IsRange.new ..) (small_one (by omega) (by omega) (by omega) (by omega)) (by rw [rangeSize_one]; split <;> omega) (by show _ ≤ 16777216; omega) fun h' tk' acc' c' hk hS' hacc => ?_
  refine ⟨.ref _, upd H _ (.lst _), I1.laid (t' := tk') hk (Nat.le_refl _) ⟨?_, acc'.toList, c', vals_get ?_ ?_, ?_⟩, rfl, q _ (I1.hok.fresh (Nat.le_refl _))⟩
  · rw [List.length_map, List.length_range, sizeLine_eq]
    omega
  · rw [List.length_map, List.length_range, Array.length_toList, hacc.1]
  · intro j y w hy hw
    rw [List.getElem?_map] at hy
    rw [Array.getElem?_toList] at hw
    obtain ⟨t', rfl⟩ := hacc.2 j w hw
    cases e : (List.range (hi - lo).toNat)[j]? with
    | none => rw [e] at hy; cases hy
    | some j' =>
      rw [e] at hy
      have ej : j' = j := by
        have := List.getElem?_eq_some_iff.mp e
        obtain ⟨h1, h2⟩ := this
        rw [List.getElem_range] at h2
        exact h2.symm
      subst ej
      cases hy
      exact ⟨t', by rw [Int.mul_one]⟩
  · simpa using hS'

def tLR2 (ta : TA) : TE := fun σ H Q => ta σ H fun vs H1 => ∃ a n : Nat, vs = [.int (a : Nat), .int ((a + n : Nat) : Int)] ∧ a + n ≤ 16777216 ∧ ∀ l, H1 l = none → Q (.ref l) (upd H1 l (.lst (natsV (List.range' a n))))

theorem pk_range2 {a b : Expr} {ta : TA} {p pos : Pos} (hc : X.calm = true) (hg : Gl X "range") (hm : X.mg "range" = none) (ha : PA X [a, b] ta) (hs : starEach [a, b] X.env = [(false, eval a X.env), (false, eval b X.env)] := by rfl) (hs2 : starEach [b] X.env = [(false, eval b X.env)] := by rfl) :
    PWk X (.type "list") (.Call (.Name "range" p) [a, b] [] pos) (tLR2 ta) := by
  intro pins s σ H Q I h
  refine Call_ (ld_blt I hg hm boot_range (PyProof.Rows.callWith_type1 (thn (ha pos pins s σ H _ I h) fun us s1 ⟨vs, H1, I1, r1, q1⟩ => ?_) (by rw [hs, hs2]) (by rw [hs2]; rfl)))
  obtain ⟨m, n, e, hn, q⟩ := q1
  subst e
  cases r1 with
  | cons r rr =>
    cases rr with
    | cons r' rr =>
      cases rr
      obtain ⟨t, rfl⟩ := r
      obtain ⟨t', rfl⟩ := r'
      refine call_range_2 (list_rng hc I1 (by omega) (by omega) (by omega) fun l hl => ?_)
      have e : ((List.range (((m + n : Nat) : Int) - ((m : Nat) : Int)).toNat).map fun (i : Nat) => V.int (((m : Nat) : Int) + (i : Int))) = natsV (List.range' m n) := by
        unfold natsV
        rw [show (((m + n : Nat) : Int) - ((m : Nat) : Int)).toNat = n by omega, List.range'_eq_map_range, List.map_map]
        exact List.map_congr_left fun i _ => by
          show V.int (((m : Nat) : Int) + (i : Int)) = V.int (((m + i : Nat)) : Int)
          rw [Int.natCast_add]
      rw [e]
      exact q l hl
end
end L2

set_option Elab.async false
set_option maxRecDepth 100000
set_option maxHeartbeats 2000000
namespace L2
open PySem PySem.Spec PyProof.Rows
theorem zip_no_len : typeLookup (.type "zip") "__len__" = pure none := by rw [typeLookup_type, builtinLookup_eq_fast]; kernel_rfl
theorem zip_no_hint : typeLookup (.type "zip") "__length_hint__" = pure none := by rw [typeLookup_type, builtinLookup_eq_fast]; kernel_rfl
abbrev IsZipB (h : Heap) (z TI TO T : Addr) (b : Bool) : Prop :=
  h.get? z = some { cls := .type "zip", dict := none, data := .fields #[rawInt T, .bool b, .bool false, .ref TI, .ref TO], slots := #[] }
section
variable {prog : Program} {w : World} {A : Around} {E : Value → Shared → Prop} {s : Shared}
theorem wpAny_alive {a : Addr} {Q : Option Obj → Shared → Prop} (h : Q (s.heap.get? a) s) : wpAny (model prog w) A (loadIfAlive a) Q E s := by
  intro Γ p hΓ
  unfold loadIfAlive
  rw [Sem.wp_loadIfAlive]
  exact h
/-- the tuple given out first is kept: not free -/
theorem zip_kept {z TI TO T : Addr} {b : Bool} {Q : Bool → Shared → Prop} (hz : IsZipB s.heap z TI TO T b) (hT : ∃ o, s.heap.get? T = some o) (hQ : ∀ h', IsZipB h' z TI TO T true → Heap.SameBut z s.heap h' → Q false { s with heap := h' }) :
    wpAny (model prog w) A (Builtin.SmallTypes.ownedTupleIsFree (.ref z)) Q E s := by
  unfold Builtin.SmallTypes.ownedTupleIsFree
  refine wpAny_bind (wpAny_field hz rfl (x := rawInt T) rfl ?_)
  obtain ⟨o, ho⟩ := hT
  show wpAny _ _ (loadIfAlive ((T : Int).toNat) >>= _) _ _ _
  rw [Int.toNat_natCast]
  refine wpAny_bind (wpAny_alive ?_)
  rw [ho]
  show wpAny _ _ (field (.ref z) 1 >>= _) _ _ _
  refine wpAny_bind (wpAny_field hz rfl (x := .bool b) rfl ?_)
  cases b with
  | false =>
    show wpAny _ _ (setField (.ref z) 1 (.bool true) >>= _) _ _ _
    exact wpAny_bind (wpAny_setField_rec hz (by simp) fun h' hz' hs' => wpAny_pure (hQ h' hz' hs'))
  | true =>
    show wpAny _ _ (pure false) _ _ _
    exact wpAny_pure (hQ s.heap hz (Heap.SameBut.refl _ _))
theorem zip_next_more {z TI TO i1 i2 l1 l2 T : Addr} {k1 k2 : Nat} {b : Bool} {xs ys : Array Value} {x y : Value} {Q : Value → Shared → Prop} (D : ZipApart z TI TO i1 i2 l1 l2)
    (hz : IsZipB s.heap z TI TO T b) (hT : ∃ o, s.heap.get? T = some o) (hTI : IsPair s.heap TI (.ref i1) (.ref i2))
    (h1 : s.heap.IsListIter i1 l1 k1) (h2 : s.heap.IsListIter i2 l2 k2) (hl1 : s.heap.IsList l1 xs) (hl2 : s.heap.IsList l2 ys) (hx : xs[k1]? = some x) (hy : ys[k2]? = some y)
    (hQ : ∀ h', IsZipB h' z TI TO T true → h'.IsListIter i1 l1 (k1 + 1) → h'.IsListIter i2 l2 (k2 + 1) → IsPair h' s.heap.objs.size x y → h'.objs.size = s.heap.objs.size + 1 →
      (∀ c o, c ≠ z → c ≠ i1 → c ≠ i2 → s.heap.get? c = some o → h'.get? c = some o) → Q (.ref s.heap.objs.size) { s with heap := h' }) :
    wpAny (model prog w) A (Builtin.«zip.__next__» ⟨[.ref z], []⟩) (fun fin s' => ∃ v, fin = .done (.ret v) ∧ Q v s') E s := by
  show wpAny _ _ (field (.ref z) 2 >>= _) _ _ _
  refine wpAny_bind (wpAny_field hz rfl (x := .bool false) rfl ?_)
  show wpAny _ _ (field (.ref z) 3 >>= _) _ _ _
  refine wpAny_bind (wpAny_field hz rfl (x := .ref TI) rfl ?_)
  refine wpAny_bind (wpAny_seqItems hTI rfl ?_)
  show wpAny _ _ (Builtin.SmallTypes.ownedTupleIsFree (.ref z) >>= _) _ _ _
  refine wpAny_bind (zip_kept hz hT fun h₁ hz₁ hs₁ => ?_)
  simp only [Bool.false_eq_true, if_false]
  refine wpAny_bind ?_
  rw [← Array.forIn_toList]
  simp only [List.forIn_cons, List.forIn_nil]
  refine wpAny_bind (wpAny_bind (wpAny_holding ?_))
  show wpAny _ _ (Builtin.SmallTypes.nextOf (.ref i1) >>= _) _ _ _
  refine wpAny_bind (wpAny_nextOf_list_item (h1.extBut hs₁.extBut D.i1z) (hl1.extBut hs₁.extBut D.l1z) hx fun h₂ h1₂ hs₂ => wpAny_pure ?_)
  refine wpAny_pure ?_
  refine wpAny_bind (wpAny_bind (wpAny_holding ?_))
  show wpAny _ _ (Builtin.SmallTypes.nextOf (.ref i2) >>= _) _ _ _
  refine wpAny_bind (wpAny_nextOf_list_item ((h2.extBut hs₁.extBut D.i2z).extBut hs₂.extBut D.i12.symm) ((hl2.extBut hs₁.extBut D.l2z).extBut hs₂.extBut D.l2i1) hy fun h₃ h2₃ hs₃ => wpAny_pure ?_)
  refine wpAny_pure (wpAny_pure ?_)
  refine wpAny_bind (wpAny_newTuple (hsz := by show 2 ≤ sizeLine; decide) ?_)
  refine wpAny_pure ⟨_, rfl, ?_⟩
  have hsz : h₃.objs.size = s.heap.objs.size := by rw [hs₃.1, hs₂.1, hs₁.1]
  have up : ∀ c o, c ≠ z → c ≠ i1 → c ≠ i2 → s.heap.get? c = some o → h₃.get? c = some o := fun c o c1 c2 c3 e => hs₃.extBut _ _ c3 (hs₂.extBut _ _ c2 (hs₁.extBut _ _ c1 e))
  show Q (.ref h₃.objs.size) _
  have hz₃ : IsZipB h₃ z TI TO T true := hs₃.extBut _ _ D.i2z.symm (hs₂.extBut _ _ D.i1z.symm hz₁)
  have hp : IsPair (h₃.push { cls := .type "tuple", data := .seq #[x, y] }) h₃.objs.size x y := Heap.get?_push_size _ rfl
  have h1₃ : h₃.IsListIter i1 l1 (k1 + 1) := h1₂.extBut hs₃.extBut D.i12
  rw [hsz] at hp ⊢
  exact hQ _ (Heap.get?_push_of_some _ hz₃) (h1₃.at fun o e => Heap.get?_push_of_some _ e) (h2₃.at fun o e => Heap.get?_push_of_some _ e) hp (by rw [Heap.size_push, hsz]) fun c o c1 c2 c3 e => Heap.get?_push_of_some _ (up c o c1 c2 c3 e)
theorem zip_next_over {z TI TO i1 i2 l1 l2 T : Addr} {k1 k2 : Nat} {b : Bool} {xs ys : Array Value} {Q : Fin → Shared → Prop} (hh : A.handled = none) (D : ZipApart z TI TO i1 i2 l1 l2)
    (hz : IsZipB s.heap z TI TO T b) (hT : ∃ o, s.heap.get? T = some o) (hTI : IsPair s.heap TI (.ref i1) (.ref i2))
    (h1 : s.heap.IsListIter i1 l1 k1) (h2 : s.heap.IsListIter i2 l2 k2) (hl1 : s.heap.IsList l1 xs) (hl2 : s.heap.IsList l2 ys) (hend : xs[k1]? = none ∨ ys[k2]? = none)
    (hE : ∀ h' e, (∀ c o, c ≠ z → c ≠ i1 → c ≠ i2 → s.heap.get? c = some o → h'.get? c = some o) → (∃ o, h'.get? e = some o ∧ o.cls = .type "StopIteration") → E (.ref e) { s with heap := h' }) :
    wpAny (model prog w) A (Builtin.«zip.__next__» ⟨[.ref z], []⟩) Q E s := by
  show wpAny _ _ (field (.ref z) 2 >>= _) _ _ _
  refine wpAny_bind (wpAny_field hz rfl (x := .bool false) rfl ?_)
  show wpAny _ _ (field (.ref z) 3 >>= _) _ _ _
  refine wpAny_bind (wpAny_field hz rfl (x := .ref TI) rfl ?_)
  refine wpAny_bind (wpAny_seqItems hTI rfl ?_)
  show wpAny _ _ (Builtin.SmallTypes.ownedTupleIsFree (.ref z) >>= _) _ _ _
  refine wpAny_bind (zip_kept hz hT fun h₁ hz₁ hs₁ => ?_)
  simp only [Bool.false_eq_true, if_false]
  refine wpAny_bind ?_
  rw [← Array.forIn_toList]
  simp only [List.forIn_cons, List.forIn_nil]
  refine wpAny_bind (wpAny_bind (wpAny_holding ?_))
  show wpAny _ _ (Builtin.SmallTypes.nextOf (.ref i1) >>= _) _ _ _
  cases hx : xs[k1]? with
  | none =>
    refine wpAny_bind (wpAny_nextOf_list_end hh (h1.extBut hs₁.extBut D.i1z) (hl1.extBut hs₁.extBut D.l1z) hx fun h₂ e hs₂ he => ?_)
    exact hE h₂ e (fun c o c1 c2 _ q => hs₂ _ _ c2 (hs₁.extBut _ _ c1 q)) he
  | some x =>
    have hy : ys[k2]? = none := by rcases hend with h | h; rw [hx] at h; cases h; exact h
    refine wpAny_bind (wpAny_nextOf_list_item (h1.extBut hs₁.extBut D.i1z) (hl1.extBut hs₁.extBut D.l1z) hx fun h₂ h1₂ hs₂ => wpAny_pure ?_)
    refine wpAny_pure ?_
    refine wpAny_bind (wpAny_bind (wpAny_holding ?_))
    show wpAny _ _ (Builtin.SmallTypes.nextOf (.ref i2) >>= _) _ _ _
    refine wpAny_bind (wpAny_nextOf_list_end hh ((h2.extBut hs₁.extBut D.i2z).extBut hs₂.extBut D.i12.symm) ((hl2.extBut hs₁.extBut D.l2z).extBut hs₂.extBut D.l2i1) hy fun h₃ e hs₃ he => ?_)
    exact hE h₃ e (fun c o c1 c2 c3 q => hs₃ _ _ c3 (hs₂.extBut _ _ c2 (hs₁.extBut _ _ c1 q))) he
theorem next_zip_more {z TI TO i1 i2 l1 l2 T : Addr} {k1 k2 : Nat} {b : Bool} {xs ys : Array Value} {x y : Value} {Q : Option Value → Shared → Prop} (D : ZipApart z TI TO i1 i2 l1 l2)
    (hz : IsZipB s.heap z TI TO T b) (hT : ∃ o, s.heap.get? T = some o) (hTI : IsPair s.heap TI (.ref i1) (.ref i2))
    (h1 : s.heap.IsListIter i1 l1 k1) (h2 : s.heap.IsListIter i2 l2 k2) (hl1 : s.heap.IsList l1 xs) (hl2 : s.heap.IsList l2 ys) (hx : xs[k1]? = some x) (hy : ys[k2]? = some y)
    (hQ : ∀ h', IsZipB h' z TI TO T true → h'.IsListIter i1 l1 (k1 + 1) → h'.IsListIter i2 l2 (k2 + 1) → IsPair h' s.heap.objs.size x y → h'.objs.size = s.heap.objs.size + 1 →
      (∀ c o, c ≠ z → c ≠ i1 → c ≠ i2 → s.heap.get? c = some o → h'.get? c = some o) → Q (some (.ref s.heap.objs.size)) { s with heap := h' }) :
    wpAny (model prog w) A (pyNext (.ref z)) Q E s := by
  have hTy : s.TypeIs (.ref z) "zip" := ⟨_, hz, rfl⟩
  unfold pyNext
  exact wpAny_bind (wpAny_attempt (wpAny_callSpecial?_slot (name := Str.ofString "__next__") hTy F.slot_zip_next
    (wpAny_call_entry F.slot_zip_next hTy F.entry_zip_next
      (zip_next_more D hz hT hTI h1 h2 hl1 hl2 hx hy fun h' a1 a2 a3 a4 a5 a6 => wpAny_pure (hQ h' a1 a2 a3 a4 a5 a6)) (F.args_zip_next_1 _))))
theorem next_zip_over {z TI TO i1 i2 l1 l2 T : Addr} {k1 k2 : Nat} {b : Bool} {xs ys : Array Value} {Q : Option Value → Shared → Prop} (hh : A.handled = none) (D : ZipApart z TI TO i1 i2 l1 l2)
    (hz : IsZipB s.heap z TI TO T b) (hT : ∃ o, s.heap.get? T = some o) (hTI : IsPair s.heap TI (.ref i1) (.ref i2))
    (h1 : s.heap.IsListIter i1 l1 k1) (h2 : s.heap.IsListIter i2 l2 k2) (hl1 : s.heap.IsList l1 xs) (hl2 : s.heap.IsList l2 ys) (hend : xs[k1]? = none ∨ ys[k2]? = none)
    (hQ : ∀ h', (∀ c o, c ≠ z → c ≠ i1 → c ≠ i2 → s.heap.get? c = some o → h'.get? c = some o) → Q none { s with heap := h' }) : wpAny (model prog w) A (pyNext (.ref z)) Q E s := by
  have hTy : s.TypeIs (.ref z) "zip" := ⟨_, hz, rfl⟩
  unfold pyNext
  refine wpAny_bind (wpAny_attempt (wpAny_callSpecial?_slot (name := Str.ofString "__next__") hTy F.slot_zip_next
    (wpAny_call_entry F.slot_zip_next hTy F.entry_zip_next (zip_next_over hh D hz hT hTI h1 h2 hl1 hl2 hend fun h' e hk he => ?_) (F.args_zip_next_1 _))))
  obtain ⟨o, ho, hc⟩ := he
  refine wpAny_bind (wpAny_isInstance (T := "StopIteration") (b := true) ⟨o, ho, hc⟩ isSubtype_stop ?_)
  exact wpAny_pure (hQ _ hk)
end
end L2

set_option Elab.async false
set_option linter.all false
set_option maxRecDepth 100000
set_option maxHeartbeats 2000000
namespace L2
open PySem PySem.Spec PyProof.Rows
section
/-- a zip of two lists, walked so far; S: the list that is made -/
structure ZSt (z TI TO i1 i2 a b S : Addr) (h : Heap) (i : Nat) : Prop where
  ti : IsPair h TI (.ref i1) (.ref i2)
  to : ∃ p q, IsPair h TO p q
  it1 : h.IsListIter i1 a i
  it2 : h.IsListIter i2 b i
  zip : IsZip h z TI TO .none ∨ ∃ T c, IsZipB h z TI TO T c ∧ (∃ o, h.get? T = some o) ∧ T ≠ z ∧ T ≠ TO ∧ T ≠ i1 ∧ T ≠ i2 ∧ T ≠ S
variable {prog : Program} {w : World} {A : Around} {E : Value → Shared → Prop} {s : Shared} {z TI TO i1 i2 a b S : Addr}
theorem ZSt.lt {h : Heap} {i : Nat} (k : ZSt z TI TO i1 i2 a b S h i) : z < h.objs.size ∧ TI < h.objs.size ∧ TO < h.objs.size ∧ i1 < h.objs.size ∧ i2 < h.objs.size := by
  obtain ⟨p, q, hTO⟩ := k.to
  obtain ⟨_, e1, _⟩ := k.it1
  obtain ⟨_, e2, _⟩ := k.it2
  refine ⟨?_, Heap.lt_size k.ti, Heap.lt_size hTO, Heap.lt_size e1, Heap.lt_size e2⟩
  rcases k.zip with q | ⟨T, c, q, _⟩
  · exact Heap.lt_size q
  · exact Heap.lt_size q
theorem ZSt.keep {h h' : Heap} {i : Nat} (k : ZSt z TI TO i1 i2 a b S h i) (hS : ∀ c ∈ [z, TI, TO, i1, i2], c ≠ S) (hk : ∀ c o, c ≠ S → h.get? c = some o → h'.get? c = some o) : ZSt z TI TO i1 i2 a b S h' i := by
  obtain ⟨p, q, hTO⟩ := k.to
  refine ⟨hk _ _ (hS TI (by simp)) k.ti, ⟨p, q, hk _ _ (hS TO (by simp)) hTO⟩, k.it1.at fun o e => hk _ o (hS i1 (by simp)) e, k.it2.at fun o e => hk _ o (hS i2 (by simp)) e, ?_⟩
  rcases k.zip with q | ⟨T, c, q, ⟨o, ho⟩, t1, t2, t3, t4, t5⟩
  · exact .inl (hk _ _ (hS z (by simp)) q)
  · exact .inr ⟨T, c, hk _ _ (hS z (by simp)) q, ⟨o, hk _ _ t5 ho⟩, t1, t2, t3, t4, t5⟩
theorem ZSt.item {i : Nat} {xs ys : Array Value} {x y : Value} {Q : Option Value → Shared → Prop} (D : ZipApart z TI TO i1 i2 a b) (k : ZSt z TI TO i1 i2 a b S s.heap i) (hSl : S < s.heap.objs.size) (hl1 : s.heap.IsList a xs) (hl2 : s.heap.IsList b ys) (hx : xs[i]? = some x) (hy : ys[i]? = some y)
    (hQ : ∀ h', ZSt z TI TO i1 i2 a b S h' (i + 1) → IsPair h' s.heap.objs.size x y → (∀ c o, c ∉ [z, TI, TO, i1, i2] → s.heap.get? c = some o → h'.get? c = some o) → Q (some (.ref s.heap.objs.size)) { s with heap := h' }) :
    wpAny (model prog w) A (pyNext (.ref z)) Q E s := by
  obtain ⟨p, q, hTO⟩ := k.to
  obtain ⟨z1, z2, z3, z4, z5⟩ := k.lt
  rcases k.zip with hz | ⟨T, c, hz, hT, t1, t2, t3, t4, t5⟩
  · refine wpAny_pyNext_zip_item D hz k.ti hTO k.it1 k.it2 hl1 hl2 hx hy fun h' a1 a2 a3 a4 a5 a6 hk => ?_
    refine hQ h' ⟨hk _ _ D.TIz D.TITO D.TIi1 D.TIi2 k.ti, ⟨_, _, a2⟩, a3, a4, .inr ⟨s.heap.objs.size, false, a1, ⟨_, a5⟩, Nat.ne_of_gt z1, Nat.ne_of_gt z3, Nat.ne_of_gt z4, Nat.ne_of_gt z5, Nat.ne_of_gt hSl⟩⟩ a5 fun c o hc e => ?_
    exact hk c o (fun q => hc (by simp [q])) (fun q => hc (by simp [q])) (fun q => hc (by simp [q])) (fun q => hc (by simp [q])) e
  · refine next_zip_more D hz hT k.ti k.it1 k.it2 hl1 hl2 hx hy fun h' a1 a3 a4 a5 a6 hk => ?_
    obtain ⟨o, ho⟩ := hT
    refine hQ h' ⟨hk _ _ D.TIz D.TIi1 D.TIi2 k.ti, ⟨_, _, hk _ _ D.TOz D.TOi1 D.TOi2 hTO⟩, a3, a4, .inr ⟨T, true, a1, ⟨o, hk _ _ t1 t3 t4 ho⟩, t1, t2, t3, t4, t5⟩⟩ a5 fun c o hc e => ?_
    exact hk c o (fun q => hc (by simp [q])) (fun q => hc (by simp [q])) (fun q => hc (by simp [q])) e
theorem ZSt.over {i : Nat} {xs ys : Array Value} {Q : Option Value → Shared → Prop} (hh : A.handled = none) (D : ZipApart z TI TO i1 i2 a b) (k : ZSt z TI TO i1 i2 a b S s.heap i) (hl1 : s.heap.IsList a xs) (hl2 : s.heap.IsList b ys) (hend : xs[i]? = none ∨ ys[i]? = none)
    (hQ : ∀ h', (∀ c o, c ∉ [z, TI, TO, i1, i2] → s.heap.get? c = some o → h'.get? c = some o) → Q none { s with heap := h' }) :
    wpAny (model prog w) A (pyNext (.ref z)) Q E s := by
  obtain ⟨p, q, hTO⟩ := k.to
  rcases k.zip with hz | ⟨T, c, hz, hT, t1, t2, t3, t4, t5⟩
  · exact wpAny_pyNext_zip_end hh D hz k.ti hTO k.it1 k.it2 hl1 hl2 hend fun h' hk => hQ h' fun c o hc e => hk c o (fun q => hc (by simp [q])) (fun q => hc (by simp [q])) (fun q => hc (by simp [q])) (fun q => hc (by simp [q])) e
  · exact next_zip_over hh D hz hT k.ti k.it1 k.it2 hl1 hl2 hend fun h' hk => hQ h' fun c o hc e => hk c o (fun q => hc (by simp [q])) (fun q => hc (by simp [q])) (fun q => hc (by simp [q])) e
end
section
variable {X : Cx}
/-- tuples of two, made of two lists -/
def TupsAt (H0 H : Hp) (xs ys : List V) (ts : List Addr) : Prop := ∀ (j : Nat) T, ts[j]? = some T → H0 T = none ∧ ∃ x y, xs[j]? = some x ∧ ys[j]? = some y ∧ H T = some (.tup [x, y])
theorem zip_loop {pins : List (Addr × Obj)} {σ : St} {H0 : Hp} {xs ys : List V} {z TI TO i1 i2 a b S : Addr} {A : Around} {R : Result → Shared → Prop} (hh : A.handled = none) (D : ZipApart z TI TO i1 i2 a b) (ha : SqL X.K H0 a xs) (hb : SqL X.K H0 b ys) (hS0 : H0 S = none) :
    ∀ (k i : Nat) (s : Shared) (H : Hp) (ts : List Addr), min xs.length ys.length - i = k → i ≤ min xs.length ys.length → Inv X pins σ H s → Same H0 H → H S = some (.lst (ts.map V.ref)) → ts.length = i → TupsAt H0 H xs ys ts → ZSt z TI TO i1 i2 a b S s.heap i → (∀ c ∈ [z, TI, TO, i1, i2], FpOk X pins H c) →
    (∀ s' H' ts', Inv X pins σ H' s' → Same H0 H' → H' S = some (.lst (ts'.map V.ref)) → ts'.length = min xs.length ys.length → TupsAt H0 H' xs ys ts' → R (.ok (.ret .none)) s') →
    codeAny (model X.prog X.w) A (.builtin "list.extend.loop" ⟨[.ref S, .ref z, .none], []⟩) R s := by
  intro k
  induction k with
  | zero =>
    intro i s H ts hk hi I sm hS htl hts st hf hR
    refine codeAny_builtin F.entry_extend_loop ?_
    rw [Around.under_plainId F.plain_extend_loop _]
    show wpAny _ A.in1 (pyNext (.ref z) >>= _) _ _ s
    obtain ⟨its, rv, p, _⟩ := I.list (sm.seq ha)
    obtain ⟨its2, rv2, p2, _⟩ := I.list (sm.seq hb)
    have l1 := rv.length
    have l2 := rv2.length
    have he : its.toArray[i]? = none ∨ its2.toArray[i]? = none := by
      rcases Nat.le_total xs.length ys.length with q | q
      · exact .inl (by simp; omega)
      · exact .inr (by simp; omega)
    refine wpAny_bind (ZSt.over (A := A.in1) hh D st p.isList p2.isList he fun h' hk' => ?_)
    exact wpAny_pure (hR _ H ts (I.turnedL (t' := s.toks) (ch := [z, TI, TO, i1, i2]) hk' hf) sm hS (by omega) hts)
  | succ k ih =>
    intro i s H ts hk hi I sm hS htl hts st hf hR
    have hlt : i < min xs.length ys.length := by omega
    refine codeAny_builtin F.entry_extend_loop ?_
    rw [Around.under_plainId F.plain_extend_loop _]
    show wpAny _ A.in1 (pyNext (.ref z) >>= _) _ _ s
    obtain ⟨its, rv, p, _⟩ := I.list (sm.seq ha)
    obtain ⟨its2, rv2, p2, _⟩ := I.list (sm.seq hb)
    have hx : xs[i]? = some xs[i] := List.getElem?_eq_getElem (by omega)
    have hy : ys[i]? = some ys[i] := List.getElem?_eq_getElem (by omega)
    generalize xs[i] = x at hx
    generalize ys[i] = y at hy
    obtain ⟨u, hu, ru⟩ := rv.get hx
    obtain ⟨u2, hu2, ru2⟩ := rv2.get hy
    obtain ⟨zS, itS, nS, rS, hlS, eS⟩ := I.lstM hS
    have hSl := Heap.lt_size eS
    have hSc : ∀ c ∈ [z, TI, TO, i1, i2], c ≠ S := fun c hc e => by
      have := (hf c hc).1
      rw [e, hS] at this
      cases this
    refine wpAny_bind (ZSt.item (A := A.in1) D st hSl p.isList p2.isList (x := u) (y := u2) (by simpa using hu) (by simpa using hu2) fun h' st' hT hk' => ?_)
    have new : ObjOk X.prog X.w (upd H s.heap.objs.size (.tup [x, y])) h' s.heap.objs.size (.tup [x, y]) :=
      ⟨by show 2 ≤ sizeLine; decide, [u, u2], .cons ru (.cons ru2 .nil), ⟨_, hT, rfl, _, rfl⟩⟩
    have hTn : H s.heap.objs.size = none := I.hok.fresh (Nat.le_refl _)
    have I1 : Inv X pins σ (upd H s.heap.objs.size (.tup [x, y])) { s with heap := h' } := I.turnedNew (t' := s.toks) (ch := [z, TI, TO, i1, i2]) hk' hf (Nat.le_refl _) new
    have hS1 : (upd H s.heap.objs.size (.tup [x, y])) S = some (.lst (ts.map V.ref)) := by rw [upd_ne (Nat.ne_of_lt hSl)]; exact hS
    obtain ⟨zS1, itS1, nS1, rS1, hlS1, eS1⟩ := I1.lstM hS1
    have hts16 : itS1.length ≤ sizeLine := by rw [← hlS1]; exact zS1
    have hxl : xs.length ≤ sizeLine := (I.list (sm.seq ha)).choose_spec.2.2
    show wpAny _ A.in1 (updateSeq S (·.push (.ref s.heap.objs.size)) >>= _) _ _ _
    refine wpAny_bind ?_
    have hlen : (ts ++ [s.heap.objs.size]).length ≤ sizeLine := by
      rw [List.length_append, List.length_singleton]
      omega
    have I2 : Inv X pins σ (upd (upd H s.heap.objs.size (.tup [x, y])) S (.lst ((ts ++ [s.heap.objs.size]).map V.ref))) { s with heap := h'.update S (Obj.mapSeq (·.push (.ref s.heap.objs.size))) } := by
      refine I1.lset (t' := s.toks) (its' := itS1 ++ [.ref s.heap.objs.size]) hS1 eS1 (by simp) ?_ (by rw [List.length_map]; exact hlen)
      rw [List.map_append]
      exact rS1.append (.cons rfl .nil)
    have oth : ∀ c o, c ≠ S → h'.get? c = some o → (h'.update S (Obj.mapSeq (·.push (.ref s.heap.objs.size)))).get? c = some o := fun c o hc e => (Heap.get?_update_other _ _ (Ne.symm hc)).trans e
    have hsm2 : Same H0 (upd (upd H s.heap.objs.size (.tup [x, y])) S (.lst ((ts ++ [s.heap.objs.size]).map V.ref))) := (sm.new hTn).own hS0
    refine wpAny_updateSeq eS1 rfl (wpAny_pure ⟨plainId_quiet F.plain_extend_loop _, ih (i + 1) _ _ (ts ++ [s.heap.objs.size]) (by omega) (by omega) I2 hsm2 upd_same (by rw [List.length_append, htl]; rfl) ?_ (st'.keep hSc oth) ?_ hR⟩) ?_ ?_
    · intro j T hj
      have hST : s.heap.objs.size ≠ S := Nat.ne_of_gt hSl
      by_cases hjl : j < ts.length
      · rw [List.getElem?_append_left hjl] at hj
        obtain ⟨t0, x', y', e1, e2, e3⟩ := hts j T hj
        refine ⟨t0, x', y', e1, e2, ?_⟩
        have hTS : T ≠ S := fun e => by rw [e, hS] at e3; cases e3
        rw [upd_ne hTS, upd_ne (ne_of_none e3 hTn)]
        exact e3
      · have hjl2 := (List.getElem?_eq_some_iff.mp hj).1
        rw [List.length_append, List.length_singleton] at hjl2
        have ej : j = ts.length := by omega
        subst ej
        rw [List.getElem?_append_right (Nat.le_refl _), Nat.sub_self] at hj
        cases hj
        refine ⟨sm.free hTn, x, y, by rw [htl]; exact hx, by rw [htl]; exact hy, ?_⟩
        rw [upd_ne hST, upd_same]
    · intro c hc
      obtain ⟨f1, f2⟩ := hf c hc
      refine ⟨?_, f2⟩
      have hcl : c < s.heap.objs.size := by
        obtain ⟨z1, z2, z3, z4, z5⟩ := st.lt
        have e' : c = z ∨ c = TI ∨ c = TO ∨ c = i1 ∨ c = i2 := by simpa using hc
        rcases e' with q | q | q | q | q <;> (rw [q]; assumption)
      rw [upd_ne (hSc c hc), upd_ne (Nat.ne_of_lt hcl)]
      exact f1
    · simp
      exact hts16
    · simp
      omega
def tLZ (K : PySem.W.Frag) (ta : TA) : TE := fun σ H Q => ta σ H fun vs H1 => ∃ a b xs ys, vs = [.ref a, .ref b] ∧ SqL K H1 a xs ∧ SqL K H1 b ys ∧
  ∀ (l : Addr) (ts : List Addr) H2, Same H1 H2 → H1 l = none → H2 l = some (.lst (ts.map V.ref)) → ts.length = min xs.length ys.length → TupsAt H1 H2 xs ys ts → Q (.ref l) H2
theorem pk_zip {e e2 : Expr} {ta : TA} {p pos : Pos} (hc : X.calm = true) (hg : Gl X "zip") (hm : X.mg "zip" = none) (ha : PA X [e, e2] ta)
    (hs : starEach [e, e2] X.env = (false, eval e X.env) :: starEach [e2] X.env := by rfl) (hpl : (backTo pos (starEach [e2] X.env)).any (·.1) = false := by rfl) :
    PWk X (.type "list") (.Call (.Name "zip" p) [e, e2] [] pos) (tLZ X.K ta) := by
  intro pins s σ H Q I h
  refine Call_ (ld_blt I hg hm boot_zip5 (PyProof.Rows.callWith_type1 (thn (ha pos pins s σ H _ I h) fun us s1 ⟨vs, H1, I1, r1, q1⟩ => ?_) hs hpl))
  obtain ⟨a, b, xs, ys, ex, hqx, hqy, q⟩ := q1
  subst ex
  cases r1 with
  | cons r rr =>
    cases rr with
    | cons r' rr =>
      cases rr
      cases r
      cases r'
      obtain ⟨its, rv, p1, _⟩ := I1.list hqx
      obtain ⟨its2, rv2, p2, _⟩ := I1.list hqy
      have la : a < s1.heap.objs.size := p1.lt
      have lb : b < s1.heap.objs.size := p2.lt
      refine call_zip_2 p1.isList p2.isList fun h' hz hTI hTO h1 h2 hsz hk => ?_
      have I2 : Inv X pins σ H1 { s1 with heap := h' } := I1.kept (t' := s1.toks) hk
      have D := PySem.W.ktu_apart s1.heap.objs.size a b la lb
      -- the list
      refine callType_codes (Q₁ := fun obj s₁ => obj = .ref h'.objs.size ∧ s₁ = { s1 with heap := h'.push { cls := .type "list", data := .seq #[] } }) F.called_list (F.typeCall_list_1 _) F.entry_list_init
        (code_list_new _ ⟨rfl, rfl⟩) fun obj s₁ e₁ => ?_
      obtain ⟨rfl, rfl⟩ := e₁
      have hS : (h'.push { cls := .type "list", data := .seq #[] }).get? h'.objs.size = some { cls := .type "list", data := .seq #[] } := Heap.get?_push_size _ rfl
      refine ⟨⟨_, hS, rfl⟩, F.args_list_init_2 _ _, ?_⟩
      have hSn : H1 h'.objs.size = none := I2.hok.fresh (Nat.le_refl _)
      show wpAny _ _ (do let old ← Builtin.List.listItems (.ref h'.objs.size); Builtin.List.listUpdate (.ref h'.objs.size) (fun _ => #[]); letGo old.toList.reverse; Builtin.List.listExtendWith (.ref h'.objs.size) (.ref (s1.heap.objs.size + 4)) .none) _ _ _
      refine wpAny_bind ?_
      unfold Builtin.List.listItems
      refine wpAny_bind (wpAny_seqItems hS rfl (wpAny_pure ?_))
      show wpAny _ _ (updateSeq h'.objs.size (fun _ => #[]) >>= fun _ => letGo (#[] : Array Value).toList.reverse >>= fun _ => Builtin.List.listExtendWith (.ref h'.objs.size) (.ref (s1.heap.objs.size + 4)) .none) _ _ _
      refine wpAny_bind (wpAny_updateSeq hS rfl ?_)
      have hS₂ := Heap.get?_update_self (Obj.mapSeq (fun _ => (#[] : Array Value))) hS rfl
      refine wpAny_bind (wpAny_letGo ?_)
      have up2 : ∀ c o, c ≠ h'.objs.size → h'.get? c = some o → ((h'.push { cls := .type "list", data := .seq #[] }).update h'.objs.size (Obj.mapSeq (fun _ => (#[] : Array Value)))).get? c = some o := fun c o hc e => (Heap.get?_update_other _ _ (Ne.symm hc)).trans (Heap.get?_push_of_some _ e)
      generalize ((h'.push { cls := .type "list", data := .seq #[] }).update h'.objs.size (Obj.mapSeq (fun _ => (#[] : Array Value)))) = h2' at hS₂ up2 ⊢
      have hne : h'.objs.size ≠ s1.heap.objs.size + 4 := by rw [hsz]; omega
      have hz2 := up2 _ _ (Ne.symm hne) hz
      unfold Builtin.List.listExtendWith
      refine wpAny_bind (wpAny_typeOf (T := "zip") ⟨_, hz2, rfl⟩ ?_)
      have e1 : Builtin.List.listSameRef (.ref h'.objs.size) (.ref (s1.heap.objs.size + 4)) = false := by simp [Builtin.List.listSameRef, hne]
      have e2 : (Value.type "zip" == Value.type "list") = false := by decide
      have e3 : (Value.type "zip" == Value.type "tuple") = false := by decide
      simp only [e1, e2, e3, Bool.or_false, Bool.false_eq_true, if_false]
      refine wpAny_bind (wpAny_pyIter_zip hz2 ?_)
      refine wpAny_bind (wpAny_holding ?_)
      unfold Builtin.List.listLengthHint
      refine wpAny_bind (wpAny_specialOf (T := "zip") ⟨_, hz2, rfl⟩ zip_no_len ?_)
      show wpAny _ _ (specialOf (Value.ref (s1.heap.objs.size + 4)) (Str.ofString "__length_hint__") >>= _) _ _ _
      refine wpAny_bind (wpAny_specialOf (T := "zip") ⟨_, hz2, rfl⟩ zip_no_hint ?_)
      refine wpAny_pure ?_
      show wpAny _ _ (rule "list.extend.makes-room" >>= fun _ => Builtin.List.listTouch (.ref h'.objs.size) >>= fun _ =>
        again (.builtin "list.extend.loop" ⟨[.ref h'.objs.size, .ref (s1.heap.objs.size + 4), .none], []⟩)) _ _ _
      refine wpAny_bind (wpAny_rule ?_)
      refine wpAny_bind ?_
      show wpAny _ _ (updateSeq h'.objs.size (·.push .none) >>= fun _ => updateSeq h'.objs.size (·.pop)) _ _ _
      refine wpAny_bind (wpAny_updateSeq hS₂ rfl ?_)
      have hS₃ := Heap.get?_update_self (Obj.mapSeq (·.push Value.none)) hS₂ rfl
      refine wpAny_updateSeq (hz := by seq_fits) hS₃ rfl ?_
      have hS₄ := Heap.get?_update_self (Obj.mapSeq (·.pop)) hS₃ rfl
      have up4 : ∀ c o, c ≠ h'.objs.size → h'.get? c = some o → ((h2'.update h'.objs.size (Obj.mapSeq (·.push Value.none))).update h'.objs.size (Obj.mapSeq (·.pop))).get? c = some o := fun c o hc e =>
        (Heap.get?_update_other _ _ (Ne.symm hc)).trans ((Heap.get?_update_other _ _ (Ne.symm hc)).trans (up2 c o hc e))
      generalize ((h2'.update h'.objs.size (Obj.mapSeq (·.push Value.none))).update h'.objs.size (Obj.mapSeq (·.pop))) = h4' at hS₄ up4 ⊢
      have I4 : Inv X pins σ (upd H1 h'.objs.size (.lst (([] : List Addr).map V.ref))) { s1 with heap := h4' } :=
        I2.laid (t' := s1.toks) (fun c o e => up4 c o (Nat.ne_of_lt (Heap.lt_size e)) e) (Nat.le_refl _) ⟨by show 0 ≤ sizeLine; decide, [], _, .nil, hS₄⟩
      have lt' : ∀ {c o}, h'.get? c = some o → c ≠ h'.objs.size := fun e => Nat.ne_of_lt (Heap.lt_size e)
      refine wpAny_pure ⟨plainId_quiet F.plain_extend_loop _, zip_loop (A := X.A.in1) (I.ok.hd hc) D hqx hqy hSn _ 0 _ _ [] rfl (Nat.zero_le _) I4 ((Same.refl H1).new hSn) upd_same rfl (fun j T hj => by simp at hj) ?_ ?_ fun s' H' ts' I' sm' hS' htl' hts' => ?_⟩
      · refine ⟨up4 _ _ (lt' hTI) hTI, ⟨_, _, up4 _ _ (lt' hTO) hTO⟩, ?_, ?_, .inl (up4 _ _ (lt' hz) hz)⟩
        · obtain ⟨o, e, r⟩ := h1
          exact ⟨o, up4 _ _ (lt' e) e, r⟩
        · obtain ⟨o, e, r⟩ := h2
          exact ⟨o, up4 _ _ (lt' e) e, r⟩
      · intro c hcm
        have e' : c = s1.heap.objs.size + 4 ∨ c = s1.heap.objs.size + 2 ∨ c = s1.heap.objs.size + 3 ∨ c = s1.heap.objs.size ∨ c = s1.heap.objs.size + 1 := by simpa using hcm
        have hle : s1.heap.objs.size ≤ c := by
          rcases e' with q | q | q | q | q <;> (rw [q]; first | exact Nat.le_add_right _ _ | exact Nat.le_refl _)
        have hcS : c ≠ h'.objs.size := by
          rw [hsz]
          rcases e' with q | q | q | q | q <;> (rw [q]; first | exact Nat.ne_of_lt (Nat.add_lt_add_left (by decide) _) | exact Nat.ne_of_lt (Nat.lt_add_of_pos_right (by decide)))
        refine I1.fpOk hle ?_
        rw [upd_ne hcS]
        exact I1.hok.fresh hle
      · exact ⟨rfl, .ref h'.objs.size, H', I', rfl, q _ ts' H' sm' hSn hS' htl' hts'⟩
end
end L2

set_option Elab.async false
set_option linter.all false
set_option maxRecDepth 100000
set_option maxHeartbeats 2000000
namespace L2
open PySem PySem.Spec PyProof.Rows
/-! lists of balls in the heap -/
/-- lists of ints, all new since H0, that may be written -/
structure LandAt (H0 H : Hp) (D : Addr) (zs : List Addr) (L : Nat → List Nat) : Prop where
  top : H D = some (.lst (zs.map V.ref))
  new : H0 D = none
  newz : ∀ z ∈ zs, H0 z = none
  nd : zs.Nodup
  off : D ∉ zs
  cell : ∀ (j : Nat) z, zs[j]? = some z → H z = some (.lst (natsV (L j)))
theorem LandAt.keep {H0 H H' : Hp} {D : Addr} {zs : List Addr} {L : Nat → List Nat} (k : LandAt H0 H D zs L) (s : Same H H') : LandAt H0 H' D zs L :=
  ⟨s _ _ k.top, k.new, k.newz, k.nd, k.off, fun j z e => s _ _ (k.cell j z e)⟩
theorem LandAt.congr {H0 H : Hp} {D : Addr} {zs : List Addr} {L L' : Nat → List Nat} (k : LandAt H0 H D zs L) (e : ∀ j, j < zs.length → L j = L' j) : LandAt H0 H D zs L' :=
  ⟨k.top, k.new, k.newz, k.nd, k.off, fun j z h => by rw [← e j (List.getElem?_eq_some_iff.mp h).1]; exact k.cell j z h⟩
theorem LandAt.put {H0 H : Hp} {D z : Addr} {zs : List Addr} {L : Nat → List Nat} {j x : Nat} (k : LandAt H0 H D zs L) (hz : zs[j]? = some z) :
    LandAt H0 (upd H z (.lst (natsV (L j) ++ [V.int ((x : Nat) : Int)]))) D zs (fun i => if i = j then L j ++ [x] else L i) := by
  have hm := List.mem_of_getElem? hz
  have hne : D ≠ z := fun e => k.off (e ▸ hm)
  refine ⟨by rw [upd_ne hne]; exact k.top, k.new, k.newz, k.nd, k.off, fun i y hy => ?_⟩
  by_cases e : i = j
  · subst e
    rw [hz] at hy
    cases hy
    rw [upd_same, if_pos rfl, natsV_append]
    rfl
  · have hyz : y ≠ z := fun q => by
      subst q
      have h1 := (List.getElem?_eq_some_iff.mp hy).1
      exact e ((List.getElem?_inj h1 k.nd).mp (hy.trans hz.symm))
    rw [upd_ne hyz, if_neg e]
    exact k.cell i y hy
/-- what lies off the lists that are written -/
def Off (S : List Addr) (H : Hp) : Hp := fun b => if b ∈ S then none else H b
theorem off_upd {S : List Addr} {H : Hp} {z : Addr} {o : HO} (hz : z ∈ S) : Off S (upd H z o) = Off S H := by
  funext b
  unfold Off
  by_cases h : b ∈ S
  · rw [if_pos h, if_pos h]
  · rw [if_neg h, if_neg h, upd_ne (fun e => h (by rw [e]; exact hz))]
theorem off_same {S : List Addr} {H H' : Hp} (s : Same H H') : Same (Off S H) (Off S H') := fun b o e => by
  unfold Off at e ⊢
  by_cases h : b ∈ S
  · rw [if_pos h] at e
    cases e
  · rw [if_neg h] at e ⊢
    exact s b o e
theorem off_get {S : List Addr} {H : Hp} {b : Addr} (h : b ∉ S) : Off S H b = H b := if_neg h
theorem off_some {S : List Addr} {H : Hp} {b : Addr} {o : HO} (h : Off S H b = some o) : H b = some o := by
  unfold Off at h
  by_cases q : b ∈ S
  · rw [if_pos q] at h
    cases h
  · rw [if_neg q] at h
    exact h
/-- pairs (ball, height) -/
def PairsAt (H : Hp) (v : V) (l : List (Nat × Nat)) : Prop := ∃ (z : Addr) (ts : List Addr), v = .ref z ∧ H z = some (.lst (ts.map V.ref)) ∧ ts.length = l.length ∧ ∀ (j : Nat) T, ts[j]? = some T → ∃ y, l[j]? = some y ∧ H T = some (.tup [.int ((y.1 : Nat) : Int), .int ((y.2 : Nat) : Int)])
theorem PairsAt.same {H H' : Hp} {v : V} {l : List (Nat × Nat)} (k : PairsAt H v l) (s : Same H H') : PairsAt H' v l := by
  obtain ⟨z, ts, e, h1, h2, h3⟩ := k
  refine ⟨z, ts, e, s _ _ h1, h2, fun j T hj => ?_⟩
  obtain ⟨y, e1, e2⟩ := h3 j T hj
  exact ⟨y, e1, s _ _ e2⟩
theorem sorted_nats {ns : List Int} {l : List Nat} (hp : ns.Perm (l.map Int.ofNat)) (hs : ns.Pairwise (· ≤ ·)) {m : List Nat} (hm : m.Pairwise (· < ·)) (hlm : l.Perm m) : ns = m.map Int.ofNat := by
  have h1 : ns.Perm (m.map Int.ofNat) := hp.trans (hlm.map _)
  have h2 : (m.map Int.ofNat).Pairwise (· ≤ ·) := by
    rw [List.pairwise_map]
    exact hm.imp fun {a b} h => by
      show (a : Int) ≤ (b : Int)
      omega
  exact h1.eq_of_pairwise (fun a b _ _ h3 h4 => by omega) hs h2
end L2
namespace Jm
open Jug
theorem sm_le {α : Type} {f : α → Nat} {c : Nat} : ∀ {l : List α}, (∀ x ∈ l, f x ≤ c) → sm l f ≤ l.length * c
  | [], _ => Nat.zero_le _
  | a :: r, h => by
    rw [sm_cons, List.length_cons, Nat.succ_mul]
    have h1 := h a List.mem_cons_self
    have h2 := sm_le (l := r) fun x hx => h x (List.mem_cons_of_mem _ hx)
    omega
theorem air_small {p : Pattern} (hG : ∀ b ∈ p, b.length ≤ 3) (t : Nat) : (airAt p t).sum ≤ 675 := by
  have h1 : ∀ x ∈ airAt p t, x ≤ 45 := fun x hx => by
    rw [airAt_map] at hx
    obtain ⟨k, _, rfl⟩ := List.mem_map.mp hx
    unfold airN
    refine Nat.le_trans (sm_le (c := 3) fun d _ => ?_) (by rw [List.length_range]; decide)
    refine Nat.le_trans (List.count_le_length ..) ?_
    by_cases h : backIx p t d < p.length
    · have e : p.getD (backIx p t d) [] = p[backIx p t d] := by simp [List.getD, h]
      rw [e]
      exact hG _ (List.getElem_mem h)
    · have e : p.getD (backIx p t d) [] = [] := by simp [List.getD, h]
      rw [e]
      exact Nat.zero_le _
  have h2 : ∀ l : List Nat, (∀ x ∈ l, x ≤ 45) → l.sum ≤ l.length * 45 := fun l => by
    induction l with
    | nil => intro _; simp
    | cons a r ih =>
      intro h
      have := ih fun x hx => h x (List.mem_cons_of_mem _ hx)
      have := h a List.mem_cons_self
      rw [List.sum_cons, List.length_cons, Nat.succ_mul]
      omega
  have := h2 _ h1
  rw [air_len15] at this
  omega
theorem waits_len (p : Pattern) : ∀ t, (waits p t).length = (airAt p 0).sum
  | 0 => startW_len _ 0
  | t + 1 => by
    show (stepW (waits p t) _).length = _
    rw [stepW_len, waits_len p t]
theorem take_sum_le (l : List Nat) (i : Nat) : (l.take i).sum ≤ l.sum := by
  have := List.take_append_drop i l
  have h : l.sum = (l.take i).sum + (l.drop i).sum := by rw [← List.sum_append, this]
  omega
end Jm

set_option Elab.async false
set_option linter.all false
set_option maxRecDepth 100000
set_option maxHeartbeats 2000000
namespace L2
open PySem PySem.Spec PyProof.Rows AutoSeq1
/-! xs.extend(a tuple) -/
theorem list_extend_tup (l : Addr) (items : Array Value) (n : Nat) (b : Addr) (items2 : Array Value) (n2 : Nat) (dd : Option Addr) (sl) (hs0 : ¬(!items.isEmpty && Builtin.List.listTooLong (items.size + items2.size)) = true) (hs1 : items.size ≤ sizeLine) (hs2 : items.size + items2.size ≤ sizeLine + 1) :
    Meets (Builtin.«list.extend» ⟨[.ref l, .ref b], []⟩) (fun _ R s => s.heap.get? l = some { cls := .type "list", dict := none, data := .seq items n, slots := #[] } ∧ s.heap.get? b = some { cls := .type "tuple", dict := dd, data := .seq items2 n2, slots := sl } ∧ R (.ok (.ret Value.none)) { s with heap := s.heap.update l (Obj.mapSeq fun x => x ++ items2), toks := s.toks }) :=
  .of_wp fun prog w A R s h => by
    obtain ⟨hp, g, d, tk, os⟩ := s; obtain ⟨hl, hb, h⟩ := h; have f1 := idx_int; have f2 := AutoSeq1.sub_tuple_tuple; have f3 := AutoSeq1.sub_list_list; have f4 := AutoSeq1.sub_tuple_list; have f5 := AutoSeq1.sub_list_tuple;
    have hz' : (items ++ items2).size ≤ sizeLine + 1 := by rw [Array.size_append]; exact hs2
    wp_walk using (wpAny_updateSeq hl rfl (hz := hs1) (_hz' := hz')), wpAny_loadPart' hl, wpAny_loadPart' hb; exact ⟨_, rfl, h⟩
section
variable {X : Cx}
def rExtendT : V → List V → Hp → VK → Prop := fun x vs H Q => ∃ l b xs zs, x = .ref l ∧ vs = [.ref b] ∧ H l = some (.lst xs) ∧ H b = some (.tup zs) ∧ xs.length + zs.length ≤ sizeLine ∧ Q .non (upd H l (.lst (xs ++ zs)))
theorem mt_extendT : MtM X "list.extend" rExtendT := by
  intro pins s σ H x vs v us Q I rx rv h
  obtain ⟨l, b, xs, zs, rfl, rfl, hH, hB, hz, q⟩ := h
  cases rx
  obtain ⟨u, rfl, ru⟩ := rv.one
  cases ru
  obtain ⟨z, its, n, r, hl, e⟩ := I.lstM hH
  obtain ⟨its2, r2, ⟨⟨oc, od, odata, os⟩, e2, hc2, n2, hd2⟩, z2⟩ := I.tuple (SqT.of hB)
  simp only at hc2 hd2
  subst hc2 hd2
  have hl2 := r2.length
  have hsz : its.toArray.size + its2.toArray.size ≤ sizeLine := by rw [List.size_toArray, List.size_toArray]; omega
  have hlong : ¬ (!its.toArray.isEmpty && Builtin.List.listTooLong (its.toArray.size + its2.toArray.size)) = true := by
    rw [notLongL hsz, Bool.and_false]
    exact Bool.false_ne_true
  refine call_meets F.slot_list_extend ⟨_, e, rfl⟩ F.entry_list_extend (F.args_list_extend_2 _ _)
    (list_extend_tup l its.toArray n b its2.toArray n2 od os hlong (by rw [List.size_toArray]; omega) (by omega)) ⟨e, e2, ?_⟩
  refine ⟨.non, _, I.lset (its' := its ++ its2) hH e (by simp) (r.append r2) ?_, rfl, q⟩
  rw [List.length_append]
  omega
end
end L2

set_option Elab.async false
set_option linter.all false
set_option maxRecDepth 100000
set_option maxHeartbeats 4000000
namespace Jp
open PySem PySem.Spec PyProof.Rows L2
open PySem.W (Codec)
def top (i : Nat) : Stmt := PySem.Challenge.pw_jugglebench_s15_runs.main.body.getD i (.Pass ⟨0, 0, 0, 0⟩)
abbrev s_height_of : Stmt := top 10
abbrev s_bracket_fault : Stmt := top 11
abbrev s_beat_fault : Stmt := top 12
abbrev s_beat_end : Stmt := top 13
abbrev s_text_fault : Stmt := top 14
abbrev s_read_beats : Stmt := top 15
abbrev s_landing_counts : Stmt := top 16
abbrev s_wrong_beat : Stmt := top 17
abbrev s_pattern_refusal : Stmt := top 18
abbrev s_state_before : Stmt := top 19
abbrev s_first_landings : Stmt := top 20
abbrev s_ball_throws : Stmt := top 21
abbrev s_runs : Stmt := top 25
structure Txt (mg : Str → Option Value) : Prop where
  c_CLOSING : IntG mg "CLOSING" 93
  c_LETTER_A : IntG mg "LETTER_A" 97
  c_LETTER_F : IntG mg "LETTER_F" 102
  c_MOST_BEATS : IntG mg "MOST_BEATS" 16
  c_MOST_RUN_BEATS : IntG mg "MOST_RUN_BEATS" 40
  c_MOST_SINCE : IntG mg "MOST_SINCE" 200
  c_MOST_THROWS : IntG mg "MOST_THROWS" 3
  c_NINE : IntG mg "NINE" 57
  c_OPENING : IntG mg "OPENING" 91
  c_SPAN : IntG mg "SPAN" 15
  c_ZERO : IntG mg "ZERO" 48
  b_len : mg "len" = none
  b_list : mg "list" = none
  b_range : mg "range" = none
  b_sorted : mg "sorted" = none
  b_tuple : mg "tuple" = none
  b_zip : mg "zip" = none
end Jp

set_option Elab.async false
set_option linter.all false
set_option maxRecDepth 100000
set_option maxHeartbeats 4000000
namespace Jp
open PySem PySem.Spec PyProof.Rows L2
section
variable {P : Program} {w : World} {K : PySem.W.Frag} {mg : Str → Option Value} {base : Heap}
def sp_height_of (_ : PySem.W.Frag) : Sp := fun vs H Q _ => ∃ z : Int, vs = [.int z] ∧ Q (.int (Jm.hI z)) H
theorem sc_height_of : FnScope ["byte"] ["byte"] (defScope s_height_of) := ⟨rfl, rfl, rfl, by decide +kernel, rfl, by decide +kernel, by decide +kernel⟩
theorem ok_height_of {f : Addr} {fd : FuncData} (F : Fun K "height_of" "height_of" s_height_of f fd) (T : Txt mg) : FnOk P w K mg base CX0 1 f fd ["byte"] (sp_height_of K) := by
  have sc := sc_height_of
  refine F.ok sc (fun vs H Q E h => ?_) (fun cdv A outer s H vs Q E hr h => ?_)
  · obtain ⟨z, rfl, _⟩ := h
    rfl
  · obtain ⟨z, rfl, k⟩ := h
    refine ⟨_, (pss_cons (ps_if (pt_chain op_le op_le (pgl T.c_ZERO) (pv 0) (pgl T.c_NINE)) (pss_one (ps_ret (pe_op op_sub (pv 0) (pgl T.c_ZERO)))) pss_nil)
      (pss_cons (ps_if (pt_chain op_le op_le (pgl T.c_LETTER_A) (pv 0) (pgl T.c_LETTER_F)) (pss_one (ps_ret (pe_op op_add (pe_op op_sub (pv 0) (pgl T.c_LETTER_A)) pe_int))) pss_nil)
      (pss_one (ps_ret (pe_un un_neg pe_int))))), ?_⟩
    have fin : ∀ i : Int, Jm.hI z = i → Q (.int i) H := fun i e => by rw [← e]; exact k
    refine ⟨_, rfl, _, _, rfl, rfl, _, rfl, ite2 (fun h1 => ⟨_, _, rfl, rfl, _, rfl, ite2 (fun h2 => ⟨_, rfl, _, _, rfl, rfl, fin _ ?_⟩) (fun h2 => ?_)⟩) (fun h1 => ⟨_, rfl, iteF ?_⟩)⟩
    · simp only [decide_eq_true_eq] at h1 h2
      unfold Jm.hI
      rw [if_pos ⟨h1, h2⟩]
    all_goals
      refine ⟨_, rfl, _, _, rfl, rfl, _, rfl, ite2 (fun h3 => ⟨_, _, rfl, rfl, _, rfl, ite2 (fun h4 => ⟨_, rfl, _, _, rfl, rfl, _, _, rfl, rfl, fin _ ?_⟩) (fun h4 => ⟨_, rfl, fin _ ?_⟩)⟩) (fun h3 => ⟨_, rfl, iteF ⟨_, rfl, fin _ ?_⟩⟩)⟩
      all_goals
        simp only [decide_eq_true_eq] at *
        unfold Jm.hI
        split <;> (try split) <;> omega
end
end Jp

set_option Elab.async false
set_option linter.all false
set_option maxRecDepth 100000
set_option maxHeartbeats 4000000
namespace Jp
open PySem PySem.Spec PyProof.Rows L2
section
variable {P : Program} {w : World} {K : PySem.W.Frag} {mg : Str → Option Value} {base : Heap}
def sp_bracket_fault (K : PySem.W.Frag) : Sp := fun vs H Q _ => ∃ (a : Addr) (t : List Int) (p : Nat), vs = [.ref a, .int (p : Nat)] ∧ SqL K H a (t.map V.int) ∧ Jm.Ok8 t ∧ t.length ≤ 64 ∧ p < t.length ∧
  (∀ e, Jug.handIn (p + 1) (Jm.by8 (t.drop (p + 1))) [] = .error e → Q (.int (e : Nat)) H) ∧ (∀ x, Jug.handIn (p + 1) (Jm.by8 (t.drop (p + 1))) [] = .ok x → Q (.int (-1)) H)
theorem sc_bracket_fault : FnScope ["t", "start", "place", "held"] ["t", "start"] (defScope s_bracket_fault) := ⟨rfl, rfl, rfl, by decide +kernel, rfl, by decide +kernel, by decide +kernel⟩
theorem ok_bracket_fault {f : Addr} {fd : FuncData} (F : Fun K "bracket_fault" "bracket_fault" s_bracket_fault f fd) (T : Txt mg) (d_height_of : Def P w K mg base "height_of" ["byte"] 1 (sp_height_of K)) : FnOk P w K mg base CX0 2 f fd ["t", "start"] (sp_bracket_fault K) := by
  have sc := sc_bracket_fault
  refine F.ok sc (fun vs H Q E h => ?_) (fun cdv A outer s H vs Q E hr h => ?_)
  · obtain ⟨a, t, p, rfl, _⟩ := h
    rfl
  · obtain ⟨a, t, p, rfl, hS, h8, h64, hp, kE, kO⟩ := h
    refine ⟨_, (pss_cons (ps_for PassesOwn.never rfl (pi_range2 rfl T.b_range (pa_cons (pe_op op_add (pv 1) pe_int) (pa_cons (pe_callB call_len_seq (by rfl) T.b_len PySem.boot_len (pa_cons (pv 0) pa_nil)) pa_nil))) (pg_name (i := 2) sc.nd rfl (by first | exact Or.inl rfl | exact Or.inr rfl))
      (pss_cons (ps_set (i := 3) sc.nd rfl (by first | exact Or.inl rfl | exact Or.inr rfl) (pe_op op_sub (pe_op op_sub (pv 2) (pv 1)) pe_int))
      (pss_cons (ps_if (pt_cmp (pc_eqI (pe_ix ix_list (pv 0) (pv 2) (fun _ _ => rfl)) (pgl T.c_CLOSING))) (pss_one (ps_ret (pe_ifExp (pt_cmp (pc_ge (pv 3) pe_int)) (pe_un un_neg pe_int) (pv 2)))) pss_nil)
      (pss_one (ps_if (pw_or (pt_cmp (pc_eqI (pv 3) (pgl T.c_MOST_THROWS))) (pw_or1 (pt_cmp (pc_lt (pcall d_height_of (hr.mono (by decide)) (pa_cons (pe_ix ix_list (pv 0) (pv 2) (fun _ _ => rfl)) pa_nil)) pe_int)))).pt (pss_one (ps_ret (pv 2))) pss_nil)))))
      (pss_one (ps_ret (pe_callB call_len_seq (by rfl) T.b_len PySem.boot_len (pa_cons (pv 0) pa_nil))))), ?_⟩
    have hl : (t.map V.int).length = t.length := by simp
    refine ⟨_, rfl, _, _, rfl, rfl, _, rfl, _, _, rfl, .inl hS, _, _, rfl, ⟨by omega, by omega, by omega, by omega⟩, ?_⟩
    refine for_range (lo := (p : Int) + 1) (n := (((t.map V.int).length : Int) - ((p : Int) + 1)).toNat) (fun i σ H' => H' = H ∧ ∃ v2 v3, σ = [some (.ref a), some (.int p), v2, v3] ∧ ∃ l : List Nat, l.length = i ∧ i ≤ 3 ∧
      Jug.handIn (p + 1) (Jm.by8 (t.drop (p + 1))) [] = Jug.handIn (p + 1 + i) (Jm.by8 (t.drop (p + 1 + i))) l) ⟨rfl, none, none, rfl, [], rfl, Nat.zero_le _, rfl⟩ ?_ ?_
    · rintro i σ H' hi ⟨rfl, v2, v3, rfl, l, hli, hi3, eh⟩
      have hpl : p + 1 + i < t.length := by omega
      obtain ⟨z, r, ed, ez⟩ := Jm.drop_cons hpl
      obtain ⟨z0, z1⟩ := h8 z (List.mem_of_getElem? ez)
      have er : r = t.drop (p + 1 + (i + 1)) := by
        have := congrArg List.tail ed
        rw [List.tail_drop] at this
        exact this.symm
      rw [ed] at eh
      have hat : atI (t.map V.int) ((p : Int) + 1 + (i : Int)) = some (V.int z) := at_of (j := p + 1 + i) (by omega) (by rw [List.getElem?_map, ez]; rfl)
      refine ⟨_, rfl, _, rfl, _, _, rfl, rfl, _, _, rfl, rfl, ?_⟩
      refine ⟨_, rfl, _, rfl, a, _, _, _, rfl, rfl, hS, hat, _, _, rfl, rfl, _, rfl, ite2 (fun hc => ?_) (fun hc => ?_)⟩
      · have hz : z = 93 := of_decide_eq_true hc
        rw [Jm.hand_close _ _ _ hz] at eh
        refine ⟨_, rfl, _, _, rfl, rfl, _, rfl, ite2 (fun h2 => ⟨_, rfl, ?_⟩) (fun h2 => ⟨_, rfl, ?_⟩)⟩
        · have h2 := of_decide_eq_true h2
          rw [if_neg (by omega)] at eh
          exact kO _ eh
        · have h2 : ¬ _ := fun q => h2 (decide_eq_true q)
          rw [if_pos (by omega)] at eh
          have := kE _ eh
          have e2 : ((p + 1 + i : Nat) : Int) = (p : Int) + 1 + (i : Int) := by omega
          rw [e2] at this
          exact this
      · have hz : ¬ z = 93 := fun q => hc (decide_eq_true q)
        have bad : (3 ≤ l.length ∨ Jm.hI z < 1) → Q (.int ((p : Int) + 1 + (i : Int))) H' := fun hb => by
          rw [Jm.hand_bad _ _ _ z0 z1 hz hb] at eh
          have := kE _ eh
          have e2 : ((p + 1 + i : Nat) : Int) = (p : Int) + 1 + (i : Int) := by omega
          rw [e2] at this
          exact this
        refine ⟨_, rfl, _, _, rfl, rfl, _, rfl, ite2 (fun h3 => ?_) (fun h3 => ?_)⟩
        · have h3 := of_decide_eq_true h3
          exact ⟨_, rfl, bad (by omega)⟩
        · have h3 : ¬ _ := fun q => h3 (decide_eq_true q)
          refine ⟨_, rfl, _, rfl, a, _, _, _, rfl, rfl, hS, hat, z, rfl, _, _, rfl, rfl, _, rfl, ite2 (fun h4 => ?_) (fun h4 => ?_)⟩
          · have h4 := of_decide_eq_true h4
            exact ⟨_, rfl, bad (.inr h4)⟩
          · have h4 : ¬ _ := fun q => h4 (decide_eq_true q)
            rw [Jm.hand_go _ _ _ z0 z1 hz (by omega) (by omega), er] at eh
            exact ⟨rfl, _, _, rfl, _, by simp [hli], by omega, eh⟩
    · rintro σ H' ⟨rfl, v2, v3, rfl, l, hli, hi3, eh⟩
      have e1 : p + 1 + (((t.map V.int).length : Int) - ((p : Int) + 1)).toNat = t.length := by omega
      rw [e1, List.drop_length, Jm.hand_nil] at eh
      have := kE _ eh
      refine ⟨_, rfl, _, _, rfl, .inl hS, ?_⟩
      rw [hl]
      exact this
end
end Jp

set_option Elab.async false
set_option linter.all false
set_option maxRecDepth 100000
set_option maxHeartbeats 4000000
namespace Jp
open PySem PySem.Spec PyProof.Rows L2
section
variable {P : Program} {w : World} {K : PySem.W.Frag} {mg : Str → Option Value} {base : Heap}
def sp_beat_fault (K : PySem.W.Frag) : Sp := fun vs H Q _ => ∃ (a : Addr) (t : List Int) (p : Nat), vs = [.ref a, .int (p : Nat)] ∧ SqL K H a (t.map V.int) ∧ Jm.Ok8 t ∧ t.length ≤ 64 ∧ p < t.length ∧
  (∀ e, Jm.stepIn p (Jm.by8 (t.drop p)) = .error e → Q (.int (e : Nat)) H) ∧ (∀ x, Jm.stepIn p (Jm.by8 (t.drop p)) = .ok x → Q (.int (-1)) H)
theorem sc_beat_fault : FnScope ["t", "start"] ["t", "start"] (defScope s_beat_fault) := ⟨rfl, rfl, rfl, by decide +kernel, rfl, by decide +kernel, by decide +kernel⟩
theorem ok_beat_fault {f : Addr} {fd : FuncData} (F : Fun K "beat_fault" "beat_fault" s_beat_fault f fd) (T : Txt mg) (d_bracket_fault : Def P w K mg base "bracket_fault" ["t", "start"] 2 (sp_bracket_fault K)) (d_height_of : Def P w K mg base "height_of" ["byte"] 1 (sp_height_of K)) : FnOk P w K mg base CX0 3 f fd ["t", "start"] (sp_beat_fault K) := by
  have sc := sc_beat_fault
  refine F.ok sc (fun vs H Q E h => ?_) (fun cdv A outer s H vs Q E hr h => ?_)
  · obtain ⟨a, t, p, rfl, _⟩ := h
    rfl
  · obtain ⟨a, t, p, rfl, hS, h8, h64, hp, kE, kO⟩ := h
    refine ⟨_, (pss_cons (ps_if (pt_cmp (pc_eqI (pe_ix ix_list (pv 0) (pv 1) (fun _ _ => rfl)) (pgl T.c_OPENING))) (pss_one (ps_ret (pcall d_bracket_fault (hr.mono (by decide)) (pa_cons (pv 0) (pa_cons (pv 1) pa_nil))))) pss_nil)
      (pss_one (ps_ret (pe_ifExp (pt_cmp (pc_ge (pcall d_height_of (hr.mono (by decide)) (pa_cons (pe_ix ix_list (pv 0) (pv 1) (fun _ _ => rfl)) pa_nil)) pe_int)) (pe_un un_neg pe_int) (pv 1))))), ?_⟩
    obtain ⟨z, r, ed, ez⟩ := Jm.drop_cons hp
    obtain ⟨z0, z1⟩ := h8 z (List.mem_of_getElem? ez)
    have hat : atI (t.map V.int) (p : Int) = some (V.int z) := at_of (j := p) rfl (by rw [List.getElem?_map, ez]; rfl)
    refine ⟨_, rfl, _, rfl, a, _, _, _, rfl, rfl, hS, hat, _, _, rfl, rfl, _, rfl, ite2 (fun hc => ?_) (fun hc => ?_)⟩
    · have hz : z = 91 := of_decide_eq_true hc
      rw [Jm.step_open ez hz] at kE kO
      exact ⟨_, rfl, _, rfl, a, t, p, rfl, hS, h8, h64, hp, kE, kO⟩
    · have hz : ¬ z = 91 := fun q => hc (decide_eq_true q)
      refine ⟨_, rfl, _, rfl, a, _, _, _, rfl, rfl, hS, hat, z, rfl, _, _, rfl, rfl, _, rfl, ite2 (fun h4 => ?_) (fun h4 => ?_)⟩
      · have h4 : 0 ≤ Jm.hI z := of_decide_eq_true h4
        obtain ⟨x, e⟩ := Jm.step_dig ez z0 z1 hz h4
        exact ⟨_, rfl, kO _ e⟩
      · have h4 : ¬ 0 ≤ Jm.hI z := fun q => h4 (decide_eq_true q)
        exact ⟨_, rfl, kE _ (Jm.step_none ez z0 z1 hz (by omega))⟩
end
end Jp

set_option Elab.async false
set_option linter.all false
set_option maxRecDepth 100000
set_option maxHeartbeats 4000000
namespace Jp
open PySem PySem.Spec PyProof.Rows L2
section
variable {P : Program} {w : World} {K : PySem.W.Frag} {mg : Str → Option Value} {base : Heap}
def sp_beat_end (K : PySem.W.Frag) : Sp := fun vs H Q _ => ∃ (a : Addr) (t : List Int) (p q : Nat) (x : Jug.Beat) (s : Jug.Bytes), vs = [.ref a, .int (p : Nat)] ∧ SqL K H a (t.map V.int) ∧ Jm.Ok8 t ∧ t.length ≤ 64 ∧ p < t.length ∧
  Jm.stepIn p (Jm.by8 (t.drop p)) = .ok (x, q, s) ∧ Q (.int (q : Nat)) H
theorem sc_beat_end : FnScope ["t", "start"] ["t", "start"] (defScope s_beat_end) := ⟨rfl, rfl, rfl, by decide +kernel, rfl, by decide +kernel, by decide +kernel⟩
theorem ok_beat_end {f : Addr} {fd : FuncData} (F : Fun K "beat_end" "beat_end" s_beat_end f fd) (T : Txt mg) : FnOk P w K mg base CX0 1 f fd ["t", "start"] (sp_beat_end K) := by
  have sc := sc_beat_end
  refine F.ok sc (fun vs H Q E h => ?_) (fun cdv A outer s H vs Q E hr h => ?_)
  · obtain ⟨a, t, p, q, x, b, rfl, _⟩ := h
    rfl
  · obtain ⟨a, t, p, q, x, b, rfl, hS, h8, h64, hp, hs, k⟩ := h
    refine ⟨_, (pss_cons (ps_if (pt_cmp (pc_eqI (pe_ix ix_list (pv 0) (pv 1) (fun _ _ => rfl)) (pgl T.c_OPENING))) (pss_one (ps_ret (pe_op op_add (pe_bm PySem.F.plainAttrs_list PySem.F.slot_list_index PySem.F.type_list_index mt_index3 (pv 0) (pa_cons (pgl T.c_CLOSING) (pa_cons (pv 1) pa_nil))) pe_int))) pss_nil)
      (pss_one (ps_ret (pe_op op_add (pv 1) pe_int)))), ?_⟩
    obtain ⟨z, r, ed, ez⟩ := Jm.drop_cons hp
    have hat : atI (t.map V.int) (p : Int) = some (V.int z) := at_of (j := p) rfl (by rw [List.getElem?_map, ez]; rfl)
    refine ⟨_, rfl, _, rfl, a, _, _, _, rfl, rfl, hS, hat, _, _, rfl, rfl, _, rfl, ite2 (fun hc => ?_) (fun hc => ?_)⟩
    · have hz : z = 91 := of_decide_eq_true hc
      subst hz
      obtain ⟨q1, q2, q3, q4⟩ := Jm.step_index h8 ez hs
      refine ⟨_, rfl, .inl ⟨rfl, _, hS⟩, _, rfl, a, t, 93, p, q - 1, rfl, rfl, hS, q2, q3, q4, _, _, rfl, rfl, ?_⟩
      have e : (((q - 1 : Nat) : Int) + 1) = (q : Int) := by omega
      have k2 : Q (.int (((q - 1 : Nat) : Int) + 1)) H := by rw [e]; exact k
      exact k2
    · have hz : ¬ z = 91 := fun q => hc (decide_eq_true q)
      have e := Jm.step_single h8 ez hz hs
      subst e
      exact ⟨_, rfl, _, _, rfl, rfl, k⟩
end
end Jp

set_option Elab.async false
set_option linter.all false
set_option maxRecDepth 100000
set_option maxHeartbeats 4000000
namespace Jp
open PySem PySem.Spec PyProof.Rows L2
section
variable {P : Program} {w : World} {K : PySem.W.Frag} {mg : Str → Option Value} {base : Heap}
def sp_text_fault (K : PySem.W.Frag) : Sp := fun vs H Q _ => ∃ (a : Addr) (t : List Int), vs = [.ref a] ∧ SqL K H a (t.map V.int) ∧ Jm.Ok8 t ∧ t.length ≤ 64 ∧
  (∀ e, Jug.read (Jm.by8 t) = .error e → Q (.int (e : Nat)) H) ∧ (∀ x, Jug.read (Jm.by8 t) = .ok x → Q (.int (-1)) H)
theorem sc_text_fault : FnScope ["t", "begun", "place", "fault"] ["t"] (defScope s_text_fault) := ⟨rfl, rfl, rfl, by decide +kernel, rfl, by decide +kernel, by decide +kernel⟩
theorem ok_text_fault {f : Addr} {fd : FuncData} (F : Fun K "text_fault" "text_fault" s_text_fault f fd) (T : Txt mg) (d_beat_fault : Def P w K mg base "beat_fault" ["t", "start"] 3 (sp_beat_fault K)) (d_beat_end : Def P w K mg base "beat_end" ["t", "start"] 1 (sp_beat_end K)) : FnOk P w K mg base CX0 4 f fd ["t"] (sp_text_fault K) := by
  have sc := sc_text_fault
  refine F.ok sc (fun vs H Q E h => ?_) (fun cdv A outer s H vs Q E hr h => ?_)
  · obtain ⟨a, t, rfl, _⟩ := h
    rfl
  · obtain ⟨a, t, rfl, hS, h8, h64, kE, kO⟩ := h
    refine ⟨_, (pss_cons (ps_if (pt_cmp (pc_eqI (pe_callB call_len_seq (by rfl) T.b_len PySem.boot_len (pa_cons (pv 0) pa_nil)) pe_int)) (pss_one (ps_ret pe_int)) pss_nil)
      (pss_cons (ps_set (i := 1) sc.nd rfl (by first | exact Or.inl rfl | exact Or.inr rfl) pe_int)
      (pss_cons (ps_set (i := 2) sc.nd rfl (by first | exact Or.inl rfl | exact Or.inr rfl) pe_int)
      (pss_cons (ps_while PassesOwn.never (pt_cmp (pc_lt (pv 2) (pe_callB call_len_seq (by rfl) T.b_len PySem.boot_len (pa_cons (pv 0) pa_nil))))
      (pss_cons (ps_if (pt_cmp (pc_eqI (pv 1) (pgl T.c_MOST_BEATS))) (pss_one (ps_ret (pv 2))) pss_nil)
      (pss_cons (ps_set (i := 3) sc.nd rfl (by first | exact Or.inl rfl | exact Or.inr rfl) (pcall d_beat_fault (hr.mono (by decide)) (pa_cons (pv 0) (pa_cons (pv 2) pa_nil))))
      (pss_cons (ps_if (pt_cmp (pc_ge (pv 3) pe_int)) (pss_one (ps_ret (pv 3))) pss_nil)
      (pss_cons (ps_aug (i := 1) sc.nd rfl (by first | exact Or.inl rfl | exact Or.inr rfl) pe_int ip_add)
      (pss_one (ps_set (i := 2) sc.nd rfl (by first | exact Or.inl rfl | exact Or.inr rfl) (pcall d_beat_end (hr.mono (by decide)) (pa_cons (pv 0) (pa_cons (pv 2) pa_nil))))))))))
      (pss_one (ps_ret (pe_un un_neg pe_int))))))), ?_⟩
    have hl : (t.map V.int).length = t.length := by simp
    refine ⟨_, rfl, _, _, rfl, .inl hS, _, _, rfl, rfl, _, rfl, ite2 (fun hc => ?_) (fun hc => ?_)⟩
    · have hc : ((t.map V.int).length : Int) = 0 := of_decide_eq_true hc
      have e0 : t = [] := List.eq_nil_of_length_eq_zero (by omega)
      subst e0
      exact kE 0 (Jm.At.start []).last
    · have hc : ¬ ((t.map V.int).length : Int) = 0 := fun q => hc (decide_eq_true q)
      refine ⟨fun m σ H' => H' = H ∧ ∃ (pl : Nat) (v3 : Option V) (l : Jug.Pattern), σ = [some (.ref a), some (.int (l.length : Nat)), some (.int (pl : Nat)), v3] ∧ Jm.At t pl l ∧ m = t.length - pl, ⟨_, rfl, 0, none, [], rfl, Jm.At.start t, rfl⟩, ?_⟩
      rintro m σ H' ⟨rfl, pl, v3, l, rfl, hAt, rfl⟩
      refine ⟨_, rfl, _, rfl, _, _, rfl, .inl hS, _, _, rfl, rfl, _, rfl, ite2 (fun hc => ?_) (fun hc => ?_)⟩
      · have hpl : pl < t.length := by have := of_decide_eq_true hc; omega
        refine ⟨fun σ' H'' => ∃ m', m' < t.length - pl ∧ (H'' = H' ∧ ∃ (pl : Nat) (v3 : Option V) (l : Jug.Pattern), σ' = [some (.ref a), some (.int (l.length : Nat)), some (.int (pl : Nat)), v3] ∧ Jm.At t pl l ∧ m' = t.length - pl), fun _ _ h => h, ?_⟩
        refine ⟨_, rfl, _, _, rfl, rfl, _, rfl, ite2 (fun h1 => ?_) (fun h1 => ?_)⟩
        · have h1 := of_decide_eq_true h1
          exact ⟨_, rfl, kE _ (hAt.long hpl (by omega))⟩
        · have h1 : ¬ _ := fun q => h1 (decide_eq_true q)
          have h16 : l.length ≠ 16 := by omega
          refine ⟨_, rfl, _, rfl, a, t, pl, rfl, hS, h8, h64, hpl, fun e he => ?_, fun x hx => ?_⟩
          · refine ⟨_, rfl, _, _, rfl, rfl, _, rfl, ite2 (fun h2 => ⟨_, rfl, kE _ (hAt.err hpl h16 he)⟩) (fun h2 => ?_)⟩
            exact absurd (decide_eq_true (show (0 : Int) ≤ (e : Nat) by omega)) h2
          · obtain ⟨x, q, sb⟩ := x
            obtain ⟨hA2, hlt⟩ := hAt.next h8 hpl h16 hx
            refine ⟨_, rfl, _, _, rfl, rfl, _, rfl, ite2 (fun h2 => ?_) (fun h2 => ?_)⟩
            · have h2 := of_decide_eq_true h2
              omega
            · refine ⟨_, rfl, _, _, rfl, rfl, ?_⟩
              refine ⟨_, rfl, _, rfl, a, t, pl, q, x, sb, rfl, hS, h8, h64, hpl, hx, ?_⟩
              have el : ((l ++ [x]).length : Int) = (l.length : Int) + 1 := by simp
              exact ⟨t.length - q, by have := hA2.1; omega, rfl, q, some (.int (-1)), l ++ [x], by rw [el]; rfl, hA2, rfl⟩
      · have hpl : pl = t.length := by
          have : ¬ ((pl : Int) < ((t.map V.int).length : Int)) := fun q => hc (decide_eq_true q)
          have := hAt.1
          omega
        subst hpl
        have hr := hAt.last
        rw [if_neg (fun e => by have := hAt.2.2.1.mpr e; omega)] at hr
        exact ⟨_, rfl, kO _ hr⟩
end
end Jp

set_option Elab.async false
set_option linter.all false
set_option maxRecDepth 100000
set_option maxHeartbeats 4000000
namespace Jp
open PySem PySem.Spec PyProof.Rows L2
section
variable {P : Program} {w : World} {K : PySem.W.Frag} {mg : Str → Option Value} {base : Heap}
def sp_read_beats (K : PySem.W.Frag) : Sp := fun vs H Q _ => ∃ (a : Addr) (t : List Int) (p : Jug.Pattern), vs = [.ref a] ∧ SqL K H a (t.map V.int) ∧ Jm.Ok8 t ∧ t.length ≤ 64 ∧ Jug.read (Jm.by8 t) = .ok p ∧
  ∀ v H', Same H H' → PatAt H' v p → Q v H'
theorem sc_read_beats : FnScope ["t", "beats", "place", "end", "heights", "byte", "height"] ["t"] (defScope s_read_beats) := ⟨rfl, rfl, rfl, by decide +kernel, rfl, by decide +kernel, by decide +kernel⟩
theorem ok_read_beats {f : Addr} {fd : FuncData} (F : Fun K "read_beats" "read_beats" s_read_beats f fd) (T : Txt mg) (d_beat_end : Def P w K mg base "beat_end" ["t", "start"] 1 (sp_beat_end K)) (d_height_of : Def P w K mg base "height_of" ["byte"] 1 (sp_height_of K)) : FnOk P w K mg base CX0 2 f fd ["t"] (sp_read_beats K) := by
  have sc := sc_read_beats
  refine F.ok sc (fun vs H Q E h => ?_) (fun cdv A outer s H vs Q E hr h => ?_)
  · obtain ⟨a, t, p, rfl, _⟩ := h
    rfl
  · obtain ⟨a, t, p, rfl, hS, h8, h64, hrd, k⟩ := h
    refine ⟨_, (pss_cons (ps_set (i := 1) sc.nd rfl (by first | exact Or.inl rfl | exact Or.inr rfl) (pe_lst pa_nil))
      (pss_cons (ps_set (i := 2) sc.nd rfl (by first | exact Or.inl rfl | exact Or.inr rfl) pe_int)
      (pss_cons (ps_while PassesOwn.never (pt_cmp (pc_lt (pv 2) (pe_callB call_len_seq (by rfl) T.b_len PySem.boot_len (pa_cons (pv 0) pa_nil))))
      (pss_cons (ps_set (i := 3) sc.nd rfl (by first | exact Or.inl rfl | exact Or.inr rfl) (pcall d_beat_end (hr.mono (by decide)) (pa_cons (pv 0) (pa_cons (pv 2) pa_nil))))
      (pss_cons (ps_setLc (i := 4) (hc := rfl) (hN := sc.nd) (hy := rfl) (hyl := rfl) (hsw := sw_true rfl rfl rfl (by decide +kernel)) (pi_list (pe_slice sl_list (pv 0) (po_some (pv 2)) (po_some (pv 3)))) (own := [("byte", 5)]) (blkOk_by (N := ["t", "beats", "place", "end", "heights", "byte", "height"]) (sc := defScope s_read_beats) (by decide +kernel)) (fun _ _ _ _ _ => pg_name (i := 5) sc.nd rfl (by first | exact Or.inl rfl | exact Or.inr rfl)) (fun _ _ _ _ _ => pts_nil) (fun _ _ _ _ _ => (pcall d_height_of (hr.mono (by decide)) (pa_cons (pv 5) pa_nil))))
      (pss_cons (ps_expr (pe_bm PySem.F.plainAttrs_list PySem.F.slot_list_append PySem.F.type_list_append mt_append (pv 1) (pa_cons (pe_sortedR rfl T.b_sorted (pa_cons (pe_lc rfl sc.nd (pi_list (pv 4)) (own := [("height", 6)]) (blkOk_by (N := ["t", "beats", "place", "end", "heights", "byte", "height"]) (sc := defScope s_read_beats) (by decide +kernel)) (fun _ _ _ _ _ => pg_name (i := 6) sc.nd rfl (by first | exact Or.inl rfl | exact Or.inr rfl)) (fun _ _ _ _ _ => (pts_one (pt_cmp (pc_gt (pv 6) pe_int)))) (fun _ _ _ _ _ => (pv 6))) pa_nil)) pa_nil)))
      (pss_one (ps_set (i := 2) sc.nd rfl (by first | exact Or.inl rfl | exact Or.inr rfl) (pv 3)))))))
      (pss_one (ps_ret (pv 1)))))), ?_⟩
    have hl : (t.map V.int).length = t.length := by simp
    refine ⟨Nat.zero_le _, fun D hD => ?_⟩
    refine ⟨fun m σ H' => Same H H' ∧ ∃ (pl : Nat) (v3 v4 v5 v6 : Option V) (l : Jug.Pattern) (bs : List V), σ = [some (.ref a), some (.ref D), some (.int (pl : Nat)), v3, v4, v5, v6] ∧ Jm.At t pl l ∧ m = t.length - pl ∧
      H' D = some (.lst bs) ∧ Paired (fun v b => BeatAt H' v b ∧ v ≠ .ref D) bs l, ⟨_, (Same.refl H).new hD, 0, none, none, none, none, [], [], rfl, Jm.At.start t, rfl, upd_same, .nil⟩, ?_⟩
    rintro m σ H' ⟨s1, pl, v3, v4, v5, v6, l, bs, rfl, hAt, rfl, hDv, hP⟩
    refine ⟨_, rfl, _, rfl, _, _, rfl, .inl (s1.seq hS), _, _, rfl, rfl, _, rfl, ite2 (fun hc => ?_) (fun hc => ?_)⟩
    · have hpl : pl < t.length := by have := of_decide_eq_true hc; omega
      refine ⟨fun σ' H'' => ∃ m', m' < t.length - pl ∧ (Same H H'' ∧ ∃ (pl : Nat) (v3 v4 v5 v6 : Option V) (l : Jug.Pattern) (bs : List V), σ' = [some (.ref a), some (.ref D), some (.int (pl : Nat)), v3, v4, v5, v6] ∧ Jm.At t pl l ∧ m' = t.length - pl ∧
        H'' D = some (.lst bs) ∧ Paired (fun v b => BeatAt H'' v b ∧ v ≠ .ref D) bs l), fun _ _ h => h, ?_⟩
      obtain ⟨x, q, sb, hx, h16⟩ : ∃ x q sb, Jm.stepIn pl (Jm.by8 (t.drop pl)) = .ok (x, q, sb) ∧ l.length ≠ 16 := by
        have h16 : l.length ≠ 16 := fun e => by
          rw [hAt.long hpl e] at hrd
          cases hrd
        cases hx : Jm.stepIn pl (Jm.by8 (t.drop pl)) with
        | error e =>
          rw [hAt.err hpl h16 hx] at hrd
          cases hrd
        | ok y => exact ⟨y.1, y.2.1, y.2.2, rfl, h16⟩
      obtain ⟨hA2, hlt⟩ := hAt.next h8 hpl h16 hx
      obtain ⟨seg, rest, e1, e2, e3, e4, e5, e6, e7, e8⟩ := Jm.step_ok (h8.drop pl) hx
      -- end = beat_end(t, place)
      refine ⟨_, rfl, _, rfl, a, t, pl, q, x, sb, rfl, s1.seq hS, h8, h64, hpl, hx, ?_⟩
      -- heights = [height_of(byte) for byte in t[place:end]]
      refine ⟨_, rfl, _, rfl, _, rfl, _, rfl, _, rfl, a, _, rfl, s1.seq hS, fun c hc0 => ?_⟩
      rw [cutV_seg (by omega) e1 e2]
      have n1 : ∀ b o, H' b = some o → (upd H' c (.lst (seg.map V.int))) b = some o := (Same.refl H').new hc0
      refine ⟨c, rfl, ⟨_, SqL.of upd_same⟩, fun D1 hD1 => lc_mapL hV (SqL.of upd_same) hD1 ?_ (fun _ => rfl) ?_ ?_⟩
      · rw [List.length_map]
        exact Nat.le_of_lt (small1000 (by omega))
      · intro i v H3 Qk hv s3 kk
        obtain ⟨z, ez, rfl⟩ := map_get hv
        exact ⟨_, rfl, z, rfl, kk _ (Same.refl _)⟩
      intro H2 s2 hD1v
      have s02 : Same H' H2 := fun b o e => s2 b o (n1 b o e)
      have ehv : (seg.map V.int).map hV = (seg.map Jm.hI).map V.int := by
        rw [List.map_map, List.map_map]
        rfl
      rw [ehv] at hD1v
      -- beats.append(sorted([height for height in heights if height > 0], reverse=True))
      refine ⟨_, rfl, .inl ⟨rfl, _, SqL.of (s02 _ _ hDv)⟩, ?_⟩
      refine ⟨_, rfl, D1, rfl, ⟨_, SqL.of hD1v⟩, fun D2 hD2 => lc_filterL posV (SqL.of hD1v) hD2 ?_ (by show 6 < 7; decide) (fun _ => rfl) ?_ ?_⟩
      · rw [List.length_map, List.length_map]
        exact Nat.le_of_lt (small1000 (by omega))
      · intro i v H3 Qk hv s3 kk
        obtain ⟨z, ez, rfl⟩ := map_get hv
        exact ⟨_, rfl, _, _, rfl, rfl, _, rfl, kk⟩
      intro H3 s3 hD2v
      rw [filter_pos] at hD2v
      refine ⟨D2, _, rfl, SqL.of hD2v, ?_, fun ns' r hp1 hp2 hr => ?_⟩
      · have := List.length_filter_le (fun z => decide (0 < z)) (seg.map Jm.hI)
        rw [List.length_map] at this
        omega
      have ens : ns'.map V.int = natsV x := by
        rw [natsV_int, e6, ← Jm.falling_ints (fun n hn => by have := e7.2 n hn; omega) hp1 hp2]
      rw [ens]
      have s03 : Same H' H3 := s02.trans s3
      have hD3 := s03 _ _ hDv
      have nrD : r ≠ D := (ne_of_none hD3 hr).symm
      refine ⟨D, bs, _, rfl, rfl, by rw [upd_ne nrD.symm]; exact hD3, ?_, ?_⟩
      · have := hP.length
        have := hAt.2.1
        exact small1000 (by omega)
      -- place = end
      refine ⟨_, rfl, t.length - q, by have := hA2.1; omega, ?_, q, _, _, _, _, l ++ [x], _, rfl, hA2, rfl, upd_same, ?_⟩
      · exact ((s1.trans s03).new hr).own hD
      · refine Paired.snoc (Paired.imp' (fun v b ⟨q1, q2⟩ => ⟨(q1.same (s03.new hr)).upd q2, q2⟩) hP) ⟨⟨r, rfl, ?_⟩, fun e => nrD (V.ref.inj e)⟩
        rw [upd_ne nrD, upd_same]
    · have hpl : pl = t.length := by
        have : ¬ ((pl : Int) < ((t.map V.int).length : Int)) := fun q => hc (decide_eq_true q)
        have := hAt.1
        omega
      subst hpl
      have hr := hAt.last
      rw [hrd] at hr
      have el : l = p := by
        by_cases e : l = []
        · rw [if_pos e] at hr
          cases hr
        · rw [if_neg e] at hr
          exact (Except.ok.inj hr).symm
      subst el
      exact ⟨_, rfl, k _ _ s1 ⟨D, bs, rfl, hDv, Paired.imp' (fun _ _ q => q.1) hP⟩⟩
end
end Jp

set_option Elab.async false
set_option linter.all false
set_option maxRecDepth 100000
set_option maxHeartbeats 4000000
namespace Jp
open PySem PySem.Spec PyProof.Rows L2
section
variable {P : Program} {w : World} {K : PySem.W.Frag} {mg : Str → Option Value} {base : Heap}
def sp_landing_counts (K : PySem.W.Frag) : Sp := fun vs H Q _ => ∃ (v : V) (p : Jug.Pattern), vs = [v] ∧ PatAt H v p ∧ (∀ b ∈ p, Jm.GoodBeat b) ∧ 1 ≤ p.length ∧ p.length ≤ 16 ∧
  ∀ (x : Addr) H', Same H H' → H x = none → H' x = some (.lst (natsV (Jm.cnt p.length (Jm.landKs p p.length)))) → Q (.ref x) H'
theorem sc_landing_counts : FnScope ["beats", "period", "landing", "start", "height"] ["beats"] (defScope s_landing_counts) := ⟨rfl, rfl, rfl, by decide +kernel, rfl, by decide +kernel, by decide +kernel⟩
theorem ok_landing_counts {f : Addr} {fd : FuncData} (F : Fun K "landing_counts" "landing_counts" s_landing_counts f fd) (T : Txt mg) : FnOk P w K mg base CX0 1 f fd ["beats"] (sp_landing_counts K) := by
  have sc := sc_landing_counts
  refine F.ok sc (fun vs H Q E h => ?_) (fun cdv A outer s H vs Q E hr h => ?_)
  · obtain ⟨v, p, rfl, _⟩ := h
    rfl
  · obtain ⟨v, p, rfl, ⟨x, ws, rfl, hx, hP⟩, hG, hp1, hp16, k⟩ := h
    refine ⟨_, (pss_cons (ps_set (i := 1) sc.nd rfl (by first | exact Or.inl rfl | exact Or.inr rfl) (pe_callB call_len_seq (by rfl) T.b_len PySem.boot_len (pa_cons (pv 0) pa_nil)))
      (pss_cons (ps_set (i := 2) sc.nd rfl (by first | exact Or.inl rfl | exact Or.inr rfl) (pe_op op_rep (pe_lst (pa_cons pe_int pa_nil)) (pv 1)))
      (pss_cons (ps_for PassesOwn.never rfl (pi_range1 rfl T.b_range (pa_cons (pv 1) pa_nil)) (pg_name (i := 3) sc.nd rfl (by first | exact Or.inl rfl | exact Or.inr rfl))
      (pss_one (ps_for PassesOwn.never rfl (pi_list (pe_ix ix_list (pv 0) (pv 3) (fun _ _ => rfl))) (pg_name (i := 4) sc.nd rfl (by first | exact Or.inl rfl | exact Or.inr rfl))
      (pss_one (ps_augS (pv 2) (pe_op op_mod (pe_op op_add (pv 3) (pv 4)) (pv 1)) get_list pe_int ip_add set_list)))))
      (pss_one (ps_ret (pv 2)))))), ?_⟩
    have hl := hP.length
    refine ⟨_, rfl, _, _, rfl, .inl (SqL.of hx), ?_⟩
    rw [hl]
    refine ⟨by show 1 ≤ sizeLine; decide, fun z hz => ⟨_, rfl, z, _, _, rfl, rfl, upd_same, by omega, by omega, by simp; exact Nat.le_of_lt (small1000 (by omega)), fun D hD => ?_⟩⟩
    have en : ((p.length : Int)).toNat = p.length := by omega
    rw [en, rep_zero]
    have s0 : Same H (upd H z (.lst [.int 0])) := (Same.refl H).new hz
    have hDH : H D = none := s0.free hD
    have s1 := s0.new (o := .lst (natsV (Jm.cnt p.length []))) hD
    refine ⟨_, rfl, _, rfl, by omega, by omega, ?_⟩
    rw [en]
    refine for_range (fun i σ H' => Same H H' ∧ ∃ v3 v4, σ = [some (.ref x), some (.int (p.length : Nat)), some (.ref D), v3, v4] ∧ H' D = some (.lst (natsV (Jm.cnt p.length (Jm.landKs p i))))) ⟨s1, none, none, rfl, upd_same⟩ ?_ ?_
    · rintro i σ H' hi ⟨s2, v3, v4, rfl, hDv⟩
      obtain ⟨y, b, e1, e2, e3, e4⟩ := PatAt.at (x := x) hP hi
      have hat : atI ws (0 + (i : Int)) = some (V.ref y) := at_of (j := i) (by omega) e1
      obtain ⟨g1, g2, g3⟩ := hG b (List.mem_of_getElem? e2)
      refine ⟨_, rfl, _, rfl, x, _, _, _, rfl, rfl, SqL.of (s2 _ _ hx), hat, y, rfl, ⟨_, SqL.of (s2 _ _ e4)⟩, ?_⟩
      refine for_list (xs := natsV b) (fun j σ H'' => Same H H'' ∧ ∃ v4, σ = [some (.ref x), some (.int (p.length : Nat)), some (.ref D), some (.int (0 + (i : Int))), v4] ∧ H'' D = some (.lst (natsV (Jm.cnt p.length (Jm.landKs p i ++ (b.take j).map fun h => (i + h) % p.length)))))
        ⟨s2, v4, rfl, by rw [List.take_zero, List.map_nil, List.append_nil]; exact hDv⟩ (fun j σ H'' _ ⟨s3, _⟩ => SqL.of (s3 _ _ e4)) ?_ ?_
      · rintro j w σ H'' hj ⟨s3, v5, rfl, hDw⟩
        obtain ⟨n, en', rfl⟩ := natsV_get hj
        have hlt : (i + n) % p.length < p.length := Nat.mod_lt _ hp1
        refine ⟨_, rfl, _, rfl, _, rfl, _, _, rfl, rfl, _, rfl, _, _, rfl, rfl, by show (0 : Int) < (p.length : Nat); omega, ?_⟩
        have em : (0 + (i : Int) + (n : Int)) % ((p.length : Nat) : Int) = (((i + n) % p.length : Nat) : Int) := by
          rw [Int.natCast_emod]
          congr 1
          omega
        refine ⟨D, _, (i + n) % p.length, _, rfl, congrArg V.int em, SqL.of hDw, natsV_at (Jm.cnt_at _ hlt), _, _, rfl, rfl, D, _, _, (i + n) % p.length, rfl, congrArg V.int em, hDw, ?_, ?_⟩
        · rw [natsV_length, Jm.cnt_length]
          exact ixN_nat hlt
        · refine ⟨s3.own hDH, _, rfl, ?_⟩
          rw [upd_same, bump_ok hlt, take_snoc en', List.map_append, ← List.append_assoc]
          rfl
      · rintro σ H'' ⟨s3, v5, rfl, hDw⟩
        refine ⟨s3, _, _, rfl, ?_⟩
        rw [natsV_length, List.take_length, ← e3] at hDw
        rw [Jm.landKs_succ]
        exact hDw
    · rintro σ H' ⟨s2, v3, v4, rfl, hDv⟩
      exact ⟨_, rfl, k D H' s2 hDH hDv⟩
end
end Jp

set_option Elab.async false
set_option linter.all false
set_option maxRecDepth 100000
set_option maxHeartbeats 4000000
namespace Jp
open PySem PySem.Spec PyProof.Rows L2
section
variable {P : Program} {w : World} {K : PySem.W.Frag} {mg : Str → Option Value} {base : Heap}
def sp_wrong_beat (K : PySem.W.Frag) : Sp := fun vs H Q _ => ∃ (v : V) (p : Jug.Pattern), vs = [v] ∧ PatAt H v p ∧ (∀ b ∈ p, Jm.GoodBeat b) ∧ 1 ≤ p.length ∧ p.length ≤ 16 ∧
  ∀ H', Same H H' → (∀ k, Jug.clash p = some k → Q (.int (k : Nat)) H') ∧ (Jug.clash p = none → Q (.int (-1)) H')
theorem sc_wrong_beat : FnScope ["beats", "landing", "beat"] ["beats"] (defScope s_wrong_beat) := ⟨rfl, rfl, rfl, by decide +kernel, rfl, by decide +kernel, by decide +kernel⟩
theorem ok_wrong_beat {f : Addr} {fd : FuncData} (F : Fun K "wrong_beat" "wrong_beat" s_wrong_beat f fd) (T : Txt mg) (d_landing_counts : Def P w K mg base "landing_counts" ["beats"] 1 (sp_landing_counts K)) : FnOk P w K mg base CX0 2 f fd ["beats"] (sp_wrong_beat K) := by
  have sc := sc_wrong_beat
  refine F.ok sc (fun vs H Q E h => ?_) (fun cdv A outer s H vs Q E hr h => ?_)
  · obtain ⟨v, p, rfl, _⟩ := h
    rfl
  · obtain ⟨v, p, rfl, hPat, hG, hp1, hp16, k⟩ := h
    refine ⟨_, (pss_cons (ps_set (i := 1) sc.nd rfl (by first | exact Or.inl rfl | exact Or.inr rfl) (pcall d_landing_counts (hr.mono (by decide)) (pa_cons (pv 0) pa_nil)))
      (pss_cons (ps_for PassesOwn.never rfl (pi_range1 rfl T.b_range (pa_cons (pe_callB call_len_seq (by rfl) T.b_len PySem.boot_len (pa_cons (pv 0) pa_nil)) pa_nil)) (pg_name (i := 2) sc.nd rfl (by first | exact Or.inl rfl | exact Or.inr rfl))
      (pss_one (ps_if (pt_cmp (pc_neI (pe_ix ix_list (pv 1) (pv 2) (fun _ _ => rfl)) (pe_callB call_len_seq (by rfl) T.b_len PySem.boot_len (pa_cons (pe_ix ix_list (pv 0) (pv 2) (fun _ _ => rfl)) pa_nil)))) (pss_one (ps_ret (pv 2))) pss_nil)))
      (pss_one (ps_ret (pe_un un_neg pe_int))))), ?_⟩
    refine ⟨_, rfl, v, p, rfl, hPat, hG, hp1, hp16, fun D H1 s1 hDn hD => ?_⟩
    obtain ⟨x, ws, rfl, hx, hP⟩ := hPat
    have hl := hP.length
    refine ⟨_, rfl, _, _, rfl, .inl (SqL.of (s1 _ _ hx)), ?_⟩
    rw [hl]
    refine ⟨_, rfl, by omega, by omega, ?_⟩
    have en : ((p.length : Int)).toNat = p.length := by omega
    rw [en]
    refine for_range (fun i σ H' => H' = H1 ∧ (∃ v3, σ = [some (.ref x), some (.ref D), v3]) ∧ ∀ j, j < i → Jug.landing p j = (p.getD j []).length) ⟨rfl, ⟨none, rfl⟩, fun j hj => absurd hj (by omega)⟩ ?_ ?_
    · rintro i σ H' hi ⟨rfl, ⟨v3, rfl⟩, hj⟩
      obtain ⟨y, b, e1, e2, e3, e4⟩ := PatAt.at (x := x) hP hi
      have hat : atI ws (0 + (i : Int)) = some (V.ref y) := at_of (j := i) (by omega) e1
      have hat2 : atI (natsV (Jm.cnt p.length (Jm.landKs p p.length))) (0 + (i : Int)) = some (V.int ((Jm.landKs p p.length).count i : Nat)) := at_of (j := i) (by omega) (natsV_at (Jm.cnt_at _ hi))
      rw [← Jm.landing_count] at hat2
      refine ⟨_, rfl, _, rfl, D, _, _, _, rfl, rfl, SqL.of hD, hat2, _, rfl, _, rfl, x, _, _, _, rfl, rfl, SqL.of (s1 _ _ hx), hat, _, _, rfl, .inl (SqL.of (s1 _ _ e4)), _, _, rfl, rfl, _, rfl, ite2 (fun hc => ?_) (fun hc => ?_)⟩
      · refine ⟨_, rfl, ?_⟩
        have hne : Jug.landing p i ≠ (p.getD i []).length := fun e => by
          rw [e3] at e
          have e : ((Jug.landing p i : Nat) : Int) = ((natsV b).length : Nat) := by rw [natsV_length, e]
          simp [e] at hc
        have hcl : Jug.clash p = some i := by
          unfold Jug.clash
          rw [List.find?_range_eq_some]
          refine ⟨by simpa using hne, by simpa using hi, fun j hj' => by simpa using hj j hj'⟩
        have := (k H' s1).1 i hcl
        rw [Int.zero_add]
        exact this
      · refine ⟨rfl, ⟨_, rfl⟩, fun j hj' => ?_⟩
        by_cases e : j = i
        · subst e
          have hc : ¬ ((!decide (((Jug.landing p j : Nat) : Int) = ((natsV b).length : Nat))) = true) := hc
          rw [e3]
          rw [natsV_length] at hc
          simp at hc
          omega
        · exact hj j (by omega)
    · rintro σ H' ⟨rfl, ⟨v3, rfl⟩, hj⟩
      have hcl : Jug.clash p = none := by
        unfold Jug.clash
        rw [List.find?_range_eq_none]
        intro j hj'
        simpa using hj j hj'
      exact ⟨_, rfl, (k H' s1).2 hcl⟩
end
end Jp

set_option Elab.async false
set_option linter.all false
set_option maxRecDepth 100000
set_option maxHeartbeats 4000000
namespace Jp
open PySem PySem.Spec PyProof.Rows L2
section
variable {P : Program} {w : World} {K : PySem.W.Frag} {mg : Str → Option Value} {base : Heap}
def sp_pattern_refusal (K : PySem.W.Frag) : Sp := fun vs H Q _ => ∃ (a : Addr) (t : List Int), vs = [.ref a] ∧ SqL K H a (t.map V.int) ∧ Jm.Ok8 t ∧ t.length ≤ 64 ∧
  ∀ v H', Same H H' → IntsAt H' v (Jm.refusal t) → Q v H'
theorem sc_pattern_refusal : FnScope ["t", "fault", "wrong"] ["t"] (defScope s_pattern_refusal) := ⟨rfl, rfl, rfl, by decide +kernel, rfl, by decide +kernel, by decide +kernel⟩
theorem ok_pattern_refusal {f : Addr} {fd : FuncData} (F : Fun K "pattern_refusal" "pattern_refusal" s_pattern_refusal f fd) (T : Txt mg) (d_text_fault : Def P w K mg base "text_fault" ["t"] 4 (sp_text_fault K)) (d_wrong_beat : Def P w K mg base "wrong_beat" ["beats"] 2 (sp_wrong_beat K)) (d_read_beats : Def P w K mg base "read_beats" ["t"] 2 (sp_read_beats K)) : FnOk P w K mg base CX0 5 f fd ["t"] (sp_pattern_refusal K) := by
  have sc := sc_pattern_refusal
  refine F.ok sc (fun vs H Q E h => ?_) (fun cdv A outer s H vs Q E hr h => ?_)
  · obtain ⟨a, t, rfl, _⟩ := h
    rfl
  · obtain ⟨a, t, rfl, hS, h8, h64, k⟩ := h
    refine ⟨_, (pss_cons (ps_set (i := 1) sc.nd rfl (by first | exact Or.inl rfl | exact Or.inr rfl) (pcall d_text_fault (hr.mono (by decide)) (pa_cons (pv 0) pa_nil)))
      (pss_cons (ps_if (pt_cmp (pc_ge (pv 1) pe_int)) (pss_one (ps_ret (pe_lst (pa_cons (pe_un un_neg pe_int) (pa_cons (pv 1) pa_nil))))) pss_nil)
      (pss_cons (ps_set (i := 2) sc.nd rfl (by first | exact Or.inl rfl | exact Or.inr rfl) (pcall d_wrong_beat (hr.mono (by decide)) (pa_cons (pcall d_read_beats (hr.mono (by decide)) (pa_cons (pv 0) pa_nil)) pa_nil)))
      (pss_cons (ps_if (pt_cmp (pc_ge (pv 2) pe_int)) (pss_one (ps_ret (pe_lst (pa_cons (pe_un un_neg pe_int) (pa_cons (pv 2) pa_nil))))) pss_nil)
      (pss_one (ps_ret (pe_lst pa_nil))))))), ?_⟩
    refine ⟨_, rfl, a, t, rfl, hS, h8, h64, fun e he => ?_, fun p hp => ?_⟩
    · refine ⟨_, rfl, _, _, rfl, rfl, _, rfl, ite2 (fun hc => ?_) (fun hc => ?_)⟩
      · refine ⟨_, rfl, _, rfl, by show 2 ≤ sizeLine; decide, fun z hz => k _ _ ((Same.refl H).new hz) ⟨z, rfl, ?_⟩⟩
        rw [upd_same]
        unfold Jm.refusal
        rw [he]
        rfl
      · exact absurd (decide_eq_true (show (0 : Int) ≤ (e : Nat) by omega)) hc
    · refine ⟨_, rfl, _, _, rfl, rfl, _, rfl, ite2 (fun hc => ?_) (fun hc => ?_)⟩
      · have hc := of_decide_eq_true hc
        omega
      · obtain ⟨hG, g1, g2⟩ := Jm.read_good h8 hp
        refine ⟨_, rfl, a, t, p, rfl, hS, h8, h64, hp, fun v H1 s1 hPat => ⟨v, p, rfl, hPat, hG, g1, g2, fun H2 s2 => ⟨fun c hcl => ?_, fun hcl => ?_⟩⟩⟩
        · refine ⟨_, rfl, _, _, rfl, rfl, _, rfl, ite2 (fun hd => ?_) (fun hd => ?_)⟩
          · refine ⟨_, rfl, _, rfl, by show 2 ≤ sizeLine; decide, fun z hz => k _ _ ((s1.trans s2).new hz) ⟨z, rfl, ?_⟩⟩
            rw [upd_same]
            unfold Jm.refusal
            rw [hp]
            dsimp only
            rw [hcl]
            rfl
          · exact absurd (decide_eq_true (show (0 : Int) ≤ (c : Nat) by omega)) hd
        · refine ⟨_, rfl, _, _, rfl, rfl, _, rfl, ite2 (fun hd => ?_) (fun hd => ?_)⟩
          · have hd := of_decide_eq_true hd
            omega
          · refine ⟨Nat.zero_le _, fun z hz => k _ _ ((s1.trans s2).new hz) ⟨z, rfl, ?_⟩⟩
            rw [upd_same]
            unfold Jm.refusal
            rw [hp]
            dsimp only
            rw [hcl]
            rfl
end
end Jp

set_option Elab.async false
set_option linter.all false
set_option maxRecDepth 100000
set_option maxHeartbeats 4000000
namespace Jp
open PySem PySem.Spec PyProof.Rows L2
section
variable {P : Program} {w : World} {K : PySem.W.Frag} {mg : Str → Option Value} {base : Heap}
def sp_state_before (K : PySem.W.Frag) : Sp := fun vs H Q _ => ∃ (v : V) (p : Jug.Pattern) (m : Nat), vs = [v, .int (m : Nat)] ∧ PatAt H v p ∧ (∀ b ∈ p, Jm.GoodBeat b) ∧ 1 ≤ p.length ∧ p.length ≤ 16 ∧
  ∀ (x : Addr) H', Same H H' → H x = none → H' x = some (.tup (natsV (Jug.airAt p (m % p.length)))) → Q (.ref x) H'
theorem sc_state_before : FnScope ["beats", "moment", "state", "ago", "height"] ["beats", "moment"] (defScope s_state_before) := ⟨rfl, rfl, rfl, by decide +kernel, rfl, by decide +kernel, by decide +kernel⟩
theorem ok_state_before {f : Addr} {fd : FuncData} (F : Fun K "state_before" "state_before" s_state_before f fd) (T : Txt mg) : FnOk P w K mg base CX0 1 f fd ["beats", "moment"] (sp_state_before K) := by
  have sc := sc_state_before
  refine F.ok sc (fun vs H Q E h => ?_) (fun cdv A outer s H vs Q E hr h => ?_)
  · obtain ⟨v, p, m, rfl, _⟩ := h
    rfl
  · obtain ⟨v, p, m, rfl, ⟨x, ws, rfl, hx, hP⟩, hG, hp1, hp16, k⟩ := h
    refine ⟨_, (pss_cons (ps_set (i := 2) sc.nd rfl (by first | exact Or.inl rfl | exact Or.inr rfl) (pe_op op_rep (pe_lst (pa_cons pe_int pa_nil)) (pgl T.c_SPAN)))
      (pss_cons (ps_for PassesOwn.never rfl (pi_range2 rfl T.b_range (pa_cons pe_int (pa_cons (pe_op op_add (pgl T.c_SPAN) pe_int) pa_nil))) (pg_name (i := 3) sc.nd rfl (by first | exact Or.inl rfl | exact Or.inr rfl))
      (pss_one (ps_for PassesOwn.never rfl (pi_list (pe_ix ix_list (pv 0) (pe_op op_mod (pe_op op_sub (pv 1) (pv 3)) (pe_callB call_len_seq (by rfl) T.b_len PySem.boot_len (pa_cons (pv 0) pa_nil))) (fun _ _ => rfl))) (pg_name (i := 4) sc.nd rfl (by first | exact Or.inl rfl | exact Or.inr rfl))
      (pss_one (ps_if (pt_cmp (pc_ge (pv 4) (pv 3))) (pss_one (ps_augS (pv 2) (pe_op op_sub (pv 4) (pv 3)) get_list pe_int ip_add set_list)) pss_nil)))))
      (pss_one (ps_ret (pe_callTy call_tuple_of (by rfl) T.b_tuple PyProof.Rows.boot_tuple (pa_cons (pv 2) pa_nil)))))), ?_⟩
    have hl := hP.length
    refine ⟨by show 1 ≤ sizeLine; decide, fun z hz => ⟨z, _, _, rfl, rfl, upd_same, by omega, by omega, by decide, fun D hD => ?_⟩⟩
    have e15 : (15 : Int).toNat = 15 := rfl
    rw [e15, rep_zero]
    have s0 : Same H (upd H z (.lst [.int 0])) := (Same.refl H).new hz
    have hDH : H D = none := s0.free hD
    have s1 := s0.new (o := .lst (natsV (Jm.cnt 15 []))) hD
    refine ⟨_, _, rfl, rfl, 1, 15 + 1, rfl, ⟨by omega, by omega, by omega, by omega⟩, ?_⟩
    refine for_range (lo := 1) (n := 15) (fun i σ H' => Same H H' ∧ ∃ v3 v4, σ = [some (.ref x), some (.int (m : Nat)), some (.ref D), v3, v4] ∧ H' D = some (.lst (natsV (Jm.cnt 15 (Jm.airKs p (m % p.length) i))))) ⟨s1, none, none, rfl, upd_same⟩ ?_ ?_
    · rintro i σ H' hi ⟨s2, v3, v4, rfl, hDv⟩
      have hbi := Jm.backIx_lt hp1 (m % p.length) i
      obtain ⟨y, b, e1, e2, e3, e4⟩ := PatAt.at (x := x) hP hbi
      have hat : atI ws ((((m : Nat) : Int) - (1 + (i : Int))) % ((ws.length : Nat) : Int)) = some (V.ref y) := at_of (j := Jm.backIx p (m % p.length) i) (by rw [hl]; exact Jm.backIx_int hp1 (by omega)) e1
      obtain ⟨g1, g2, g3⟩ := hG b (List.mem_of_getElem? e2)
      refine ⟨_, rfl, _, rfl, _, rfl, _, _, rfl, rfl, _, rfl, _, _, rfl, .inl (SqL.of (s2 _ _ hx)), _, _, rfl, rfl, by show (0 : Int) < (ws.length : Nat); omega, x, _, _, _, rfl, rfl, SqL.of (s2 _ _ hx), hat, y, rfl, ⟨_, SqL.of (s2 _ _ e4)⟩, ?_⟩
      refine for_list (xs := natsV b) (fun j σ H'' => Same H H'' ∧ ∃ v4, σ = [some (.ref x), some (.int (m : Nat)), some (.ref D), some (.int (1 + (i : Int))), v4] ∧ H'' D = some (.lst (natsV (Jm.cnt 15 (Jm.airKs p (m % p.length) i ++ ((b.take j).filter fun h => decide (i + 1 ≤ h)).map fun h => h - (i + 1))))))
        ⟨s2, v4, rfl, by rw [List.take_zero, List.filter_nil, List.map_nil, List.append_nil]; exact hDv⟩ (fun j σ H'' _ ⟨s3, _⟩ => SqL.of (s3 _ _ e4)) ?_ ?_
      · rintro j w σ H'' hj ⟨s3, v5, rfl, hDw⟩
        obtain ⟨n, en', rfl⟩ := natsV_get hj
        have hn := g2 n (List.mem_of_getElem? en')
        refine ⟨_, rfl, _, rfl, _, _, rfl, rfl, _, rfl, ite2 (fun hc => ?_) (fun hc => ?_)⟩
        · have hc : (1 + (i : Int)) ≤ (n : Int) := of_decide_eq_true hc
          have hlt : n - (i + 1) < 15 := by omega
          have em : ((n : Nat) : Int) - (1 + (i : Int)) = ((n - (i + 1) : Nat) : Int) := by omega
          refine ⟨_, rfl, _, rfl, _, rfl, _, _, rfl, rfl, ?_⟩
          refine ⟨D, _, n - (i + 1), _, rfl, congrArg V.int em, SqL.of hDw, natsV_at (Jm.cnt_at _ hlt), _, _, rfl, rfl, D, _, _, n - (i + 1), rfl, congrArg V.int em, hDw, ?_, ?_⟩
          · rw [natsV_length, Jm.cnt_length]
            exact ixN_nat hlt
          · refine ⟨s3.own hDH, _, rfl, ?_⟩
            rw [upd_same, bump_ok hlt, take_snoc en', List.filter_append, List.filter_cons, if_pos (decide_eq_true (by omega)), List.map_append, ← List.append_assoc]
            rfl
        · have hc : ¬ (1 + (i : Int)) ≤ (n : Int) := fun q => hc (decide_eq_true q)
          refine ⟨s3, _, rfl, ?_⟩
          rw [take_snoc en', List.filter_append, List.filter_cons, if_neg (by simp; omega), List.filter_nil, List.append_nil]
          exact hDw
      · rintro σ H'' ⟨s3, v5, rfl, hDw⟩
        refine ⟨s3, _, _, rfl, ?_⟩
        rw [natsV_length, List.take_length, ← e3] at hDw
        rw [Jm.airKs_succ]
        exact hDw
    · rintro σ H' ⟨s2, v3, v4, rfl, hDv⟩
      refine ⟨_, rfl, D, _, rfl, .inl ⟨SqL.of hDv, fun l hl' => ?_⟩⟩
      refine k l _ (s2.new hl') (s2.free hl') ?_
      rw [upd_same, Jm.airAt_cnt]
end
end Jp

set_option Elab.async false
set_option linter.all false
set_option maxRecDepth 100000
set_option maxHeartbeats 4000000
namespace Jp
open PySem PySem.Spec PyProof.Rows L2
section
variable {P : Program} {w : World} {K : PySem.W.Frag} {mg : Str → Option Value} {base : Heap}
def sp_first_landings (K : PySem.W.Frag) : Sp := fun vs H Q _ => ∃ (v : V) (p : Jug.Pattern), vs = [v] ∧ PatAt H v p ∧ (∀ b ∈ p, Jm.GoodBeat b) ∧ 1 ≤ p.length ∧ p.length ≤ 16 ∧
  ∀ (D : Addr) (zs : List Addr) H', Same H H' → LandAt H H' D zs (Jm.whoL (Jm.startW 0 (Jug.airAt p 0))) → zs.length = 15 → Q (.ref D) H'
theorem sc_first_landings : FnScope ["beats", "state", "landings", "numbered", "landing"] ["beats"] (defScope s_first_landings) := ⟨rfl, rfl, rfl, by decide +kernel, rfl, by decide +kernel, by decide +kernel⟩
theorem ok_first_landings {f : Addr} {fd : FuncData} (F : Fun K "first_landings" "first_landings" s_first_landings f fd) (T : Txt mg) (d_state_before : Def P w K mg base "state_before" ["beats", "moment"] 1 (sp_state_before K)) : FnOk P w K mg base CX0 2 f fd ["beats"] (sp_first_landings K) := by
  have sc := sc_first_landings
  refine F.ok sc (fun vs H Q E h => ?_) (fun cdv A outer s H vs Q E hr h => ?_)
  · obtain ⟨v, p, rfl, _⟩ := h
    rfl
  · obtain ⟨v, p, rfl, hPat, hG, hp1, hp16, k⟩ := h
    refine ⟨_, (pss_cons (ps_set (i := 1) sc.nd rfl (by first | exact Or.inl rfl | exact Or.inr rfl) (pcall d_state_before (hr.mono (by decide)) (pa_cons (pv 0) (pa_cons pe_int pa_nil))))
      (pss_cons (ps_set (i := 2) sc.nd rfl (by first | exact Or.inl rfl | exact Or.inr rfl) (pe_lst pa_nil))
      (pss_cons (ps_set (i := 3) sc.nd rfl (by first | exact Or.inl rfl | exact Or.inr rfl) pe_int)
      (pss_cons (ps_for PassesOwn.never rfl (pi_tup (pv 1)) (pg_name (i := 4) sc.nd rfl (by first | exact Or.inl rfl | exact Or.inr rfl))
      (pss_cons (ps_expr (pe_bm PySem.F.plainAttrs_list PySem.F.slot_list_append PySem.F.type_list_append mt_append (pv 2) (pa_cons (pe_ofK (pk_range2 rfl (by rfl) T.b_range (pa_cons (pv 3) (pa_cons (pe_op op_add (pv 3) (pv 4)) pa_nil))) (by rfl) T.b_list PyProof.Rows.boot_list) pa_nil)))
      (pss_one (ps_aug (i := 3) sc.nd rfl (by first | exact Or.inl rfl | exact Or.inr rfl) (pv 4) ip_add))))
      (pss_one (ps_ret (pv 2))))))), ?_⟩
    refine ⟨_, rfl, v, p, 0, rfl, hPat, hG, hp1, hp16, fun x H1 s1 hx0 hx => ?_⟩
    rw [Nat.zero_mod] at hx
    refine ⟨by show 0 ≤ sizeLine; decide, fun D hD => ?_⟩
    have hDH := s1.free hD
    have hx2 : upd H1 D (.lst []) x = some (.tup (natsV (Jug.airAt p 0))) := by rw [upd_ne (ne_of_none hx hD)]; exact hx
    have hl15 := Jm.air_len15 p 0
    have hsm := Jm.air_small (p := p) (fun b hb => (hG b hb).1) 0
    refine ⟨_, rfl, x, rfl, ⟨_, SqT.of hx2⟩, ?_⟩
    refine for_tup (xs := natsV (Jug.airAt p 0)) (fun i σ H' => Same H H' ∧ H' x = some (.tup (natsV (Jug.airAt p 0))) ∧ ∃ (zs : List Addr) (nv : Int) (v4 : Option V), σ = [some v, some (.ref x), some (.ref D), some (.int nv), v4] ∧ nv = ((((Jug.airAt p 0).take i).sum : Nat) : Int) ∧ zs.length = i ∧ LandAt H H' D zs (Jm.whoL (Jm.startW 0 (Jug.airAt p 0))))
      ⟨s1.new hD, hx2, [], 0, none, rfl, rfl, rfl, upd_same, hDH, fun z hz => (by cases hz), List.nodup_nil, by simp, fun j z hj => by simp at hj⟩ (fun i σ H' _ h => SqT.of h.2.1) ?_ ?_
    · rintro i w σ H' hi ⟨s2, hx', zs, nv, v4, rfl, rfl, hzl, hL⟩
      obtain ⟨n, en, rfl⟩ := natsV_get hi
      have hil : i < (Jug.airAt p 0).length := (List.getElem?_eq_some_iff.mp en).1
      have hsum : ((Jug.airAt p 0).take (i + 1)).sum = ((Jug.airAt p 0).take i).sum + n := by rw [take_snoc en, List.sum_append]; simp
      have hle := Jm.take_sum_le (Jug.airAt p 0) (i + 1)
      have hgd : (Jug.airAt p 0).getD i 0 = n := by simp [List.getD, en]
      refine ⟨_, rfl, .inl ⟨rfl, _, SqL.of hL.top⟩, _, rfl, _, rfl, _, rfl, _, _, rfl, rfl, ((Jug.airAt p 0).take i).sum, n, by rw [Int.natCast_add], by omega, fun l hl => ?_⟩
      have hDl : D ≠ l := ne_of_none hL.top hl
      refine ⟨D, _, _, rfl, rfl, by rw [upd_ne hDl]; exact hL.top, ?_, ?_⟩
      · rw [List.length_map]
        exact small1000 (by omega)
      refine ⟨_, rfl, _, rfl, _, _, rfl, rfl, (s2.new hl).own hDH, ?_, zs ++ [l], _, _, rfl, by rw [hsum]; exact (Int.natCast_add _ _).symm, by rw [List.length_append, hzl]; rfl, ?_⟩
      · have hxD : x ≠ D := fun e => by rw [e, hL.top] at hx'; cases hx'
        rw [upd_ne hxD, upd_ne (ne_of_none hx' hl)]
        exact hx'
      · have hlz : l ∉ zs := fun hm => by
          obtain ⟨j, hj⟩ := List.getElem?_of_mem hm
          rw [hL.cell j l hj] at hl
          cases hl
        refine ⟨by rw [upd_same, List.map_append]; rfl, hDH, fun z hz => ?_, ?_, ?_, fun j z hj => ?_⟩
        · rcases List.mem_append.mp hz with q | q
          · exact hL.newz z q
          · rw [List.mem_singleton.mp q]
            exact s2.free hl
        · exact List.nodup_append.mpr ⟨hL.nd, by simp, fun a ha b hb e => hlz (by rw [List.mem_singleton.mp hb] at e; rw [← e]; exact ha)⟩
        · intro hm
          rcases List.mem_append.mp hm with q | q
          · exact hL.off q
          · exact hDl (List.mem_singleton.mp q)
        · by_cases hjl : j < zs.length
          · rw [List.getElem?_append_left hjl] at hj
            have hc := hL.cell j z hj
            have hzD : z ≠ D := fun e => hL.off (e ▸ List.mem_of_getElem? hj)
            rw [upd_ne hzD, upd_ne (ne_of_none hc hl)]
            exact hc
          · have hjl2 := (List.getElem?_eq_some_iff.mp hj).1
            rw [List.length_append, List.length_singleton] at hjl2
            have ej : j = zs.length := by omega
            subst ej
            rw [List.getElem?_append_right (Nat.le_refl _), Nat.sub_self] at hj
            cases hj
            rw [upd_ne (Ne.symm hDl), upd_same, Jm.whoL_start, hzl, hgd]
    · rintro σ H' ⟨s2, hx', zs, nv, v4, rfl, rfl, hzl, hL⟩
      rw [natsV_length, hl15] at hzl
      exact ⟨_, rfl, k D zs _ s2 hL hzl⟩
end
end Jp

set_option Elab.async false
set_option linter.all false
set_option maxRecDepth 100000
set_option maxHeartbeats 4000000
namespace Jp
open PySem PySem.Spec PyProof.Rows L2
section
variable {P : Program} {w : World} {K : PySem.W.Frag} {mg : Str → Option Value} {base : Heap}
def sp_ball_throws (K : PySem.W.Frag) : Sp := fun vs H Q _ => ∃ (v : V) (p : Jug.Pattern) (m : Nat), vs = [v, .int (m : Nat)] ∧ PatAt H v p ∧ (∀ b ∈ p, Jm.GoodBeat b) ∧ 1 ≤ p.length ∧ p.length ≤ 16 ∧ Jug.clash p = none ∧ m ≤ 240 ∧
  ∀ (R : Addr) (us : List V) H', Same H H' → H R = none → H' R = some (.lst us) → Paired (PairsAt H') us (Jm.runW p m 0 (Jm.startW 0 (Jug.airAt p 0))) → Q (.ref R) H'
theorem sc_ball_throws : FnScope ["beats", "end", "landings", "moment", "throws", "pairs", "pair"] ["beats", "end"] (defScope s_ball_throws) := ⟨rfl, rfl, rfl, by decide +kernel, rfl, by decide +kernel, by decide +kernel⟩
theorem ok_ball_throws {f : Addr} {fd : FuncData} (F : Fun K "ball_throws" "ball_throws" s_ball_throws f fd) (T : Txt mg) (d_first_landings : Def P w K mg base "first_landings" ["beats"] 2 (sp_first_landings K)) : FnOk P w K mg base CX0 3 f fd ["beats", "end"] (sp_ball_throws K) := by
  have sc := sc_ball_throws
  refine F.ok sc (fun vs H Q E h => ?_) (fun cdv A outer s H vs Q E hr h => ?_)
  · obtain ⟨v, p, m, rfl, _⟩ := h
    rfl
  · obtain ⟨v, p, m, rfl, hPat, hG, hp1, hp16, hcl, hm, k⟩ := h
    refine ⟨_, (pss_cons (ps_set (i := 2) sc.nd rfl (by first | exact Or.inl rfl | exact Or.inr rfl) (pe_op op_cat (pcall d_first_landings (hr.mono (by decide)) (pa_cons (pv 0) pa_nil)) (pe_lc rfl sc.nd (pi_range1 rfl T.b_range (pa_cons (pv 1) pa_nil)) (own := [("moment", 3)]) (blkOk_by (N := ["beats", "end", "landings", "moment", "throws", "pairs", "pair"]) (sc := defScope s_ball_throws) (by decide +kernel)) (fun _ _ _ _ _ => pg_name (i := 3) sc.nd rfl (by first | exact Or.inl rfl | exact Or.inr rfl)) (fun _ _ _ _ _ => pts_nil) (fun _ _ _ _ _ => (pe_lst pa_nil)))))
      (pss_cons (ps_set (i := 4) sc.nd rfl (by first | exact Or.inl rfl | exact Or.inr rfl) (pe_lst pa_nil))
      (pss_cons (ps_for PassesOwn.never rfl (pi_range1 rfl T.b_range (pa_cons (pv 1) pa_nil)) (pg_name (i := 3) sc.nd rfl (by first | exact Or.inl rfl | exact Or.inr rfl))
      (pss_cons (ps_set (i := 5) sc.nd rfl (by first | exact Or.inl rfl | exact Or.inr rfl) (pe_ofK (pk_zip rfl (by rfl) T.b_zip (pa_cons (pe_callB cr_sorted (by rfl) T.b_sorted PyProof.Rows.boot_sorted (pa_cons (pe_ix ix_list (pv 2) (pv 3) (fun _ _ => rfl)) pa_nil)) (pa_cons (pe_ix ix_list (pv 0) (pe_op op_mod (pv 3) (pe_callB call_len_seq (by rfl) T.b_len PySem.boot_len (pa_cons (pv 0) pa_nil))) (fun _ _ => rfl)) pa_nil))) (by rfl) T.b_list PyProof.Rows.boot_list))
      (pss_cons (ps_for PassesOwn.never rfl (pi_list (pv 5)) (pg_name (i := 6) sc.nd rfl (by first | exact Or.inl rfl | exact Or.inr rfl))
      (pss_one (ps_expr (pe_bm PySem.F.plainAttrs_list PySem.F.slot_list_append PySem.F.type_list_append mt_append (pe_ix ix_list (pv 2) (pe_op op_add (pv 3) (pe_ix ix_tup (pv 6) pe_int (fun _ _ => rfl))) (fun _ _ => rfl)) (pa_cons (pe_ix ix_tup (pv 6) pe_int (fun _ _ => rfl)) pa_nil)))))
      (pss_one (ps_expr (pe_bm PySem.F.plainAttrs_list PySem.F.slot_list_append PySem.F.type_list_append mt_append (pv 4) (pa_cons (pv 5) pa_nil)))))))
      (pss_one (ps_ret (pv 4)))))), ?_⟩
    have hLow : Jm.Low p := fun b hb => (hG b hb).2.1
    have em : ((m : Nat) : Int).toNat = m := by omega
    obtain ⟨bx, ws, rfl, hbx, hP⟩ := hPat
    have hwl := hP.length
    refine ⟨_, rfl, .ref bx, p, rfl, ⟨bx, ws, rfl, hbx, hP⟩, hG, hp1, hp16, fun D0 zs0 H1 s1 hL0 hz15 => ?_⟩
    -- [[] for moment in range(end)]
    refine ⟨_, rfl, _, rfl, by omega, by omega, fun C hC => ?_⟩
    rw [em]
    have hCH := s1.free hC
    refine lc_range (fun i H' => Same H1 H' ∧ ∃ ys : List Addr, ys.length = i ∧ LandAt H1 H' C ys (fun _ => [])) ⟨(Same.refl H1).new hC, [], rfl, upd_same, hC, fun z hz => (by cases hz), List.nodup_nil, by simp, fun j z hj => by simp at hj⟩ ?_ ?_
    · rintro i H' hi ⟨s2, ys, hyl, hLC⟩
      refine ⟨rfl, ?_⟩
      unfold tYes
      dsimp only
      rw [if_pos rfl]
      refine ⟨by show 0 ≤ sizeLine; decide, fun l hl => ?_⟩
      have hCl : C ≠ l := ne_of_none hLC.top hl
      refine ⟨_, by rw [upd_ne hCl]; exact hLC.top, ?_, (s2.new hl).own hC, ys ++ [l], by rw [List.length_append, hyl]; rfl, ?_⟩
      · rw [List.length_map]
        exact small1000 (by omega)
      · have hly : l ∉ ys := fun hm => by
          obtain ⟨j, hj⟩ := List.getElem?_of_mem hm
          rw [hLC.cell j l hj] at hl
          cases hl
        refine ⟨by rw [upd_same, List.map_append]; rfl, hC, fun z hz => ?_, ?_, ?_, fun j z hj => ?_⟩
        · rcases List.mem_append.mp hz with q | q
          · exact hLC.newz z q
          · rw [List.mem_singleton.mp q]
            exact s2.free hl
        · exact List.nodup_append.mpr ⟨hLC.nd, by simp, fun a ha b hb e => hly (by rw [List.mem_singleton.mp hb] at e; rw [← e]; exact ha)⟩
        · intro hm
          rcases List.mem_append.mp hm with q | q
          · exact hLC.off q
          · exact hCl (List.mem_singleton.mp q)
        · have hzC : z ≠ C := fun e => by
            have hmm := List.mem_of_getElem? hj
            rw [e] at hmm
            rcases List.mem_append.mp hmm with q | q
            · exact hLC.off q
            · exact hCl (List.mem_singleton.mp q)
          rw [upd_ne hzC]
          by_cases hjl : j < ys.length
          · rw [List.getElem?_append_left hjl] at hj
            have hc := hLC.cell j z hj
            rw [upd_ne (ne_of_none hc hl)]
            exact hc
          · have hjl2 := (List.getElem?_eq_some_iff.mp hj).1
            rw [List.length_append, List.length_singleton] at hjl2
            have ej : j = ys.length := by omega
            subst ej
            rw [List.getElem?_append_right (Nat.le_refl _), Nat.sub_self] at hj
            cases hj
            rw [upd_same]
            rfl
    rintro H2 ⟨s2, ys, hyl, hLC⟩
    have hL2 := hL0.keep s2
    -- landings
    refine ⟨D0, C, _, _, rfl, rfl, hL2.top, hLC.top, by rw [List.length_map, List.length_map]; exact Nat.le_of_lt (small1000 (by omega)), fun D hD => ?_⟩
    have s12 := s1.trans s2
    have hDH := s12.free hD
    have hzl : (zs0 ++ ys).length = 15 + m := by rw [List.length_append, hz15, hyl]
    generalize hzs : zs0 ++ ys = zs at hzl
    have hL3 : LandAt H (upd H2 D (.lst (zs0.map V.ref ++ ys.map V.ref))) D zs (Jm.whoL (Jm.waits p 0)) := by
      subst hzs
      have hdis : ∀ a ∈ zs0, ∀ b ∈ ys, a ≠ b := fun a ha b hb e => by
        obtain ⟨j, hj⟩ := List.getElem?_of_mem ha
        have h1 := hL0.cell j a hj
        rw [e, hLC.newz b hb] at h1
        cases h1
      refine ⟨by rw [upd_same, List.map_append], hDH, fun z hz => ?_, List.nodup_append.mpr ⟨hL0.nd, hLC.nd, hdis⟩, fun hmm => ?_, fun j z hj => ?_⟩
      · rcases List.mem_append.mp hz with q | q
        · exact hL0.newz z q
        · exact s1.free (hLC.newz z q)
      · rcases List.mem_append.mp hmm with q | q
        · obtain ⟨j, hj⟩ := List.getElem?_of_mem q
          rw [hL2.cell j D hj] at hD
          cases hD
        · obtain ⟨j, hj⟩ := List.getElem?_of_mem q
          rw [hLC.cell j D hj] at hD
          cases hD
      · by_cases hjl : j < zs0.length
        · rw [List.getElem?_append_left hjl] at hj
          have hc := hL2.cell j z hj
          rw [upd_ne (ne_of_none hc hD)]
          exact hc
        · rw [List.getElem?_append_right (by omega)] at hj
          have hc := hLC.cell _ z hj
          rw [upd_ne (ne_of_none hc hD), hc, show Jm.waits p 0 = Jm.startW 0 (Jug.airAt p 0) from rfl, Jm.whoL_start]
          have : (Jug.airAt p 0).getD j 0 = 0 := by
            have := Jm.air_len15 p 0
            rw [List.getD, List.getElem?_eq_none (by omega)]
            rfl
          rw [this]
          rfl
    have s3 : Same H (upd H2 D (.lst (zs0.map V.ref ++ ys.map V.ref))) := s12.new hD
    generalize upd H2 D (.lst (zs0.map V.ref ++ ys.map V.ref)) = H3 at hL3 s3 ⊢
    -- throws = []
    refine ⟨by show 0 ≤ sizeLine; decide, fun R hR => ?_⟩
    have hRH := s3.free hR
    have hRz : R ∉ zs := fun hmm => by
      obtain ⟨j, hj⟩ := List.getElem?_of_mem hmm
      rw [hL3.cell j R hj] at hR
      cases hR
    have hRD : R ≠ D := fun e => by rw [e, hL3.top] at hR; cases hR
    refine ⟨_, rfl, _, rfl, by omega, by omega, ?_⟩
    rw [em]
    refine for_range (fun i σ H' => Same H H' ∧ ∃ (us : List V) (L : Nat → List Nat) (v3 v5 v6 : Option V), σ = [some (.ref bx), some (.int (m : Nat)), some (.ref D), v3, some (.ref R), v5, v6] ∧ H' R = some (.lst us) ∧ Paired (PairsAt (Off (R :: zs) H')) us ((List.range i).map fun t => (Jm.nowW (Jm.waits p t)).zip (p.getD (t % p.length) [])) ∧ LandAt H H' D zs L ∧ ∀ j, i ≤ j → j < 15 + m → (L j).Perm (Jm.whoL (Jm.waits p i) (j - i)))
      ⟨s3.new hR, [], _, none, none, none, rfl, upd_same, .nil, hL3.keep ((Same.refl H3).new hR), fun j _ _ => List.Perm.refl _⟩ ?_ ?_
    · rintro i σ H4 hi ⟨s4, us, L, v3, v5, v6, rfl, hR4, hus, hL4, hperm⟩
      have ei : (0 : Int) + (i : Int) = ((i : Nat) : Int) := Int.zero_add _
      have hW := Jm.waits_ok hp1 hLow hcl i
      have hnow := hW.now hp1 hLow hcl
      have hil : i < zs.length := by omega
      have hzi : zs[i]? = some zs[i] := List.getElem?_eq_getElem hil
      generalize zs[i] = zi at hzi
      have hci := hL4.cell i zi hzi
      have hat1 : atI (zs.map V.ref) ((0 : Int) + (i : Int)) = some (V.ref zi) := at_of (j := i) ei (by rw [List.getElem?_map, hzi]; rfl)
      have hmod : i % p.length < p.length := Nat.mod_lt _ hp1
      obtain ⟨y, b, e1, e2, e3, e4⟩ := PatAt.at (x := bx) hP hmod
      have hat2 : atI ws (((0 : Int) + (i : Int)) % ((ws.length : Nat) : Int)) = some (V.ref y) := at_of (j := i % p.length) (by rw [ei, hwl, Int.natCast_emod]) e1
      have eb : p.getD (i % p.length) [] = b := e3
      obtain ⟨gb1, gb2, gb3⟩ := hG b (List.mem_of_getElem? e2)
      have hp0 := hperm i (Nat.le_refl _) (by omega)
      rw [Nat.sub_self, Jm.whoL_now] at hp0
      have hll : (L i).length < 64 := by
        rw [hp0.length_eq, hnow, eb]
        omega
      -- sorted(landings[moment])
      refine ⟨_, rfl, _, rfl, D, _, _, _, rfl, rfl, SqL.of hL4.top, hat1, zi, (L i).map Int.ofNat, rfl, SqL.of (by rw [hci, natsV_int]), by rw [List.length_map]; exact hll, fun ns P hns1 hns2 hP0 => ?_⟩
      rw [sorted_nats hns1 hns2 (Jm.whoL_sorted (Jm.waits p i) 0) hp0]
      have hbx5 : ∀ o, upd H4 P o bx = some (.lst ws) := fun o => by rw [upd_ne (ne_of_none (s4 _ _ hbx) hP0)]; exact s4 _ _ hbx
      have hy5 : ∀ o, upd H4 P o y = some (.lst (natsV b)) := fun o => by rw [upd_ne (ne_of_none (s4 _ _ e4) hP0)]; exact s4 _ _ e4
      refine ⟨_, rfl, _, rfl, _, rfl, _, _, rfl, .inl (SqL.of (hbx5 _)), _, _, rfl, rfl, by show (0 : Int) < (ws.length : Nat); omega, bx, _, _, _, rfl, rfl, SqL.of (hbx5 _), hat2, P, y, _, _, rfl, SqL.of upd_same, SqL.of (hy5 _), fun l ts H5 s5 hl0 hl5 htl hts => ?_⟩
      have s45 : Same H4 H5 := ((Same.refl H4).new hP0).trans s5
      have hzp : ((Jm.nowW (Jm.waits p i)).zip b).length = ts.length := by
        rw [htl, List.length_map, List.length_map, natsV_length, List.length_zip]
        rfl
      generalize hz : (Jm.nowW (Jm.waits p i)).zip b = zp at hzp
      have hlS : l ∉ R :: zs := fun hmm => by
        have : H4 l = none := ((Same.refl H4).new hP0).free hl0
        rcases List.mem_cons.mp hmm with q | q
        · rw [q, hR4] at this; cases this
        · obtain ⟨j, hj⟩ := List.getElem?_of_mem q
          rw [hL4.cell j l hj] at this; cases this
      have hTS : ∀ (j : Nat) T, ts[j]? = some T → T ∉ R :: zs ∧ ∃ w, zp[j]? = some w ∧ H5 T = some (.tup [.int ((w.1 : Nat) : Int), .int ((w.2 : Nat) : Int)]) := fun j T hj => by
        obtain ⟨t0, x', y', f1, f2, f3⟩ := hts j T hj
        have t4 : H4 T = none := ((Same.refl H4).new hP0).free t0
        refine ⟨fun hmm => ?_, ?_⟩
        · rcases List.mem_cons.mp hmm with q | q
          · rw [q, hR4] at t4; cases t4
          · obtain ⟨j', hj'⟩ := List.getElem?_of_mem q
            rw [hL4.cell j' T hj'] at t4; cases t4
        · rw [List.map_map, List.getElem?_map] at f1
          obtain ⟨n2, g2, rfl⟩ := natsV_get f2
          cases q : (Jm.whoL (Jm.waits p i) 0)[j]? with
          | none => rw [q] at f1; cases f1
          | some n1 =>
            rw [q] at f1
            cases f1
            refine ⟨(n1, n2), ?_, f3⟩
            rw [← hz, List.getElem?_zip_eq_some]
            exact ⟨q, g2⟩
      have hpairs : PairsAt (Off (R :: zs) H5) (.ref l) zp := ⟨l, ts, rfl, by rw [off_get hlS]; exact hl5, hzp.symm, fun j T hj => by
        obtain ⟨q1, w, q2, q3⟩ := hTS j T hj
        exact ⟨w, q2, by rw [off_get q1]; exact q3⟩⟩
      -- for pair in pairs
      refine ⟨_, rfl, l, rfl, ⟨_, SqL.of hl5⟩, ?_⟩
      have hL5 := hL4.keep s45
      refine for_list (xs := ts.map V.ref) (fun q σ H6 => Same H H6 ∧ (∃ v6, σ = [some (.ref bx), some (.int (m : Nat)), some (.ref D), some (.int ((0 : Int) + (i : Int))), some (.ref R), some (.ref l), v6]) ∧ H6 R = some (.lst us) ∧ Off (R :: zs) H6 = Off (R :: zs) H5 ∧ LandAt H H6 D zs (fun j => L j ++ ((zp.take q).filter fun y => i + y.2 == j).map Prod.fst))
        ⟨s4.trans s45, ⟨_, rfl⟩, s45 _ _ hR4, rfl, hL5.congr fun j _ => by simp⟩ (fun q σ H6 _ h => SqL.of (off_some (S := R :: zs) (by rw [h.2.2.2.1, off_get hlS]; exact hl5))) ?_ ?_
      · rintro q w σ H6 hq ⟨s6, ⟨v6, rfl⟩, hR6, hoff, hL6⟩
        rw [List.getElem?_map] at hq
        cases hqT : ts[q]? with
        | none => rw [hqT] at hq; cases hq
        | some T =>
          rw [hqT] at hq
          cases hq
          obtain ⟨q1, ⟨ball, hh⟩, q2, q3⟩ := hTS q T hqT
          have hT6 : H6 T = some (.tup [.int ((ball : Nat) : Int), .int ((hh : Nat) : Int)]) := off_some (S := R :: zs) (by rw [hoff, off_get q1]; exact q3)
          have hhb : hh ∈ b := (List.of_mem_zip (by rw [hz]; exact List.mem_of_getElem? q2)).2
          have hh15 := (gb2 hh hhb).2
          have hjl : i + hh < zs.length := by omega
          have hzj : zs[i + hh]? = some zs[i + hh] := List.getElem?_eq_getElem hjl
          generalize zs[i + hh] = zj at hzj
          have hcj := hL6.cell _ zj hzj
          have hat3 : atI (zs.map V.ref) (((0 : Int) + (i : Int)) + ((hh : Nat) : Int)) = some (V.ref zj) := at_of (j := i + hh) (by rw [ei, Int.natCast_add]) (by rw [List.getElem?_map, hzj]; rfl)
          have hb0 : atI [V.int ((ball : Nat) : Int), V.int ((hh : Nat) : Int)] 0 = some (V.int ((ball : Nat) : Int)) := rfl
          have hb1 : atI [V.int ((ball : Nat) : Int), V.int ((hh : Nat) : Int)] 1 = some (V.int ((hh : Nat) : Int)) := rfl
          refine ⟨_, rfl, _, rfl, _, rfl, T, _, _, _, rfl, rfl, SqT.of hT6, hb1, _, _, rfl, rfl, D, _, _, _, rfl, rfl, SqL.of hL6.top, hat3, .inl ⟨rfl, _, SqL.of hcj⟩, _, rfl, T, _, _, _, rfl, rfl, SqT.of hT6, hb0, zj, _, _, rfl, rfl, hcj, ?_, ?_⟩
          · rw [natsV_length, List.length_append, List.length_map]
            have h1 := (hperm (i + hh) (by omega) (by omega)).length_eq
            have h2 : (Jm.whoL (Jm.waits p i) (i + hh - i)).length ≤ (Jm.waits p i).length := by
              have := List.length_filter_le (fun x => (Jm.waits p i).getD x 0 == i + hh - i) (List.range (Jm.waits p i).length)
              rw [List.length_range] at this
              exact this
            have h3 := Jm.waits_len p i
            have h4 := Jm.air_small (p := p) (fun b hb => (hG b hb).1) 0
            have h5 := List.length_filter_le (fun (y : Nat × Nat) => i + y.2 == i + hh) (zp.take q)
            have h6 : (zp.take q).length ≤ 3 := by
              rw [List.length_take, ← hz, List.length_zip]
              omega
            exact small1000 (by omega)
          have hzm : zj ∈ R :: zs := List.mem_cons_of_mem _ (List.mem_of_getElem? hzj)
          have hzR : R ≠ zj := fun e => hRz (by rw [e]; exact List.mem_of_getElem? hzj)
          refine ⟨s6.own (hL6.newz zj (List.mem_of_getElem? hzj)), ⟨_, rfl⟩, by rw [upd_ne hzR]; exact hR6, by rw [off_upd hzm]; exact hoff, (hL6.put hzj).congr fun j _ => ?_⟩
          rw [take_snoc q2, List.filter_append, List.map_append, ← List.append_assoc]
          by_cases e : j = i + hh
          · subst e
            rw [if_pos rfl, List.filter_cons, if_pos (by simp)]
            rfl
          · rw [if_neg e, List.filter_cons, if_neg (by simp; omega), List.filter_nil, List.map_nil, List.append_nil]
      · rintro σ H6 ⟨s6, ⟨v6, rfl⟩, hR6, hoff, hL6⟩
        rw [List.length_map, ← hzp, List.take_length] at hL6
        -- throws.append(pairs)
        refine ⟨_, rfl, .inl ⟨rfl, _, SqL.of hR6⟩, _, rfl, R, _, _, rfl, rfl, hR6, ?_, s6.own hRH, us ++ [.ref l], (fun j => L j ++ (zp.filter fun y => i + y.2 == j).map Prod.fst), _, _, _, rfl, upd_same, ?_, ?_, fun j h1 h2 => ?_⟩
        · rw [hus.length, List.length_map, List.length_range]
          exact small1000 (by omega)
        · rw [off_upd List.mem_cons_self, hoff, List.range_succ, List.map_append]
          refine Paired.snoc (Paired.imp' (fun _ _ q => q.same (off_same s45)) hus) ?_
          show PairsAt _ _ ((Jm.nowW (Jm.waits p i)).zip (p.getD (i % p.length) []))
          rw [eb, hz]
          exact hpairs
        · have hDR : D ≠ R := Ne.symm hRD
          exact ⟨by rw [upd_ne hDR]; exact hL6.top, hL6.new, hL6.newz, hL6.nd, hL6.off, fun j z hj => by rw [upd_ne (fun e => hRz (by rw [← e]; exact List.mem_of_getElem? hj))]; exact hL6.cell j z hj⟩
        · have hstep := Jm.who_step (W := Jm.waits p i) (b := b) (by rw [hnow, eb]) (fun h hh => (gb2 h hh).1) (j - (i + 1))
          have h3 := hperm j (by omega) h2
          rw [show j - i = j - (i + 1) + 1 by omega] at h3
          have ew : Jm.waits p (i + 1) = Jm.stepW (Jm.waits p i) b := by
            show Jm.stepW (Jm.waits p i) (p.getD (i % p.length) []) = _
            rw [eb]
          rw [ew]
          refine (List.Perm.append_right _ h3).trans ?_
          rw [← hz]
          have ef : (((Jm.nowW (Jm.waits p i)).zip b).filter fun y => i + y.2 == j) = (((Jm.nowW (Jm.waits p i)).zip b).filter fun y => y.2 == j - (i + 1) + 1) := List.filter_congr fun y _ => by
            rw [Bool.eq_iff_iff, beq_iff_eq, beq_iff_eq]
            omega
          rw [ef]
          exact hstep
    · rintro σ H4 ⟨s4, us, L, v3, v5, v6, rfl, hR4, hus, hL4, hperm⟩
      rw [← Jm.run_take] at hus
      exact ⟨_, rfl, k R us _ s4 hRH hR4 (Paired.imp' (fun _ _ q => q.same fun b o e => off_some e) hus)⟩
end
end Jp

set_option Elab.async false
set_option linter.all false
set_option maxRecDepth 100000
set_option maxHeartbeats 4000000
namespace Jp
open PySem PySem.Spec PyProof.Rows L2
section
variable {P : Program} {w : World} {K : PySem.W.Frag} {mg : Str → Option Value} {base : Heap}
def sp_runs (K : PySem.W.Frag) : Sp := fun vs H Q _ => ∃ (a : Addr) (m n : Int) (t : List Int), vs = [.int m, .int n, .ref a] ∧ 0 ≤ m ∧ 0 ≤ n ∧ SqL K H a (t.map V.int) ∧ Jm.Ok8 t ∧ t.length ≤ 64 ∧
  ∀ v H', IntsAt H' v (PyWrjugg.runs m n t) → Q v H'
theorem sc_runs : FnScope ["since", "beats", "t", "refusal", "answer", "pairs", "pair"] ["since", "beats", "t"] (defScope s_runs) := ⟨rfl, rfl, rfl, by decide +kernel, rfl, by decide +kernel, by decide +kernel⟩
theorem ok_runs {f : Addr} {fd : FuncData} (F : Fun K "runs" "runs" s_runs f fd) (T : Txt mg) (d_pattern_refusal : Def P w K mg base "pattern_refusal" ["t"] 5 (sp_pattern_refusal K)) (d_ball_throws : Def P w K mg base "ball_throws" ["beats", "end"] 3 (sp_ball_throws K)) (d_read_beats : Def P w K mg base "read_beats" ["t"] 2 (sp_read_beats K)) : FnOk P w K mg base CX0 6 f fd ["since", "beats", "t"] (sp_runs K) := by
  have sc := sc_runs
  refine F.ok sc (fun vs H Q E h => ?_) (fun cdv A outer s H vs Q E hr h => ?_)
  · obtain ⟨a, m, n, t, rfl, _⟩ := h
    rfl
  · obtain ⟨a, m, n, t, rfl, hm0, hn0, hS, h8, h64, k⟩ := h
    refine ⟨_, (pss_cons (ps_set (i := 3) sc.nd rfl (by first | exact Or.inl rfl | exact Or.inr rfl) (pcall d_pattern_refusal (hr.mono (by decide)) (pa_cons (pv 2) pa_nil)))
      (pss_cons (ps_if (pt_cmp (pc_gt (pe_callB call_len_seq (by rfl) T.b_len PySem.boot_len (pa_cons (pv 3) pa_nil)) pe_int)) (pss_one (ps_ret (pv 3))) pss_nil)
      (pss_cons (ps_if (pw_or (pt_cmp (pc_gt (pv 0) (pgl T.c_MOST_SINCE))) (pw_or1 (pt_cmp (pc_gt (pv 1) (pgl T.c_MOST_RUN_BEATS))))).pt (pss_one (ps_ret (pe_lst (pa_cons (pe_un un_neg pe_int) pa_nil)))) pss_nil)
      (pss_cons (ps_set (i := 4) sc.nd rfl (by first | exact Or.inl rfl | exact Or.inr rfl) (pe_lst (pa_cons (pv 1) pa_nil)))
      (pss_cons (ps_for PassesOwn.never rfl (pi_list (pe_slice sl_list (pcall d_ball_throws (hr.mono (by decide)) (pa_cons (pcall d_read_beats (hr.mono (by decide)) (pa_cons (pv 2) pa_nil)) (pa_cons (pe_op op_add (pv 0) (pv 1)) pa_nil))) (po_some (pv 0)) po_none)) (pg_name (i := 5) sc.nd rfl (by first | exact Or.inl rfl | exact Or.inr rfl))
      (pss_cons (ps_expr (pe_bm PySem.F.plainAttrs_list PySem.F.slot_list_append PySem.F.type_list_append mt_append (pv 4) (pa_cons (pe_callB call_len_seq (by rfl) T.b_len PySem.boot_len (pa_cons (pv 5) pa_nil)) pa_nil)))
      (pss_one (ps_for PassesOwn.never rfl (pi_list (pv 5)) (pg_name (i := 6) sc.nd rfl (by first | exact Or.inl rfl | exact Or.inr rfl))
      (pss_one (ps_expr (pe_bm PySem.F.plainAttrs_list PySem.F.slot_list_extend PySem.F.type_list_extend mt_extendT (pv 4) (pa_cons (pv 6) pa_nil))))))))
      (pss_one (ps_ret (pv 4)))))))), ?_⟩
    have ef : PyWrjugg.runs m n t = Jug.of (Jm.by8 t) (fun p => if 200 < m.toNat ∨ 40 < n.toNat then Jug.says (-1) else Jug.nats ((Jug.runs p m.toNat n.toNat).length :: (Jug.runs p m.toNat n.toNat).flatMap fun (x : List Jug.Ball) => x.length :: x.flatMap fun (y : Jug.Ball) => [y.1, y.2])) := rfl
    rw [ef] at k
    refine ⟨_, rfl, a, t, rfl, hS, h8, h64, fun v H1 s1 hv => ?_⟩
    obtain ⟨x, rfl, hx⟩ := hv
    refine ⟨_, rfl, _, _, rfl, .inl (SqL.of hx), _, _, rfl, rfl, _, rfl, ite2 (fun hc => ?_) (fun hc => ?_)⟩
    · have hne : Jm.refusal t ≠ [] := fun e => by
        rw [e] at hc
        exact absurd (of_decide_eq_true hc) (by decide)
      rw [Jm.of_refused hne] at k
      exact ⟨_, rfl, k _ _ ⟨x, rfl, hx⟩⟩
    · have he : Jm.refusal t = [] := by
        cases e : Jm.refusal t with
        | nil => rfl
        | cons z r =>
          rw [e] at hc
          exact absurd (decide_eq_true (by simp)) hc
      obtain ⟨p, hp, hcl, eo⟩ := Jm.of_right (f := fun p => if 200 < m.toNat ∨ 40 < n.toNat then Jug.says (-1) else Jug.nats ((Jug.runs p m.toNat n.toNat).length :: (Jug.runs p m.toNat n.toNat).flatMap fun (x : List Jug.Ball) => x.length :: x.flatMap fun (y : Jug.Ball) => [y.1, y.2])) he
      rw [eo] at k
      obtain ⟨hG, g1, g2⟩ := Jm.read_good h8 hp
      have em : m = ((m.toNat : Nat) : Int) := by omega
      have en : n = ((n.toNat : Nat) : Int) := by omega
      have one : ∀ H4, (200 < m.toNat ∨ 40 < n.toNat) → ∀ z, Q (.ref z) (upd H4 z (.lst [.int (-1)])) := fun H4 hbad z => by
        rw [if_pos hbad] at k
        refine k _ _ ⟨z, rfl, ?_⟩
        rw [upd_same]
        rfl
      refine ⟨_, rfl, _, _, rfl, rfl, _, rfl, ite2 (fun hd => iteT ?_) (fun hd => ⟨_, rfl, _, _, rfl, rfl, _, rfl, ite2 (fun hd2 => ?_) (fun hd2 => ?_)⟩)⟩
      · have hd : (200 : Int) < m := of_decide_eq_true hd
        exact ⟨_, rfl, by show 1 ≤ sizeLine; decide, fun z hz => one _ (.inl (by omega)) z⟩
      · have hd2 : (40 : Int) < n := of_decide_eq_true hd2
        exact ⟨_, rfl, by show 1 ≤ sizeLine; decide, fun z hz => one _ (.inr (by omega)) z⟩
      have hd : ¬ (200 : Int) < m := fun q => hd (decide_eq_true q)
      have hd2 : ¬ (40 : Int) < n := fun q => hd2 (decide_eq_true q)
      have hLow : Jm.Low p := fun b hb => (hG b hb).2.1
      rw [if_neg (by omega), Jm.runs_W g1 hLow hcl] at k
      -- answer = [beats]
      refine ⟨_, rfl, by show 1 ≤ sizeLine; decide, fun R hR => ?_⟩
      have hRH := s1.free hR
      have s2 : Same H (upd H1 R (.lst [V.int n])) := s1.new hR
      refine ⟨_, rfl, a, t, p, rfl, s2.seq hS, h8, h64, hp, fun v3 H3 s3 hPat => ?_⟩
      refine ⟨_, rfl, _, rfl, _, _, rfl, rfl, v3, p, m.toNat + n.toNat, by rw [Int.natCast_add, ← em, ← en]; rfl, hPat, hG, g1, g2, hcl, by omega, fun T us H4 s4 hT0 hT hus => ?_⟩
      have hul : us.length = m.toNat + n.toNat := by rw [hus.length, Jm.runW_len]
      refine ⟨_, rfl, _, rfl, T, _, rfl, SqL.of hT, fun T2 hT2 => ?_⟩
      have ecut : cutV us (some m) none = us.drop m.toNat := by
        rw [em]
        exact cut_drop (by omega)
      rw [ecut]
      have hR4 : H4 R = some (.lst [V.int n]) := s4 _ _ (s3 _ _ upd_same)
      have hus2 : Paired (PairsAt H4) (us.drop m.toNat) ((Jm.runW p (m.toNat + n.toNat) 0 (Jm.startW 0 (Jug.airAt p 0))).drop m.toNat) := Paired.drop _ hus
      generalize hrun : (Jm.runW p (m.toNat + n.toNat) 0 (Jm.startW 0 (Jug.airAt p 0))).drop m.toNat = run at hus2 k
      have hrl : run.length = n.toNat := by rw [← hrun, List.length_drop, Jm.runW_len]; omega
      have hus3 : Paired (PairsAt (Off [R] (upd H4 T2 (.lst (us.drop m.toNat))))) (us.drop m.toNat) run := Paired.imp' (fun v l q => by
        obtain ⟨z, ts, rfl, h1, h2, h3⟩ := q
        have nR : ∀ b o, H4 b = some o → o ≠ .lst [V.int n] → b ≠ R := fun b o hb ho e => ho (by rw [e, hR4] at hb; exact (Option.some.inj hb).symm)
        have nT : ∀ b o, H4 b = some o → b ≠ T2 := fun b o hb => ne_of_none hb hT2
        refine ⟨z, ts, rfl, ?_, h2, fun j T hj => ?_⟩
        · rw [off_get (by simp; exact nR z _ h1 (by intro e; injection e with e; cases ts with | nil => cases e | cons _ _ => injection e with e _; cases e)), upd_ne (nT z _ h1)]
          exact h1
        · obtain ⟨y, e1, e2⟩ := h3 j T hj
          refine ⟨y, e1, ?_⟩
          rw [off_get (by simp; exact nR T _ e2 (by intro e; cases e)), upd_ne (nT T _ e2)]
          exact e2) hus2
      have s5 : Same H (upd H4 T2 (.lst (us.drop m.toNat))) := ((s2.trans s3).trans s4).new hT2
      have hR5 : upd H4 T2 (.lst (us.drop m.toNat)) R = some (.lst [V.int n]) := by rw [upd_ne (ne_of_none hR4 hT2)]; exact hR4
      have hTR : T2 ∉ [R] := fun hmm => by
        rw [List.mem_singleton.mp hmm, hR4] at hT2
        cases hT2
      generalize hH5 : upd H4 T2 (.lst (us.drop m.toNat)) = H5 at hus3 s5 hR5
      have hT5 : H5 T2 = some (.lst (us.drop m.toNat)) := by rw [← hH5, upd_same]
      refine ⟨T2, rfl, ⟨_, SqL.of hT5⟩, ?_⟩
      have hlen3 : ∀ (x : List (Nat × Nat)), x ∈ run → x.length ≤ 3 := fun x hx => by
        rw [← hrun] at hx
        have hx := List.mem_of_mem_drop hx
        rw [Jm.run_take] at hx
        obtain ⟨t', _, rfl⟩ := List.mem_map.mp hx
        rw [List.length_zip]
        refine Nat.le_trans (Nat.min_le_right _ _) ?_
        have hmod : t' % p.length < p.length := Nat.mod_lt _ g1
        have e : p.getD (t' % p.length) [] = p[t' % p.length] := by simp [List.getD, hmod]
        rw [e]
        exact (hG _ (List.getElem_mem hmod)).1
      have told : List (Nat × Nat) → List Nat := fun x => x.length :: x.flatMap fun (y : Nat × Nat) => [y.1, y.2]
      have hfl : ∀ l : List (Nat × Nat), (l.flatMap fun (y : Nat × Nat) => [y.1, y.2]).length = 2 * l.length := fun l => by
        induction l with
        | nil => rfl
        | cons a r ih => rw [List.flatMap_cons, List.length_append, ih]; simp only [List.length_cons, List.length_nil]; omega
      have hbig : ∀ l : List (List (Nat × Nat)), (∀ x ∈ l, x.length ≤ 3) → (l.flatMap fun (x : List (Nat × Nat)) => x.length :: x.flatMap fun (y : Nat × Nat) => [y.1, y.2]).length ≤ 7 * l.length := fun l => by
        induction l with
        | nil => intro _; exact Nat.le_refl _
        | cons a r ih =>
          intro h
          have h1 := ih fun x hx => h x (List.mem_cons_of_mem _ hx)
          have h2 := h a List.mem_cons_self
          rw [List.flatMap_cons, List.length_append, List.length_cons, hfl, List.length_cons]
          omega
      refine for_list (xs := us.drop m.toNat) (fun i σ H' => Same H H' ∧ (∃ v5 v6, σ = [some (.int m), some (.int n), some (.ref a), some (.ref x), some (.ref R), v5, v6]) ∧ Off [R] H' = Off [R] H5 ∧ H' R = some (.lst (natsV (n.toNat :: ((run.take i).flatMap fun (x : List (Nat × Nat)) => x.length :: x.flatMap fun (y : Nat × Nat) => [y.1, y.2])))))
        ⟨s5, ⟨none, none, rfl⟩, rfl, by rw [hR5, List.take_zero]; show _ = some (HO.lst [V.int ((n.toNat : Nat) : Int)]); rw [← en]⟩ (fun i σ H' _ h => SqL.of (off_some (S := [R]) (by rw [h.2.2.1, off_get hTR]; exact hT5))) ?_ ?_
      · rintro i v σ H' hi ⟨s6, ⟨v5, v6, rfl⟩, hoff, hR6⟩
        obtain ⟨pr, er, hpr⟩ := Paired.getL hus3 hi
        rw [← hoff] at hpr
        obtain ⟨z, ts, rfl, h1, h2, h3⟩ := hpr
        have hzR : z ∉ [R] := fun hmm => by
          unfold L2.Off at h1
          rw [if_pos hmm] at h1
          cases h1
        have hz6 := off_some h1
        have hpl := hlen3 pr (List.mem_of_getElem? er)
        have hib : i < n.toNat := by rw [← hrl]; exact (List.getElem?_eq_some_iff.mp er).1
        have hbg := hbig (run.take i) fun x hx => hlen3 x (List.mem_of_mem_take hx)
        have htk : (run.take i).length ≤ 40 := by rw [List.length_take]; omega
        -- answer.append(len(pairs))
        refine ⟨_, rfl, .inl ⟨rfl, _, SqL.of hR6⟩, _, rfl, _, _, rfl, .inl (SqL.of hz6), R, _, _, rfl, rfl, hR6, ?_, ?_⟩
        · rw [natsV_length, List.length_cons]
          exact small1000 (by omega)
        have hz7 : ∀ o, upd H' R o z = some (.lst (ts.map V.ref)) := fun o => by rw [upd_ne (fun e => hzR (by rw [e]; simp))]; exact hz6
        refine ⟨_, rfl, z, rfl, ⟨_, SqL.of (hz7 _)⟩, ?_⟩
        refine for_list (xs := ts.map V.ref) (fun q σ H7 => Same H H7 ∧ (∃ v6, σ = [some (.int m), some (.int n), some (.ref a), some (.ref x), some (.ref R), some (.ref z), v6]) ∧ Off [R] H7 = Off [R] H5 ∧ H7 R = some (.lst (natsV (n.toNat :: ((run.take i).flatMap fun (x : List (Nat × Nat)) => x.length :: x.flatMap fun (y : Nat × Nat) => [y.1, y.2]) ++ (pr.length :: (pr.take q).flatMap fun (y : Nat × Nat) => [y.1, y.2])))))
          ⟨s6.own hRH, ⟨_, rfl⟩, by rw [off_upd (by simp)]; exact hoff, ?_⟩ (fun q σ H7 _ h => SqL.of (off_some (S := [R]) (by rw [h.2.2.1, ← hoff, off_get hzR]; exact hz6))) ?_ ?_
        · rw [upd_same, natsV_append, List.length_map, h2]
          rfl
        · rintro q w σ H7 hq ⟨s7, ⟨v6, rfl⟩, hoff7, hR7⟩
          rw [List.getElem?_map] at hq
          cases hqT : ts[q]? with
          | none => rw [hqT] at hq; cases hq
          | some T' =>
            rw [hqT] at hq
            cases hq
            obtain ⟨y, e1, e2⟩ := h3 q T' hqT
            have hT7 : H7 T' = some (.tup [.int ((y.1 : Nat) : Int), .int ((y.2 : Nat) : Int)]) := off_some (S := [R]) (by rw [hoff7, ← hoff]; exact e2)
            have hTR7 : T' ≠ R := fun e => by rw [e, hR7] at hT7; cases hT7
            have hq3 : q < pr.length := (List.getElem?_eq_some_iff.mp e1).1
            refine ⟨_, rfl, .inl ⟨rfl, _, SqL.of hR7⟩, _, rfl, R, T', _, _, rfl, rfl, hR7, hT7, ?_, s7.own hRH, ⟨_, rfl⟩, by rw [off_upd (by simp)]; exact hoff7, ?_⟩
            · rw [natsV_length, List.length_append, List.length_cons, List.length_cons, hfl, List.length_take]
              exact Nat.le_of_lt (small1000 (by show _ + 2 ≤ 1000; omega))
            · rw [upd_same, take_snoc e1, List.flatMap_append, ← List.cons_append, ← List.append_assoc, natsV_append (_ ++ _)]
              rfl
        · rintro σ H7 ⟨s7, ⟨v6, rfl⟩, hoff7, hR7⟩
          rw [List.length_map, h2, List.take_length] at hR7
          refine ⟨s7, ⟨_, _, rfl⟩, hoff7, ?_⟩
          rw [hR7, take_snoc er, List.flatMap_append]
          rw [← List.cons_append]
          simp
      · rintro σ H' ⟨s6, ⟨v5, v6, rfl⟩, hoff, hR6⟩
        rw [hus3.length, List.take_length] at hR6
        refine ⟨_, rfl, k _ _ ⟨R, rfl, ?_⟩⟩
        rw [hR6, natsV_int, hrl]
        rfl
end
end Jp

set_option Elab.async false
set_option linter.all false
set_option maxRecDepth 100000
set_option maxHeartbeats 4000000
namespace Jp
open PySem PySem.Spec PyProof.Rows L2
open PySem.W (Codec)
theorem all_mk {P : Program} {w : World} {K : PySem.W.Frag} {h : Heap} {mg : Str → Option Value} {fa : Addr} (X : K.In h) (G : h.Ns mainGlobals mg) (hfa : mg "runs" = some (.ref fa))
    {f_height_of : Addr} {od_height_of an_height_of : Option Addr} {sl_height_of : Array (Option Value)} {oc_height_of kV_height_of dc_height_of pm_height_of cd_height_of ct_height_of : Value}
    {f_bracket_fault : Addr} {od_bracket_fault an_bracket_fault : Option Addr} {sl_bracket_fault : Array (Option Value)} {oc_bracket_fault kV_bracket_fault dc_bracket_fault pm_bracket_fault cd_bracket_fault ct_bracket_fault : Value}
    {f_beat_fault : Addr} {od_beat_fault an_beat_fault : Option Addr} {sl_beat_fault : Array (Option Value)} {oc_beat_fault kV_beat_fault dc_beat_fault pm_beat_fault cd_beat_fault ct_beat_fault : Value}
    {f_beat_end : Addr} {od_beat_end an_beat_end : Option Addr} {sl_beat_end : Array (Option Value)} {oc_beat_end kV_beat_end dc_beat_end pm_beat_end cd_beat_end ct_beat_end : Value}
    {f_text_fault : Addr} {od_text_fault an_text_fault : Option Addr} {sl_text_fault : Array (Option Value)} {oc_text_fault kV_text_fault dc_text_fault pm_text_fault cd_text_fault ct_text_fault : Value}
    {f_read_beats : Addr} {od_read_beats an_read_beats : Option Addr} {sl_read_beats : Array (Option Value)} {oc_read_beats kV_read_beats dc_read_beats pm_read_beats cd_read_beats ct_read_beats : Value}
    {f_landing_counts : Addr} {od_landing_counts an_landing_counts : Option Addr} {sl_landing_counts : Array (Option Value)} {oc_landing_counts kV_landing_counts dc_landing_counts pm_landing_counts cd_landing_counts ct_landing_counts : Value}
    {f_wrong_beat : Addr} {od_wrong_beat an_wrong_beat : Option Addr} {sl_wrong_beat : Array (Option Value)} {oc_wrong_beat kV_wrong_beat dc_wrong_beat pm_wrong_beat cd_wrong_beat ct_wrong_beat : Value}
    {f_pattern_refusal : Addr} {od_pattern_refusal an_pattern_refusal : Option Addr} {sl_pattern_refusal : Array (Option Value)} {oc_pattern_refusal kV_pattern_refusal dc_pattern_refusal pm_pattern_refusal cd_pattern_refusal ct_pattern_refusal : Value}
    {f_state_before : Addr} {od_state_before an_state_before : Option Addr} {sl_state_before : Array (Option Value)} {oc_state_before kV_state_before dc_state_before pm_state_before cd_state_before ct_state_before : Value}
    {f_first_landings : Addr} {od_first_landings an_first_landings : Option Addr} {sl_first_landings : Array (Option Value)} {oc_first_landings kV_first_landings dc_first_landings pm_first_landings cd_first_landings ct_first_landings : Value}
    {f_ball_throws : Addr} {od_ball_throws an_ball_throws : Option Addr} {sl_ball_throws : Array (Option Value)} {oc_ball_throws kV_ball_throws dc_ball_throws pm_ball_throws cd_ball_throws ct_ball_throws : Value}
    {f_runs : Addr} {od_runs an_runs : Option Addr} {sl_runs : Array (Option Value)} {oc_runs kV_runs dc_runs pm_runs cd_runs ct_runs : Value}
    {t_CLOSING : Tok}
    {t_LETTER_A : Tok}
    {t_LETTER_F : Tok}
    {t_MOST_BEATS : Tok}
    {t_MOST_RUN_BEATS : Tok}
    {t_MOST_SINCE : Tok}
    {t_MOST_THROWS : Tok}
    {t_NINE : Tok}
    {t_OPENING : Tok}
    {t_SPAN : Tok}
    {t_ZERO : Tok}
    (a_height_of : PySem.W.nsIn K mainGlobals "height_of" = some (some (.ref f_height_of)))
    (l_height_of : K.lookup f_height_of = some ⟨oc_height_of, od_height_of, .func (PySem.W.fnOf "height_of" "height_of" (defArgs s_height_of) (defBody s_height_of) (defScope s_height_of) .none kV_height_of dc_height_of pm_height_of an_height_of cd_height_of ct_height_of), sl_height_of⟩)
    (c_height_of : PySem.W.codeIn K cd_height_of "height_of" = true)
    (k_height_of : PySem.W.keepIn K (.ref f_height_of) = true)
    (a_bracket_fault : PySem.W.nsIn K mainGlobals "bracket_fault" = some (some (.ref f_bracket_fault)))
    (l_bracket_fault : K.lookup f_bracket_fault = some ⟨oc_bracket_fault, od_bracket_fault, .func (PySem.W.fnOf "bracket_fault" "bracket_fault" (defArgs s_bracket_fault) (defBody s_bracket_fault) (defScope s_bracket_fault) .none kV_bracket_fault dc_bracket_fault pm_bracket_fault an_bracket_fault cd_bracket_fault ct_bracket_fault), sl_bracket_fault⟩)
    (c_bracket_fault : PySem.W.codeIn K cd_bracket_fault "bracket_fault" = true)
    (k_bracket_fault : PySem.W.keepIn K (.ref f_bracket_fault) = true)
    (a_beat_fault : PySem.W.nsIn K mainGlobals "beat_fault" = some (some (.ref f_beat_fault)))
    (l_beat_fault : K.lookup f_beat_fault = some ⟨oc_beat_fault, od_beat_fault, .func (PySem.W.fnOf "beat_fault" "beat_fault" (defArgs s_beat_fault) (defBody s_beat_fault) (defScope s_beat_fault) .none kV_beat_fault dc_beat_fault pm_beat_fault an_beat_fault cd_beat_fault ct_beat_fault), sl_beat_fault⟩)
    (c_beat_fault : PySem.W.codeIn K cd_beat_fault "beat_fault" = true)
    (k_beat_fault : PySem.W.keepIn K (.ref f_beat_fault) = true)
    (a_beat_end : PySem.W.nsIn K mainGlobals "beat_end" = some (some (.ref f_beat_end)))
    (l_beat_end : K.lookup f_beat_end = some ⟨oc_beat_end, od_beat_end, .func (PySem.W.fnOf "beat_end" "beat_end" (defArgs s_beat_end) (defBody s_beat_end) (defScope s_beat_end) .none kV_beat_end dc_beat_end pm_beat_end an_beat_end cd_beat_end ct_beat_end), sl_beat_end⟩)
    (c_beat_end : PySem.W.codeIn K cd_beat_end "beat_end" = true)
    (k_beat_end : PySem.W.keepIn K (.ref f_beat_end) = true)
    (a_text_fault : PySem.W.nsIn K mainGlobals "text_fault" = some (some (.ref f_text_fault)))
    (l_text_fault : K.lookup f_text_fault = some ⟨oc_text_fault, od_text_fault, .func (PySem.W.fnOf "text_fault" "text_fault" (defArgs s_text_fault) (defBody s_text_fault) (defScope s_text_fault) .none kV_text_fault dc_text_fault pm_text_fault an_text_fault cd_text_fault ct_text_fault), sl_text_fault⟩)
    (c_text_fault : PySem.W.codeIn K cd_text_fault "text_fault" = true)
    (k_text_fault : PySem.W.keepIn K (.ref f_text_fault) = true)
    (a_read_beats : PySem.W.nsIn K mainGlobals "read_beats" = some (some (.ref f_read_beats)))
    (l_read_beats : K.lookup f_read_beats = some ⟨oc_read_beats, od_read_beats, .func (PySem.W.fnOf "read_beats" "read_beats" (defArgs s_read_beats) (defBody s_read_beats) (defScope s_read_beats) .none kV_read_beats dc_read_beats pm_read_beats an_read_beats cd_read_beats ct_read_beats), sl_read_beats⟩)
    (c_read_beats : PySem.W.codeIn K cd_read_beats "read_beats" = true)
    (k_read_beats : PySem.W.keepIn K (.ref f_read_beats) = true)
    (a_landing_counts : PySem.W.nsIn K mainGlobals "landing_counts" = some (some (.ref f_landing_counts)))
    (l_landing_counts : K.lookup f_landing_counts = some ⟨oc_landing_counts, od_landing_counts, .func (PySem.W.fnOf "landing_counts" "landing_counts" (defArgs s_landing_counts) (defBody s_landing_counts) (defScope s_landing_counts) .none kV_landing_counts dc_landing_counts pm_landing_counts an_landing_counts cd_landing_counts ct_landing_counts), sl_landing_counts⟩)
    (c_landing_counts : PySem.W.codeIn K cd_landing_counts "landing_counts" = true)
    (k_landing_counts : PySem.W.keepIn K (.ref f_landing_counts) = true)
    (a_wrong_beat : PySem.W.nsIn K mainGlobals "wrong_beat" = some (some (.ref f_wrong_beat)))
    (l_wrong_beat : K.lookup f_wrong_beat = some ⟨oc_wrong_beat, od_wrong_beat, .func (PySem.W.fnOf "wrong_beat" "wrong_beat" (defArgs s_wrong_beat) (defBody s_wrong_beat) (defScope s_wrong_beat) .none kV_wrong_beat dc_wrong_beat pm_wrong_beat an_wrong_beat cd_wrong_beat ct_wrong_beat), sl_wrong_beat⟩)
    (c_wrong_beat : PySem.W.codeIn K cd_wrong_beat "wrong_beat" = true)
    (k_wrong_beat : PySem.W.keepIn K (.ref f_wrong_beat) = true)
    (a_pattern_refusal : PySem.W.nsIn K mainGlobals "pattern_refusal" = some (some (.ref f_pattern_refusal)))
    (l_pattern_refusal : K.lookup f_pattern_refusal = some ⟨oc_pattern_refusal, od_pattern_refusal, .func (PySem.W.fnOf "pattern_refusal" "pattern_refusal" (defArgs s_pattern_refusal) (defBody s_pattern_refusal) (defScope s_pattern_refusal) .none kV_pattern_refusal dc_pattern_refusal pm_pattern_refusal an_pattern_refusal cd_pattern_refusal ct_pattern_refusal), sl_pattern_refusal⟩)
    (c_pattern_refusal : PySem.W.codeIn K cd_pattern_refusal "pattern_refusal" = true)
    (k_pattern_refusal : PySem.W.keepIn K (.ref f_pattern_refusal) = true)
    (a_state_before : PySem.W.nsIn K mainGlobals "state_before" = some (some (.ref f_state_before)))
    (l_state_before : K.lookup f_state_before = some ⟨oc_state_before, od_state_before, .func (PySem.W.fnOf "state_before" "state_before" (defArgs s_state_before) (defBody s_state_before) (defScope s_state_before) .none kV_state_before dc_state_before pm_state_before an_state_before cd_state_before ct_state_before), sl_state_before⟩)
    (c_state_before : PySem.W.codeIn K cd_state_before "state_before" = true)
    (k_state_before : PySem.W.keepIn K (.ref f_state_before) = true)
    (a_first_landings : PySem.W.nsIn K mainGlobals "first_landings" = some (some (.ref f_first_landings)))
    (l_first_landings : K.lookup f_first_landings = some ⟨oc_first_landings, od_first_landings, .func (PySem.W.fnOf "first_landings" "first_landings" (defArgs s_first_landings) (defBody s_first_landings) (defScope s_first_landings) .none kV_first_landings dc_first_landings pm_first_landings an_first_landings cd_first_landings ct_first_landings), sl_first_landings⟩)
    (c_first_landings : PySem.W.codeIn K cd_first_landings "first_landings" = true)
    (k_first_landings : PySem.W.keepIn K (.ref f_first_landings) = true)
    (a_ball_throws : PySem.W.nsIn K mainGlobals "ball_throws" = some (some (.ref f_ball_throws)))
    (l_ball_throws : K.lookup f_ball_throws = some ⟨oc_ball_throws, od_ball_throws, .func (PySem.W.fnOf "ball_throws" "ball_throws" (defArgs s_ball_throws) (defBody s_ball_throws) (defScope s_ball_throws) .none kV_ball_throws dc_ball_throws pm_ball_throws an_ball_throws cd_ball_throws ct_ball_throws), sl_ball_throws⟩)
    (c_ball_throws : PySem.W.codeIn K cd_ball_throws "ball_throws" = true)
    (k_ball_throws : PySem.W.keepIn K (.ref f_ball_throws) = true)
    (a_runs : PySem.W.nsIn K mainGlobals "runs" = some (some (.ref f_runs)))
    (l_runs : K.lookup f_runs = some ⟨oc_runs, od_runs, .func (PySem.W.fnOf "runs" "runs" (defArgs s_runs) (defBody s_runs) (defScope s_runs) .none kV_runs dc_runs pm_runs an_runs cd_runs ct_runs), sl_runs⟩)
    (c_runs : PySem.W.codeIn K cd_runs "runs" = true)
    (k_runs : PySem.W.keepIn K (.ref f_runs) = true)
    (g_CLOSING : PySem.W.nsIn K mainGlobals "CLOSING" = some (some (.int 93 t_CLOSING)))
    (g_LETTER_A : PySem.W.nsIn K mainGlobals "LETTER_A" = some (some (.int 97 t_LETTER_A)))
    (g_LETTER_F : PySem.W.nsIn K mainGlobals "LETTER_F" = some (some (.int 102 t_LETTER_F)))
    (g_MOST_BEATS : PySem.W.nsIn K mainGlobals "MOST_BEATS" = some (some (.int 16 t_MOST_BEATS)))
    (g_MOST_RUN_BEATS : PySem.W.nsIn K mainGlobals "MOST_RUN_BEATS" = some (some (.int 40 t_MOST_RUN_BEATS)))
    (g_MOST_SINCE : PySem.W.nsIn K mainGlobals "MOST_SINCE" = some (some (.int 200 t_MOST_SINCE)))
    (g_MOST_THROWS : PySem.W.nsIn K mainGlobals "MOST_THROWS" = some (some (.int 3 t_MOST_THROWS)))
    (g_NINE : PySem.W.nsIn K mainGlobals "NINE" = some (some (.int 57 t_NINE)))
    (g_OPENING : PySem.W.nsIn K mainGlobals "OPENING" = some (some (.int 91 t_OPENING)))
    (g_SPAN : PySem.W.nsIn K mainGlobals "SPAN" = some (some (.int 15 t_SPAN)))
    (g_ZERO : PySem.W.nsIn K mainGlobals "ZERO" = some (some (.int 48 t_ZERO)))
    (z_len : PySem.W.nsIn K mainGlobals "len" = some none)
    (z_list : PySem.W.nsIn K mainGlobals "list" = some none)
    (z_range : PySem.W.nsIn K mainGlobals "range" = some none)
    (z_sorted : PySem.W.nsIn K mainGlobals "sorted" = some none)
    (z_tuple : PySem.W.nsIn K mainGlobals "tuple" = some none)
    (z_zip : PySem.W.nsIn K mainGlobals "zip" = some none)
    : ∃ fd : FuncData, (∀ (s : Shared) (us : List Value), us.length = (["since", "beats", "t"] : List Str).length → BindsTo s fd ⟨us, []⟩ ((["since", "beats", "t"] : List Str).zip us)) ∧ ∀ base : Heap, K.In base → base.Ns mainGlobals mg → FnOk P w K mg base CX0 6 fa fd ["since", "beats", "t"] (sp_runs K) := by
  have e := hfa.symm.trans (PySem.W.mg_of X G a_runs)
  cases e
  have T : Txt mg := ⟨⟨_, PySem.W.mg_of X G g_CLOSING⟩, ⟨_, PySem.W.mg_of X G g_LETTER_A⟩, ⟨_, PySem.W.mg_of X G g_LETTER_F⟩, ⟨_, PySem.W.mg_of X G g_MOST_BEATS⟩, ⟨_, PySem.W.mg_of X G g_MOST_RUN_BEATS⟩, ⟨_, PySem.W.mg_of X G g_MOST_SINCE⟩, ⟨_, PySem.W.mg_of X G g_MOST_THROWS⟩, ⟨_, PySem.W.mg_of X G g_NINE⟩, ⟨_, PySem.W.mg_of X G g_OPENING⟩, ⟨_, PySem.W.mg_of X G g_SPAN⟩, ⟨_, PySem.W.mg_of X G g_ZERO⟩, PySem.W.mg_none_of X G z_len, PySem.W.mg_none_of X G z_list, PySem.W.mg_none_of X G z_range, PySem.W.mg_none_of X G z_sorted, PySem.W.mg_none_of X G z_tuple, PySem.W.mg_none_of X G z_zip⟩
  have F_height_of := fun_mk (st := s_height_of) l_height_of c_height_of k_height_of
  have F_bracket_fault := fun_mk (st := s_bracket_fault) l_bracket_fault c_bracket_fault k_bracket_fault
  have F_beat_fault := fun_mk (st := s_beat_fault) l_beat_fault c_beat_fault k_beat_fault
  have F_beat_end := fun_mk (st := s_beat_end) l_beat_end c_beat_end k_beat_end
  have F_text_fault := fun_mk (st := s_text_fault) l_text_fault c_text_fault k_text_fault
  have F_read_beats := fun_mk (st := s_read_beats) l_read_beats c_read_beats k_read_beats
  have F_landing_counts := fun_mk (st := s_landing_counts) l_landing_counts c_landing_counts k_landing_counts
  have F_wrong_beat := fun_mk (st := s_wrong_beat) l_wrong_beat c_wrong_beat k_wrong_beat
  have F_pattern_refusal := fun_mk (st := s_pattern_refusal) l_pattern_refusal c_pattern_refusal k_pattern_refusal
  have F_state_before := fun_mk (st := s_state_before) l_state_before c_state_before k_state_before
  have F_first_landings := fun_mk (st := s_first_landings) l_first_landings c_first_landings k_first_landings
  have F_ball_throws := fun_mk (st := s_ball_throws) l_ball_throws c_ball_throws k_ball_throws
  have F_runs := fun_mk (st := s_runs) l_runs c_runs k_runs
  have b_height_of := F_height_of.binds (ps := ["byte"]) fun _ _ _ _ _ _ us hl => match us, hl with | [_], _ => rfl
  have b_bracket_fault := F_bracket_fault.binds (ps := ["t", "start"]) fun _ _ _ _ _ _ us hl => match us, hl with | [_, _], _ => rfl
  have b_beat_fault := F_beat_fault.binds (ps := ["t", "start"]) fun _ _ _ _ _ _ us hl => match us, hl with | [_, _], _ => rfl
  have b_beat_end := F_beat_end.binds (ps := ["t", "start"]) fun _ _ _ _ _ _ us hl => match us, hl with | [_, _], _ => rfl
  have b_text_fault := F_text_fault.binds (ps := ["t"]) fun _ _ _ _ _ _ us hl => match us, hl with | [_], _ => rfl
  have b_read_beats := F_read_beats.binds (ps := ["t"]) fun _ _ _ _ _ _ us hl => match us, hl with | [_], _ => rfl
  have b_landing_counts := F_landing_counts.binds (ps := ["beats"]) fun _ _ _ _ _ _ us hl => match us, hl with | [_], _ => rfl
  have b_wrong_beat := F_wrong_beat.binds (ps := ["beats"]) fun _ _ _ _ _ _ us hl => match us, hl with | [_], _ => rfl
  have b_pattern_refusal := F_pattern_refusal.binds (ps := ["t"]) fun _ _ _ _ _ _ us hl => match us, hl with | [_], _ => rfl
  have b_state_before := F_state_before.binds (ps := ["beats", "moment"]) fun _ _ _ _ _ _ us hl => match us, hl with | [_, _], _ => rfl
  have b_first_landings := F_first_landings.binds (ps := ["beats"]) fun _ _ _ _ _ _ us hl => match us, hl with | [_], _ => rfl
  have b_ball_throws := F_ball_throws.binds (ps := ["beats", "end"]) fun _ _ _ _ _ _ us hl => match us, hl with | [_, _], _ => rfl
  refine ⟨PySem.W.fnOf "runs" "runs" (defArgs s_runs) (defBody s_runs) (defScope s_runs) .none kV_runs dc_runs pm_runs an_runs cd_runs ct_runs, fun s us hu => match us, hu with | [_, _, _], _ => .of_eq rfl, fun base _ _ => ?_⟩
  have D_height_of : Def P w K mg base "height_of" ["byte"] 1 (sp_height_of K) := ⟨f_height_of, _, ok_height_of F_height_of T, PySem.W.mg_of X G a_height_of, k_height_of, b_height_of⟩
  have D_bracket_fault : Def P w K mg base "bracket_fault" ["t", "start"] 2 (sp_bracket_fault K) := ⟨f_bracket_fault, _, ok_bracket_fault F_bracket_fault T D_height_of, PySem.W.mg_of X G a_bracket_fault, k_bracket_fault, b_bracket_fault⟩
  have D_beat_fault : Def P w K mg base "beat_fault" ["t", "start"] 3 (sp_beat_fault K) := ⟨f_beat_fault, _, ok_beat_fault F_beat_fault T D_bracket_fault D_height_of, PySem.W.mg_of X G a_beat_fault, k_beat_fault, b_beat_fault⟩
  have D_beat_end : Def P w K mg base "beat_end" ["t", "start"] 1 (sp_beat_end K) := ⟨f_beat_end, _, ok_beat_end F_beat_end T, PySem.W.mg_of X G a_beat_end, k_beat_end, b_beat_end⟩
  have D_text_fault : Def P w K mg base "text_fault" ["t"] 4 (sp_text_fault K) := ⟨f_text_fault, _, ok_text_fault F_text_fault T D_beat_fault D_beat_end, PySem.W.mg_of X G a_text_fault, k_text_fault, b_text_fault⟩
  have D_read_beats : Def P w K mg base "read_beats" ["t"] 2 (sp_read_beats K) := ⟨f_read_beats, _, ok_read_beats F_read_beats T D_beat_end D_height_of, PySem.W.mg_of X G a_read_beats, k_read_beats, b_read_beats⟩
  have D_landing_counts : Def P w K mg base "landing_counts" ["beats"] 1 (sp_landing_counts K) := ⟨f_landing_counts, _, ok_landing_counts F_landing_counts T, PySem.W.mg_of X G a_landing_counts, k_landing_counts, b_landing_counts⟩
  have D_wrong_beat : Def P w K mg base "wrong_beat" ["beats"] 2 (sp_wrong_beat K) := ⟨f_wrong_beat, _, ok_wrong_beat F_wrong_beat T D_landing_counts, PySem.W.mg_of X G a_wrong_beat, k_wrong_beat, b_wrong_beat⟩
  have D_pattern_refusal : Def P w K mg base "pattern_refusal" ["t"] 5 (sp_pattern_refusal K) := ⟨f_pattern_refusal, _, ok_pattern_refusal F_pattern_refusal T D_text_fault D_wrong_beat D_read_beats, PySem.W.mg_of X G a_pattern_refusal, k_pattern_refusal, b_pattern_refusal⟩
  have D_state_before : Def P w K mg base "state_before" ["beats", "moment"] 1 (sp_state_before K) := ⟨f_state_before, _, ok_state_before F_state_before T, PySem.W.mg_of X G a_state_before, k_state_before, b_state_before⟩
  have D_first_landings : Def P w K mg base "first_landings" ["beats"] 2 (sp_first_landings K) := ⟨f_first_landings, _, ok_first_landings F_first_landings T D_state_before, PySem.W.mg_of X G a_first_landings, k_first_landings, b_first_landings⟩
  have D_ball_throws : Def P w K mg base "ball_throws" ["beats", "end"] 3 (sp_ball_throws K) := ⟨f_ball_throws, _, ok_ball_throws F_ball_throws T D_first_landings, PySem.W.mg_of X G a_ball_throws, k_ball_throws, b_ball_throws⟩
  exact ok_runs F_runs T D_pattern_refusal D_ball_throws D_read_beats
end Jp
open PySem PySem.W PyProof.Rows
set_option maxRecDepth 100000 in
set_option maxHeartbeats 0 in
theorem PySem.Challenge.cw_jugglebench_s15_runs_holds : PySem.Challenge.rw_jugglebench_s15_runs.Holds := by
  w_on; k_headS; (case hw => exact ⟨[.int 0, .int 0, .list []], by decide +kernel, by decide +kernel⟩)
  k_fillS
  refine L2.walk_specK (r := PySem.Challenge.rw_jugglebench_s15_runs) (k := 6) (CX := L2.CX0) (ps := ["since", "beats", "t"]) (sp := Jp.sp_runs) (by decide +kernel) rfl rfl ⟨rfl, by decide, by decide⟩ (fun w h Y => PySem.W.kIn_of Y) ?F ?S (fun _ _ _ _ z => z)
  case F =>
    intro w mg fa h Y KX G hmg
    refine' Jp.all_mk KX G hmg ?a_height_of ?l_height_of ?c_height_of ?k_height_of ?a_bracket_fault ?l_bracket_fault ?c_bracket_fault ?k_bracket_fault ?a_beat_fault ?l_beat_fault ?c_beat_fault ?k_beat_fault ?a_beat_end ?l_beat_end ?c_beat_end ?k_beat_end ?a_text_fault ?l_text_fault ?c_text_fault ?k_text_fault ?a_read_beats ?l_read_beats ?c_read_beats ?k_read_beats ?a_landing_counts ?l_landing_counts ?c_landing_counts ?k_landing_counts ?a_wrong_beat ?l_wrong_beat ?c_wrong_beat ?k_wrong_beat ?a_pattern_refusal ?l_pattern_refusal ?c_pattern_refusal ?k_pattern_refusal ?a_state_before ?l_state_before ?c_state_before ?k_state_before ?a_first_landings ?l_first_landings ?c_first_landings ?k_first_landings ?a_ball_throws ?l_ball_throws ?c_ball_throws ?k_ball_throws ?a_runs ?l_runs ?c_runs ?k_runs ?g_CLOSING ?g_LETTER_A ?g_LETTER_F ?g_MOST_BEATS ?g_MOST_RUN_BEATS ?g_MOST_SINCE ?g_MOST_THROWS ?g_NINE ?g_OPENING ?g_SPAN ?g_ZERO ?z_len ?z_list ?z_range ?z_sorted ?z_tuple ?z_zip
    (case a_height_of => k_is)
    (case l_height_of => k_is)
    (case c_height_of => k_is)
    (case k_height_of => k_is)
    (case a_bracket_fault => k_is)
    (case l_bracket_fault => k_is)
    (case c_bracket_fault => k_is)
    (case k_bracket_fault => k_is)
    (case a_beat_fault => k_is)
    (case l_beat_fault => k_is)
    (case c_beat_fault => k_is)
    (case k_beat_fault => k_is)
    (case a_beat_end => k_is)
    (case l_beat_end => k_is)
    (case c_beat_end => k_is)
    (case k_beat_end => k_is)
    (case a_text_fault => k_is)
    (case l_text_fault => k_is)
    (case c_text_fault => k_is)
    (case k_text_fault => k_is)
    (case a_read_beats => k_is)
    (case l_read_beats => k_is)
    (case c_read_beats => k_is)
    (case k_read_beats => k_is)
    (case a_landing_counts => k_is)
    (case l_landing_counts => k_is)
    (case c_landing_counts => k_is)
    (case k_landing_counts => k_is)
    (case a_wrong_beat => k_is)
    (case l_wrong_beat => k_is)
    (case c_wrong_beat => k_is)
    (case k_wrong_beat => k_is)
    (case a_pattern_refusal => k_is)
    (case l_pattern_refusal => k_is)
    (case c_pattern_refusal => k_is)
    (case k_pattern_refusal => k_is)
    (case a_state_before => k_is)
    (case l_state_before => k_is)
    (case c_state_before => k_is)
    (case k_state_before => k_is)
    (case a_first_landings => k_is)
    (case l_first_landings => k_is)
    (case c_first_landings => k_is)
    (case k_first_landings => k_is)
    (case a_ball_throws => k_is)
    (case l_ball_throws => k_is)
    (case c_ball_throws => k_is)
    (case k_ball_throws => k_is)
    (case a_runs => k_is)
    (case l_runs => k_is)
    (case c_runs => k_is)
    (case k_runs => k_is)
    (case g_CLOSING => k_is)
    (case g_LETTER_A => k_is)
    (case g_LETTER_F => k_is)
    (case g_MOST_BEATS => k_is)
    (case g_MOST_RUN_BEATS => k_is)
    (case g_MOST_SINCE => k_is)
    (case g_MOST_THROWS => k_is)
    (case g_NINE => k_is)
    (case g_OPENING => k_is)
    (case g_SPAN => k_is)
    (case g_ZERO => k_is)
    (case z_len => k_is)
    (case z_list => k_is)
    (case z_range => k_is)
    (case z_sorted => k_is)
    (case z_tuple => k_is)
    (case z_zip => k_is)
  case S =>
    intro K H xs a hO hwi hask hx
    obtain ⟨x0, x1, x2, u⟩ := a
    have hx : L2.DwAll K H xs [WData.int x0, WData.int x1, WData.list (x2.map WData.int)] := hx
    have q : (Codec.inInt 0 4294967295 x0 && (Codec.inInt 0 4294967295 x1 && ((Codec.inLen 0 64 x2 && x2.all (Codec.inInt 0 255)) && true))) = true := hwi
    obtain ⟨v0, xs0, hv0, hx0, rfl⟩ : ∃ v r, L2.Dw K H v _ ∧ L2.DwAll K H r _ ∧ xs = v :: r := by cases hx with | cons h1 h2 => exact ⟨_, _, h1, h2, rfl⟩
    obtain ⟨v1, xs1, hv1, hx1, rfl⟩ : ∃ v r, L2.Dw K H v _ ∧ L2.DwAll K H r _ ∧ xs0 = v :: r := by cases hx0 with | cons h1 h2 => exact ⟨_, _, h1, h2, rfl⟩
    obtain ⟨v2, xs2, hv2, hx2, rfl⟩ : ∃ v r, L2.Dw K H v _ ∧ L2.DwAll K H r _ ∧ xs1 = v :: r := by cases hx1 with | cons h1 h2 => exact ⟨_, _, h1, h2, rfl⟩
    cases hx2
    obtain rfl : v0 = L2.V.int x0 := by cases hv0; rfl
    obtain rfl : v1 = L2.V.int x1 := by cases hv1; rfl
    obtain ⟨a2, rfl, hs2⟩ : ∃ a, v2 = L2.V.ref a ∧ L2.SqL K H a (x2.map L2.V.int) := by
      cases hv2 with
      | lst hs ha =>
        have e := L2.ints_dw x2 _ ha
        subst e
        exact ⟨_, rfl, hs⟩
    simp only [Bool.and_eq_true] at q

    obtain ⟨q0, q3, ⟨q1, q2⟩, _⟩ := q
    exact ⟨a2, x0, x1, x2, rfl, (Codec.inInt_iff.mp q0).1, (Codec.inInt_iff.mp q3).1, hs2, fun z hz => Codec.inInt_iff.mp (List.all_eq_true.mp q2 z hz), (Codec.inNat_iff.mp q1).2, fun v H' ⟨x, e, hx⟩ => by subst e; exact .lst (L2.SqL.of hx) (L2.dw_ints _)⟩
#print axioms PySem.Challenge.cw_jugglebench_s15_runs_holds
