import PyProof.Rows.All
import Wide.All
import OpenK.AllK
import Wide.FinOn
import PyProof.EqAt
import PyProof.EqKinds
import PyProof.TupleCall
import KE.BitLaws
import Open.SpecLaws
import KE.OsHead
import KE.OsGo
import PyProof.Rows.SortShellAny
import KE.KDictList
import KE.KMinKey
import PySem.Challenge.RW_lentground_s01_answers
-- CHANGE: your row's module here, as the last of these rows
set_option Elab.async false
set_option linter.all false
set_option maxRecDepth 100000
/-! THE HAND LAYER, for ints, bools, texts, own classes, lists, tuples, dicts, comprehensions, walks over dicts, enumerate, zip, reversed, texts, calls, loops. Paste it whole ahead of your own text; what your proof does not reach may be deleted. -/
namespace L2
open PySem PySem.Spec PyProof.Rows

/-- a key: an int or a str -/
abbrev Key := Sum Int Str
def keyIs : Key → Value → Bool
  | .inl k, v => Value.isInt k v
  | .inr x, v => Value.isStrOf x v
def keyH (w : World) : Key → Int
  | .inl k => hashInt k
  | .inr x => hashStr w x
theorem keyIs_shape : ∀ {k : Key} {v : Value}, keyIs k v = true → (∃ i t, k = Sum.inl i ∧ v = Value.int i t) ∨ (∃ x t, k = Sum.inr x ∧ v = Value.str x t)
  | .inl i, v, h => by
    obtain ⟨t, e⟩ := Value.isInt_shape (k := i) (v := v) h
    exact .inl ⟨i, t, rfl, e⟩
  | .inr x, v, h => by
    obtain ⟨t, e⟩ := Value.isStrOf_shape (x := x) (v := v) h
    exact .inr ⟨x, t, rfl, e⟩
theorem keyIs_int (i : Int) (t : Tok) : keyIs (.inl i) (.int i t) = true := by simp [keyIs, Value.isInt]
theorem keyIs_str (x : Str) (t : Tok) : keyIs (.inr x) (.str x t) = true := by simp [keyIs, Value.isStrOf]
theorem key_ll (a b : Int) : decide ((Sum.inl a : Key) = Sum.inl b) = (a == b) := by
  by_cases e : a = b
  · subst e; simp
  · have h : ¬ (Sum.inl a : Key) = Sum.inl b := fun q => e (Sum.inl.inj q)
    rw [decide_eq_false h]
    exact (beq_eq_false_iff_ne.mpr e).symm
theorem key_rr (a b : Str) : decide ((Sum.inr a : Key) = Sum.inr b) = decide (a = b) := by
  by_cases e : a = b
  · subst e; simp
  · have h : ¬ (Sum.inr a : Key) = Sum.inr b := fun q => e (Sum.inr.inj q)
    rw [decide_eq_false h, decide_eq_false e]
theorem key_lr (a : Int) (b : Str) : decide ((Sum.inl a : Key) = Sum.inr b) = false := decide_eq_false (fun q => nomatch q)
theorem key_rl (a : Str) (b : Int) : decide ((Sum.inr a : Key) = Sum.inl b) = false := decide_eq_false (fun q => nomatch q)

def mixKind (prog : Program) (w : World) : PySem.KeyKind prog w Key where
  is := keyIs
  hash := keyH w
  inj := fun v a b ha hb => by
    rcases keyIs_shape ha with ⟨i, t, rfl, rfl⟩ | ⟨x, t, rfl, rfl⟩
    · rcases keyIs_shape hb with ⟨j, u, rfl, e⟩ | ⟨y, u, rfl, e⟩
      · injection e with e1 _; rw [e1]
      · exact nomatch e
    · rcases keyIs_shape hb with ⟨j, u, rfl, e⟩ | ⟨y, u, rfl, e⟩
      · exact nomatch e
      · injection e with e1 _; rw [e1]
  byValue := fun k v h => by
    rcases keyIs_shape h with ⟨i, t, rfl, rfl⟩ | ⟨x, t, rfl, rfl⟩ <;> rfl
  pyHash := fun hv h => by
    rcases keyIs_shape hv with ⟨i, t, rfl, rfl⟩ | ⟨x, t, rfl, rfl⟩
    · exact wpAny_pyHash_int h
    · exact wpAny_pyHash_str h
  eqBool := fun hu hv h => by
    rcases keyIs_shape hu with ⟨i, t, rfl, rfl⟩ | ⟨x, t, rfl, rfl⟩
    · rcases keyIs_shape hv with ⟨j, u, rfl, rfl⟩ | ⟨y, u, rfl, rfl⟩
      · rw [key_ll] at h; exact wpAny_eqBool_int h
      · rw [key_lr] at h; exact SeqAt.EqAt.int_str i t y u _ _ _ _ h
    · rcases keyIs_shape hv with ⟨j, u, rfl, rfl⟩ | ⟨y, u, rfl, rfl⟩
      · rw [key_rl] at h; exact SeqAt.EqAt.str_int x t j u _ _ _ _ h
      · rw [key_rr] at h; exact wpAny_eqBool_str h
  «strs» := fun k x t v h => by
    rcases keyIs_shape h with ⟨i, u, rfl, e⟩ | ⟨y, u, rfl, e⟩
    · exact nomatch e
    · injection e with e1 _
      subst e1
      cases v <;> rfl

theorem mixKind_int (prog : Program) (w : World) (i : Int) (t : Tok) : (mixKind prog w).is (.inl i) (.int i t) = true := keyIs_int i t
theorem mixKind_str (prog : Program) (w : World) (x : Str) (t : Tok) : (mixKind prog w).is (.inr x) (.str x t) = true := keyIs_str x t
end L2

namespace L2
open PySem PySem.Spec PyProof.Rows

/-- a value, without the heap -/
inductive V where
  | non | bl (b : Bool) | int (i : Int) | str (x : Str) | byt (b : Array UInt8) | flt (b : UInt64) | ref (a : Addr) | ty (n : String)
  deriving DecidableEq

def RelV : V → Value → Prop
  | .non, u => u = Value.none
  | .bl b, u => u = Value.bool b
  | .int i, u => ∃ t, u = Value.int i t
  | .str x, u => ∃ t, u = Value.str x t
  | .byt b, u => ∃ t, u = Value.bytes b t
  | .flt b, u => ∃ t, u = Value.float b t
  | .ref a, u => u = Value.ref a
  | .ty n, u => u = Value.type n

abbrev Vals : List V → List Value → Prop := Paired RelV
theorem Vals.length {xs : List V} {us : List Value} (r : Vals xs us) : xs.length = us.length := Paired.length r
theorem Vals.get : ∀ {xs : List V} {us : List Value} {i : Nat} {x : V}, Vals xs us → xs[i]? = some x → ∃ u, us[i]? = some u ∧ RelV x u
  | _, _, _, _, .nil, e => by simp at e
  | _, _, 0, _, .cons r _, e => by simp at e; subst e; exact ⟨_, rfl, r⟩
  | _, _, i + 1, x, .cons _ t, e => by
    obtain ⟨u, h1, h2⟩ := Vals.get (i := i) (x := x) t (by simpa using e)
    exact ⟨u, by simpa using h1, h2⟩
theorem Vals.set {x : V} {u : Value} (r : RelV x u) : ∀ {xs : List V} {us : List Value} (i : Nat), Vals xs us → Vals (xs.set i x) (us.set i u)
  | _, _, _, .nil => .nil
  | _, _, 0, .cons _ t => .cons r t
  | _, _, i + 1, .cons q t => .cons q (Vals.set r i t)
theorem Vals.append : ∀ {xs ys : List V} {us ws : List Value}, Vals xs us → Vals ys ws → Vals (xs ++ ys) (us ++ ws)
  | _, _, _, _, .nil, s => s
  | _, _, _, _, .cons r t, s => .cons r (Vals.append t s)
theorem Vals.take : ∀ {xs : List V} {us : List Value} (n : Nat), Vals xs us → Vals (xs.take n) (us.take n)
  | _, _, 0, _ => .nil
  | _, _, _ + 1, .nil => .nil
  | _, _, n + 1, .cons r t => .cons r (Vals.take n t)
theorem Vals.drop : ∀ {xs : List V} {us : List Value} (n : Nat), Vals xs us → Vals (xs.drop n) (us.drop n)
  | _, _, 0, r => r
  | _, _, _ + 1, .nil => .nil
  | _, _, n + 1, .cons _ t => Vals.drop n t

def RelO : Option V → Option Value → Prop
  | some v, some u => RelV v u
  | none, none => True
  | _, _ => False
def KV {κ : Type} : List (κ × V) → List (κ × Value) → Prop := Paired fun (p : κ × V) (q : κ × Value) => p.1 = q.1 ∧ RelV p.2 q.2

/-- a key of a dict (00_mix): an int or a text -/
def kV : Key → V
  | .inl i => .int i
  | .inr x => .str x

/-- what stands at a tracked address -/
inductive HO where
  /-- a list -/
  | lst (xs : List V)
  /-- a tuple (never changes) -/
  | tup (xs : List V)
  /-- a dict whose keys are ints and texts; one whose keys are tuples of ints and texts (the empty one is both) -/
  | dK (kvs : List (Key × V)) | dT (kvs : List (List Key × V))
  /-- a set of ints: its members, its size -/
  | set (S : Int → Bool) (n : Nat)
  /-- an instance of the class at C, its dict at dx, its attributes -/
  | ins (C dx : Addr) (fs : List (Str × V))
  /-- the dict of the instance at x -/
  | own (x : Addr)
  /-- the dict of an exception -/
  | xd (fs : List (Str × V))
  /-- a bound method, f of x -/
  | met (f x : Addr)
  /-- a range object lo, lo + 1, .. below hi -/
  | rng (lo hi : Int)
  /-- a thing that is known to the object (the script; a dict while a loop walks it): read, never written while it is so -/
  | frz (o : Obj) (u : HO)
  /-- a code object's table -/
  | tbl (ps : Array Value)
  /-- any other thing, by what is true of its one object (a def of one's own: SetO a S n := HO.ext fun h => ..) -/
  | ext (φ : Heap → Prop)

abbrev Hp := Addr → Option HO
def upd (H : Hp) (a : Addr) (o : HO) : Hp := fun b => if b = a then some o else H b
theorem upd_same {H : Hp} {a : Addr} {o : HO} : upd H a o a = some o := by unfold upd; rw [if_pos rfl]
theorem upd_ne {H : Hp} {a b : Addr} {o : HO} (h : b ≠ a) : upd H a o b = H b := by unfold upd; rw [if_neg h]
theorem upd_upd {H : Hp} {a : Addr} {o u : HO} : upd (upd H a o) a u = upd H a u := by
  funext b; unfold upd; split <;> rfl
/-- two objects of different content stand apart -/
theorem ne_of {H : Hp} {a b : Addr} {o u : HO} (h : H a = some o) (h' : H b = some u) (d : o ≠ u) : a ≠ b := by
  intro e; subst e; rw [h] at h'; exact d (Option.some.inj h')
theorem ne_of_none {H : Hp} {a b : Addr} {o : HO} (h : H a = some o) (h' : H b = none) : a ≠ b := by
  intro e; subst e; rw [h] at h'; cases h'

section
variable (P : Program) (w : World)
def ObjOk (H : Hp) (h : Heap) (a : Addr) : HO → Prop
  | .lst xs => xs.length ≤ sizeLine ∧ ∃ (its : List Value) (n : Nat), Vals xs its ∧ h.get? a = some { cls := .type "list", data := .seq its.toArray n }
  | .tup xs => xs.length ≤ sizeLine ∧ ∃ its : List Value, Vals xs its ∧ IsTup h a its.toArray
  | .dK kvs => kvs.length ≤ sizeLine ∧ (a == sysModules) = false ∧ ∃ vs, KV kvs vs ∧ h.DictOf (mixKind P w) a vs
  | .dT kvs => kvs.length ≤ sizeLine ∧ (a == sysModules) = false ∧ ∃ xs : List (List Key × Addr × Value),
      Paired (fun (p : List Key × V) (q : List Key × Addr × Value) => p.1 = q.1 ∧ H q.2.1 = some (.tup (p.1.map kV)) ∧ RelV p.2 q.2.2) kvs xs ∧
      ∃ o es ep, h.get? a = some o ∧ o.ExactDict ∧ o.data = .dict es ep ∧ es.toList = xs.map (entryOfKey (tupleKind (mixKind P w))) ∧ (xs.map (·.1)).Nodup
  | .set S n => h.SetOf (intKind P w) a S n
  | .ins C dx fs => H dx = some (.own a) ∧ fs.length ≤ 1000 ∧ dx ≠ a ∧ h.get? a = some (PySem.W.instObj C dx) ∧
      ∃ mA, h.Ns1 dx mA ∧ (∀ f, RelO (fs.lookup f) (mA f)) ∧ PySem.Within mA (fs.map (·.1))
  | .own _ => ∃ o, h.get? a = some o
  | .xd fs => ∃ mA, h.Ns1 a mA ∧ ∀ f, RelO (fs.lookup f) (mA f)
  | .rng lo hi => ∃ t u v, h.get? a = some { cls := .type "range", data := .fields #[.int lo t, .int hi u, .int 1 v] }
  | .frz o u => h.get? a = some o ∧ ObjOk H h a u
  | .tbl ps => h.get? a = some { cls := .none, data := .fields ps }
  | .met f x => h.get? a = some (PySem.W.methodObj (.ref f) (.ref x))
  | .ext φ => φ h ∧ (∃ o, h.get? a = some o) ∧ ∀ h1 h2 : Heap, φ h1 → (∀ o, h1.get? a = some o → h2.get? a = some o) → φ h2
/-- the abstract heap is held -/
def HOk (H : Hp) (h : Heap) : Prop := ∀ a o, H a = some o → ObjOk P w H h a o
end

section
variable {P : Program} {w : World} {H H' : Hp} {h h' : Heap} {a : Addr} {o : HO}
theorem ObjOk.lt (x : ObjOk P w H h a o) : a < h.objs.size := by
  cases o with
  | lst xs => obtain ⟨_, _, _, _, e⟩ := x; exact Heap.lt_size e
  | tup xs => obtain ⟨_, _, _, p⟩ := x; exact p.lt
  | dK kvs => obtain ⟨_, _, _, _, o, _, _, e, _⟩ := x; exact Heap.lt_size e
  | dT kvs => obtain ⟨_, _, _, _, o, _, _, e, _⟩ := x; exact Heap.lt_size e
  | set S n => obtain ⟨o, _, _, _, e, _⟩ := x; exact Heap.lt_size e
  | ins C dx fs => obtain ⟨_, _, _, e, _⟩ := x; exact Heap.lt_size e
  | own y => obtain ⟨_, e⟩ := x; exact Heap.lt_size e
  | xd fs => obtain ⟨_, ⟨_, _, _, e, _⟩, _⟩ := x; exact Heap.lt_size e
  | rng lo hi => obtain ⟨_, _, _, e⟩ := x; exact Heap.lt_size e
  | frz ob u => obtain ⟨e, _⟩ := x; exact Heap.lt_size e
  | tbl ps => exact Heap.lt_size (show h.get? a = some _ from x)
  | met f y => exact Heap.lt_size (show h.get? a = some _ from x)
  | ext φ => obtain ⟨_, ⟨_, e⟩, _⟩ := x; exact Heap.lt_size e
theorem Paired.mapP {α β : Type} {F G : α → β → Prop} : ∀ {l₁ : List α} {l₂ : List β}, Paired F l₁ l₂ → (∀ a b, F a b → G a b) → Paired G l₁ l₂
  | _, _, .nil, _ => .nil
  | _, _, .cons r t, f => .cons (f _ _ r) (Paired.mapP t f)
/-- what an object's description leans on: its own object, its own dict, the tuples -/
theorem ObjOk.stay (x : ObjOk P w H h a o) (k : ∀ b u, (b = a ∨ H b = some (.own a)) → h.get? b = some u → h'.get? b = some u)
    (ho : ∀ b, H b = some (.own a) → H' b = some (.own a)) (ht : ∀ b xs, H b = some (.tup xs) → H' b = some (.tup xs)) : ObjOk P w H' h' a o := by
  induction o with
  | lst xs => obtain ⟨z, its, n, r, e⟩ := x; exact ⟨z, its, n, r, k _ _ (.inl rfl) e⟩
  | tup xs => obtain ⟨z, its, r, ob, e, c⟩ := x; exact ⟨z, its, r, ob, k _ _ (.inl rfl) e, c⟩
  | dK kvs => obtain ⟨z, y, vs, r, ob, es, ep, e, c⟩ := x; exact ⟨z, y, vs, r, ob, es, ep, k _ _ (.inl rfl) e, c⟩
  | dT kvs =>
    obtain ⟨z, y, xs, r, ob, es, ep, e, c⟩ := x
    exact ⟨z, y, xs, Paired.mapP r fun p q z => ⟨z.1, ht _ _ z.2.1, z.2.2⟩, ob, es, ep, k _ _ (.inl rfl) e, c⟩
  | set S n => obtain ⟨ob, es, ep, t, e, c⟩ := x; exact ⟨ob, es, ep, t, k _ _ (.inl rfl) e, c⟩
  | ins C dx fs =>
    obtain ⟨d, z, ne, e, mA, ⟨od, es, ep, e2, c⟩, r⟩ := x
    exact ⟨ho _ d, z, ne, k _ _ (.inl rfl) e, mA, ⟨od, es, ep, k _ _ (.inr d) e2, c⟩, r⟩
  | own y => obtain ⟨ob, e⟩ := x; exact ⟨ob, k _ _ (.inl rfl) e⟩
  | xd fs => obtain ⟨mA, ⟨od, es, ep, e, c⟩, r⟩ := x; exact ⟨mA, ⟨od, es, ep, k _ _ (.inl rfl) e, c⟩, r⟩
  | rng lo hi => obtain ⟨t, u, v, e⟩ := x; exact ⟨t, u, v, k _ _ (.inl rfl) e⟩
  | frz ob u ih => obtain ⟨e, q⟩ := x; exact ⟨k _ _ (.inl rfl) e, ih q⟩
  | tbl ps =>
    have e : h.get? a = some { cls := .none, data := .fields ps } := x
    show h'.get? a = some { cls := .none, data := .fields ps }
    exact k a _ (.inl rfl) e
  | met f y =>
    have e : h.get? a = some (PySem.W.methodObj (.ref f) (.ref y)) := x
    show h'.get? a = some (PySem.W.methodObj (.ref f) (.ref y))
    exact k a _ (.inl rfl) e
  | ext φ => obtain ⟨p, ⟨o, e⟩, st⟩ := x; exact ⟨st _ _ p fun o q => k _ _ (.inl rfl) q, ⟨o, k _ _ (.inl rfl) e⟩, st⟩
theorem HOk.lt (x : HOk P w H h) (e : H a = some o) : a < h.objs.size := (x a o e).lt
theorem HOk.fresh (x : HOk P w H h) (e : h.objs.size ≤ a) : H a = none := by
  cases q : H a with
  | none => rfl
  | some u => exact absurd (Nat.lt_of_lt_of_le (x.lt q) e) (Nat.lt_irrefl _)
/-- every object of the heap is kept -/
theorem HOk.kept (x : HOk P w H h) (k : ∀ b u, h.get? b = some u → h'.get? b = some u) : HOk P w H h' := fun a o e =>
  (x a o e).stay (fun b u _ q => k b u q) (fun _ q => q) fun _ _ q => q
/-- a new object is laid and tracked -/
theorem HOk.laid (x : HOk P w H h) (k : ∀ b u, h.get? b = some u → h'.get? b = some u) (hp : h.objs.size ≤ a) (new : ObjOk P w (upd H a o) h' a o) : HOk P w (upd H a o) h' := fun b u e => by
  have hn := x.fresh hp
  by_cases hb : b = a
  · subst hb; rw [upd_same] at e; cases e; exact new
  · rw [upd_ne hb] at e
    exact (x b u e).stay (fun c v _ q => k c v q) (fun c q => by rw [upd_ne (ne_of_none q hn)]; exact q) fun c xs q => by rw [upd_ne (ne_of_none q hn)]; exact q
end

/-- what may be read as u: it is u, or a known u -/
def Rd (H : Hp) (a : Addr) (u : HO) : Prop := H a = some u ∨ ∃ o, H a = some (.frz o u)
theorem Rd.ok {P : Program} {w : World} {H : Hp} {h : Heap} {a : Addr} {u : HO} (r : Rd H a u) (x : HOk P w H h) : ObjOk P w H h a u := by
  rcases r with r | ⟨o, r⟩
  · exact x a u r
  · obtain ⟨_, q⟩ := x a _ r
    exact q
/-- what may be written -/
def Mut : Option HO → Prop
  | some (.lst _) => True
  | some (.dK _) => True
  | some (.dT _) => True
  | some (.set _ _) => True
  | some (.ins _ _ _) => True
  | some (.ext _) => True
  | _ => False
section
variable {P : Program} {w : World} {H : Hp} {h h' : Heap} {x e : Addr} {o' : HO}
/-- the object at e is changed: x itself, or the dict of the instance x -/
theorem HOk.write (ok : HOk P w H h) (mu : Mut (H x)) (he : e = x ∨ H e = some (.own x)) (k : ∀ b u, b ≠ e → h.get? b = some u → h'.get? b = some u) (heo : ∃ u, h'.get? e = some u)
    (new : ObjOk P w (upd H x o') h' x o') : HOk P w (upd H x o') h' := fun b u q => by
  have nown : ∀ c y, H c = some (.own y) → c ≠ x := fun c y r z => by subst z; rw [r] at mu; exact mu
  have ntup : ∀ c xs, H c = some (.tup xs) → c ≠ x := fun c xs r z => by subst z; rw [r] at mu; exact mu
  by_cases hb : b = x
  · subst hb; rw [upd_same] at q; cases q; exact new
  · rw [upd_ne hb] at q
    by_cases hbe : b = e
    · have q' : H b = some (.own x) := by
        rcases he with z | z
        · exact absurd (hbe.trans z) hb
        · rw [hbe]; exact z
      rw [q] at q'; cases q'
      obtain ⟨v, hv⟩ := heo
      exact ⟨v, by rw [hbe]; exact hv⟩
    · refine (ok b u q).stay (fun c v hc r => k c v ?_ r) (fun c r => by rw [upd_ne (nown c b r)]; exact r) fun c xs r => by rw [upd_ne (ntup c xs r)]; exact r
      rcases hc with rfl | hc
      · exact hbe
      · rintro rfl
        rcases he with z | z
        · exact nown c b hc z
        · rw [hc] at z; cases z; exact hb rfl
end

/-! ### kept unless tracked; of the frames at fs (the callers') the slots may change (an exception that passes writes there); of the records at ex (iterators) nothing is said -/
structure Un (fs ex : List Addr) (H H' : Hp) (h h' : Heap) : Prop where
  keep : ∀ b o, h.get? b = some o → H b = none → b ∉ fs → b ∉ ex → h'.get? b = some o
  slot : ∀ b o, h.get? b = some o → H b = none → b ∈ fs → b ∉ ex → ∃ sl, h'.get? b = some { o with slots := sl }
  free : ∀ b o, h.get? b = some o → H b = none → b ∉ ex → H' b = none
  there : ∀ b o, h.get? b = some o → b ∉ ex → ∃ o', h'.get? b = some o'
  tups : ∀ b xs, H b = some (.tup xs) → H' b = some (.tup xs)
  frzs : ∀ b o u, H b = some (.frz o u) → H' b = some (.frz o u)
  tbls : ∀ b ps, H b = some (.tbl ps) → ∃ more, H' b = some (.tbl (ps ++ more))
section
variable {fs fs' ex ex' : List Addr} {H H1 H2 : Hp} {h h1 h2 h' : Heap} {a x e : Addr} {o : HO}
theorem Un.any (u : Un fs ex H H1 h h1) {b : Addr} {ob : Obj} (q : h.get? b = some ob) (n : H b = none) (hx : b ∉ ex) : ∃ sl, h1.get? b = some { ob with slots := sl } := by
  by_cases hb : b ∈ fs
  · exact u.slot b ob q n hb hx
  · exact ⟨ob.slots, u.keep b ob q n hb hx⟩
theorem Un.kept (k : ∀ b u, h.get? b = some u → h'.get? b = some u) : Un fs ex H H h h' :=
  ⟨fun b ob q _ _ _ => k b ob q, fun b ob q _ _ _ => ⟨ob.slots, k b ob q⟩, fun _ _ _ n _ => n, fun b ob q _ => ⟨ob, k b ob q⟩, fun _ _ q => q, fun _ _ _ q => q, fun _ ps q => ⟨#[], by rw [q]; simp⟩⟩
theorem Un.refl : Un fs ex H H h h := Un.kept fun _ _ q => q
theorem Un.laid (k : ∀ b u, h.get? b = some u → h'.get? b = some u) (hp : h.objs.size ≤ a) (hn : H a = none) : Un fs ex H (upd H a o) h h' where
  keep := fun b u q _ _ _ => k b u q
  slot := fun b u q _ _ _ => ⟨u.slots, k b u q⟩
  free := fun b u q n _ => by rw [upd_ne (Nat.ne_of_lt (Nat.lt_of_lt_of_le (Heap.lt_size q) hp))]; exact n
  there := fun b u q _ => ⟨u, k b u q⟩
  tups := fun b xs q => by rw [upd_ne (ne_of_none q hn)]; exact q
  frzs := fun b u xs q => by rw [upd_ne (ne_of_none q hn)]; exact q
  tbls := fun b ps q => ⟨#[], by rw [upd_ne (ne_of_none q hn), q]; simp⟩
theorem Un.write (mu : Mut (H x)) (he : e = x ∨ H e = some (.own x)) (k : ∀ b u, b ≠ e → h.get? b = some u → h'.get? b = some u) (heo : ∃ u, h'.get? e = some u) : Un fs ex H (upd H x o) h h' := by
  have hx : ∀ b, H b = none → b ≠ x := fun b n z => by subst z; rw [n] at mu; exact mu
  have hb : ∀ b, H b = none → b ≠ e := fun b n z => by
    subst z
    rcases he with r | r
    · exact hx b n r
    · rw [n] at r; cases r
  have hm : ∀ b u, H b = some u → ¬ Mut (some u) → b ≠ x := fun b u q nm z => by subst z; rw [q] at mu; exact nm mu
  refine ⟨fun b u q n _ _ => k b u (hb b n) q, fun b u q n _ _ => ⟨u.slots, k b u (hb b n) q⟩, fun b u q n _ => by rw [upd_ne (hx b n)]; exact n, fun b u q _ => ?_,
    fun b xs q => by rw [upd_ne (hm b _ q fun z => z)]; exact q, fun b u xs q => by rw [upd_ne (hm b _ q fun z => z)]; exact q, fun b ps q => ⟨#[], by rw [upd_ne (hm b _ q fun z => z), q]; simp⟩⟩
  by_cases hbe : b = e
  · subst hbe; exact heo
  · exact ⟨u, k b u hbe q⟩
end

/-! ### the heap without what is tracked -/
def trk (h : Heap) (H : Hp) : List Addr := (List.range h.objs.size).filter fun a => (H a).isSome
def hidT (h : Heap) (H : Hp) : Heap := PySem.W.hideAll h (trk h H)
theorem hidT_size (h : Heap) (H : Hp) : (hidT h H).objs.size = h.objs.size := PySem.W.hideAll_size _ _
theorem hidT_get {h : Heap} {H : Hp} {b : Addr} {o : Obj} (e : h.get? b = some o) (n : H b = none) : (hidT h H).get? b = some o :=
  PySem.W.hideAll_get _ e fun hm => by
    have q : (H b).isSome = true := (List.mem_filter.mp hm).2
    rw [n] at q; simp at q
theorem of_hidT {h : Heap} {H : Hp} {b : Addr} {o : Obj} (e : (hidT h H).get? b = some o) : h.get? b = some o ∧ H b = none := by
  have e' : h.get? b = some o := PySem.W.of_hideAll (trk h H) e
  refine ⟨e', ?_⟩
  cases q : H b with
  | none => rfl
  | some x =>
    have hm : b ∈ trk h H := List.mem_filter.mpr ⟨List.mem_range.mpr (Heap.lt_size e'), by simp [q]⟩
    have z : (hidT h H).get? b = none := PySem.W.hideAll_none (trk h H) hm
    rw [z] at e; cases e

/-! ### OpenK's ledger, filled with every new object but one -/
end L2

namespace L2
open PySem PySem.Spec PyProof.Rows

/-- the module's facts, over the base: the heap at the law's entry without what is tracked there -/
structure Mod (K : PySem.W.Frag) (mg : Str → Option Value) (base : Heap) : Prop where
  kin : K.In base
  glob : base.Ns mainGlobals mg
  blt : ∃ mb, base.Ns builtinsNs mb ∧ ∀ x : Str, x ≠ "__name__" → mb x = bootBuiltins x
  nolimit : base.NoLimit

/-- the context: a def's body (or a comprehension's block) running. base: fixed through the whole law; s₀, H₀: the entry; outer: the frames whose slots others may change (a def's callers); stack: all frames that run;
   ex: iterators that were made ahead of the entry and are walked here (a comprehension's); fn: the names whose cells were made at the entry (a def: all; a comprehension's block: its own); calm: not within an except suite; pn: pins that every state bears; xe: what is wanted of an exception that leaves the code -/
structure Cx where
  prog : Program
  w : World
  K : PySem.W.Frag
  mg : Str → Option Value
  base : Heap
  A : Around
  N : List Str
  s_0 : Shared
  H_0 : Hp
  env : Env
  outer : List Env
  stack : List Env
  ex : List Addr
  fn : Str → Bool
  calm : Bool
  pn : List (Addr × Obj)
  xe : Value → Shared → Prop
/-- the callers' frames -/
def frs (l : List Env) : List Addr := l.filterMap (·.frame)
abbrev Cx.fs (X : Cx) : List Addr := frs X.outer

def Vis (sc : Scope) (x : Str) : Prop := sc.names.lookup x = some .local ∨ sc.names.lookup x = some .cell ∨ sc.names.lookup x = some .free
def Loc (sc : Scope) (x : Str) : Prop := sc.names.lookup x = some .local ∨ sc.names.lookup x = some .cell
def Look (env : Env) (h : Heap) (m : Str → Option Value) (x : Str) (u : Value) : Prop :=
  (env.kindOf x = some .local ∧ m x = some u) ∨ ((env.kindOf x = some .cell ∨ env.kindOf x = some .free) ∧ ∃ c, env.cells.lookup x = some c ∧ h.IsCell c (some u))

structure Cx.Ok (X : Cx) : Prop where
  mod : Mod X.K X.mg X.base
  kind : X.env.scope.kind = .function
  glob : X.env.globals = mainGlobals
  blt : X.env.builtins = builtinsNs
  above : X.s_0.heap.objs.size ≤ X.env.locals
  inj : ∀ x y c, X.env.cells.lookup x = some c → X.env.cells.lookup y = some c → x = y
  has : ∀ x, (X.env.kindOf x = some .cell ∨ X.env.kindOf x = some .free) → ∃ c, X.env.cells.lookup x = some c
  cab : ∀ x c, X.fn x = true → X.env.cells.lookup x = some c → X.s_0.heap.objs.size ≤ c
  hd : X.calm = true → X.A.handled = none
  frames : X.A.frames = some X.stack
  stk : X.stack = X.outer ∨ (X.stack = X.env :: X.outer ∧ X.env.frame = some X.env.locals)
  exf : ∀ b ∈ X.ex, b ≠ X.env.locals ∧ ∀ x c, X.env.cells.lookup x = some c → c ≠ b
  bs : ∀ b o, X.base.get? b = some o → X.s_0.heap.get? b = some o ∧ X.H_0 b = none
  bsz : X.base.objs.size ≤ X.s_0.heap.objs.size
  noex : ∀ b o, X.base.get? b = some o → b ∉ X.ex
  exfs : ∀ b ∈ X.ex, b ∉ X.fs
  funs : X.s_0.heap.FunFrames X.base X.outer
  frf : ∀ b ∈ X.fs, X.H_0 b = none

structure Inv (X : Cx) (pins : List (Addr × Obj)) (σ : List (Option V)) (H : Hp) (s : Shared) : Prop where
  ok : X.Ok
  os : s.os = X.s_0.os
  bare : AllBare s.gens
  base : Un X.fs X.ex X.H_0 H X.s_0.heap s.heap
  loc : ∃ m, s.heap.Ns X.env.locals m ∧ ∀ (i : Nat) (x : Str) (v : V), X.N[i]? = some x → σ[i]? = some (some v) → Vis X.env.scope x → ∃ u, RelV v u ∧ Look X.env s.heap m x u
  cell : ∀ x c, X.env.cells.lookup x = some c → ∃ v, s.heap.IsCell c v
  free : H X.env.locals = none
  freeC : ∀ x c, X.env.cells.lookup x = some c → H c = none
  pin : ∀ p ∈ X.pn ++ pins, s.heap.get? p.1 = some p.2 ∧ H p.1 = none ∧ p.1 ≠ X.env.locals ∧ p.1 ∉ X.fs ∧ ∀ v, p.2.data ≠ .cell v
  hok : HOk X.prog X.w H s.heap
  len : σ.length = X.N.length

section
variable {X : Cx} {pins : List (Addr × Obj)} {σ : List (Option V)} {H H' : Hp} {s : Shared} {h' : Heap}

theorem Cx.Ok.nofr (ok : X.Ok) {b : Addr} {o : Obj} (e : X.base.get? b = some o) : b ∉ X.fs := fun hb => by
  have := (ok.funs.mem hb).1
  rw [e] at this; cases this
theorem Inv.bs (I : Inv X pins σ H s) : ∀ b o, X.base.get? b = some o → s.heap.get? b = some o ∧ H b = none := fun b o e =>
  ⟨I.base.keep b o (I.ok.bs b o e).1 (I.ok.bs b o e).2 (I.ok.nofr e) (I.ok.noex b o e), I.base.free b o (I.ok.bs b o e).1 (I.ok.bs b o e).2 (I.ok.noex b o e)⟩
theorem Inv.bk (I : Inv X pins σ H s) : ∀ b o, X.base.get? b = some o → s.heap.get? b = some o := fun b o e => (I.bs b o e).1
theorem Inv.mod (I : Inv X pins σ H s) : Mod X.K X.mg X.base := I.ok.mod
theorem Inv.kIn (I : Inv X pins σ H s) : X.K.In s.heap := I.ok.mod.kin.keeps I.bk
theorem Inv.lt (I : Inv X pins σ H s) : X.env.locals < s.heap.objs.size := let ⟨_, hn, _⟩ := I.loc; hn.lt
theorem Inv.sz (I : Inv X pins σ H s) : X.s_0.heap.objs.size ≤ s.heap.objs.size := Nat.le_trans I.ok.above (Nat.le_of_lt I.lt)
theorem Inv.nofs (I : Inv X pins σ H s) {a : Addr} (h : s.heap.objs.size ≤ a) : a ∉ X.fs := fun hb => by
  obtain ⟨_, o, ho, _⟩ := I.ok.funs.mem hb
  exact absurd (Nat.lt_of_lt_of_le (Heap.lt_size ho) (Nat.le_trans I.sz h)) (Nat.lt_irrefl _)
theorem Inv.cne (I : Inv X pins σ H s) : ∀ x c, X.env.cells.lookup x = some c → c ≠ X.env.locals := fun x c e z => by
  obtain ⟨v, o, ho, hd⟩ := I.cell x c e
  obtain ⟨m, ⟨o', es, ep, ho', hd', _⟩, _⟩ := I.loc
  rw [z, ho'] at ho; cases ho; rw [hd'] at hd; cases hd
theorem Inv.funs (I : Inv X pins σ H s) : s.heap.FunFrames X.base X.outer := by
  have all : ∀ (l : List Env), (∀ b ∈ frs l, b ∈ X.fs) → X.s_0.heap.FunFrames X.base l → s.heap.FunFrames X.base l := by
    intro l
    induction l with
    | nil => intro _ _; trivial
    | cons env r ih =>
      intro hs hl
      obtain ⟨hk, ⟨L, o, hf, hn, ho, hd⟩, hr⟩ := hl
      have hL : L ∈ X.fs := hs L (by unfold frs; rw [List.filterMap_cons, hf]; exact List.mem_cons_self)
      obtain ⟨sl, e⟩ := I.base.slot L o ho (I.ok.frf L hL) hL fun z => I.ok.exfs L z hL
      exact ⟨hk, ⟨L, _, hf, hn, e, hd⟩, ih (fun b hb => hs b (by unfold frs; rw [List.filterMap_cons, hf]; exact List.mem_cons_of_mem _ hb)) hr⟩
  exact all X.outer (fun _ hb => hb) I.ok.funs

/-- the frames that run, for a call -/
theorem Inv.stack (I : Inv X pins σ H s) : s.heap.FunFrames X.base X.stack := by
  rcases I.ok.stk with e | ⟨e, hf⟩
  · rw [e]; exact I.funs
  · rw [e]
    obtain ⟨m, hn, _⟩ := I.loc
    refine .cons (by rw [I.ok.kind]; decide) hf hn ?_ I.funs
    exact Heap.get?_none_of_le (Nat.le_trans I.ok.bsz I.ok.above)
theorem Inv.stkSub (I : Inv X pins σ H s) : ∀ b ∈ frs X.stack, b ∈ X.env.locals :: X.fs := fun b hb => by
  rcases I.ok.stk with e | ⟨e, hf⟩
  · rw [e] at hb; exact List.mem_cons_of_mem _ hb
  · rw [e] at hb
    unfold frs at hb
    rw [List.filterMap_cons, hf] at hb
    exact hb
theorem Inv.stkFree (I : Inv X pins σ H s) : ∀ b ∈ frs X.stack, H b = none := fun b hb => by
  rcases List.mem_cons.mp (I.stkSub b hb) with e | hb
  · rw [e]; exact I.free
  · obtain ⟨_, o, ho, _⟩ := I.ok.funs.mem hb
    exact I.base.free b o ho (I.ok.frf b hb) fun z => I.ok.exfs b z hb

/-- THE STEP: the untracked objects but the frame and the records at ch are kept (the callers' frames up to slots), the frame's map is kept, the new abstract heap is held -/
theorem Inv.step {g' : Array GenState} {t' : Nat} {d' : Drawn} {ch : List Addr} (I : Inv X pins σ H s)
    (hch : ∀ b ∈ ch, (b ∈ X.ex ∨ X.s_0.heap.objs.size ≤ b) ∧ b ≠ X.env.locals ∧ (∀ x c, X.env.cells.lookup x = some c → c ≠ b) ∧ ∀ p ∈ X.pn ++ pins, p.1 ≠ b)
    (keep : ∀ b o, b ≠ X.env.locals → b ∉ X.fs → b ∉ ch → s.heap.get? b = some o → H b = none → h'.get? b = some o)
    (slot : ∀ b o, b ≠ X.env.locals → b ∈ X.fs → b ∉ ch → s.heap.get? b = some o → H b = none → ∃ sl, h'.get? b = some { o with slots := sl }) (free : ∀ b o, b ∉ ch → s.heap.get? b = some o → H b = none → H' b = none)
    (there : ∀ b o, b ∉ ch → s.heap.get? b = some o → ∃ o', h'.get? b = some o')
    (tups : ∀ b xs, H b = some (.tup xs) → H' b = some (.tup xs)) (frzs : ∀ b o u, H b = some (.frz o u) → H' b = some (.frz o u)) (tbls : ∀ b ps, H b = some (.tbl ps) → ∃ more, H' b = some (.tbl (ps ++ more)))
    (ns : ∀ m, s.heap.Ns X.env.locals m → h'.Ns X.env.locals m) (hok : HOk X.prog X.w H' h') (hg : AllBare g') :
    Inv X pins σ H' { s with heap := h', gens := g', drawn := d', toks := t' } := by
  have neL : ∀ b o, X.s_0.heap.get? b = some o → b ≠ X.env.locals := fun b o e => Nat.ne_of_lt (Nat.lt_of_lt_of_le (Heap.lt_size e) I.ok.above)
  have neC : ∀ b o, X.s_0.heap.get? b = some o → b ∉ X.ex → b ∉ ch := fun b o e hx hb => by
    rcases (hch b hb).1 with z | z
    · exact hx z
    · exact absurd (Nat.lt_of_lt_of_le (Heap.lt_size e) z) (Nat.lt_irrefl _)
  have cellK : ∀ x c, X.env.cells.lookup x = some c → ∀ v, s.heap.IsCell c v → h'.IsCell c v := fun x c e v ⟨o, ho, hd⟩ => by
    have nch : c ∉ ch := fun z => (hch c z).2.2.1 x c e rfl
    by_cases hc : c ∈ X.fs
    · obtain ⟨sl, q⟩ := slot c o (I.cne x c e) hc nch ho (I.freeC x c e)
      exact ⟨_, q, hd⟩
    · exact ⟨o, keep c o (I.cne x c e) hc nch ho (I.freeC x c e), hd⟩
  refine ⟨I.ok, I.os, hg, ⟨fun b o e n hb hx => ?_, fun b o e n hb hx => ?_, fun b o e n hx => ?_, fun b o e hx => ?_, fun b xs e => tups b xs (I.base.tups b xs e), fun b o xs e => frzs b o xs (I.base.frzs b o xs e), fun b ps e => ?_⟩, ?_, fun x c e => ?_, ?_, fun x c e => ?_, fun p hp => ?_, hok, I.len⟩
  · exact keep b o (neL b o e) hb (neC b o e hx) (I.base.keep b o e n hb hx) (I.base.free b o e n hx)
  · obtain ⟨sl, e1⟩ := I.base.slot b o e n hb hx
    obtain ⟨sl', e2⟩ := slot b _ (neL b o e) hb (neC b o e hx) e1 (I.base.free b o e n hx)
    exact ⟨sl', e2⟩
  · obtain ⟨o', e1⟩ := I.base.there b o e hx
    exact free b o' (neC b o e hx) e1 (I.base.free b o e n hx)
  · obtain ⟨o', e1⟩ := I.base.there b o e hx
    exact there b o' (neC b o e hx) e1
  · obtain ⟨m1, e1⟩ := I.base.tbls b ps e
    obtain ⟨m2, e2⟩ := tbls b _ e1
    exact ⟨m1 ++ m2, by rw [e2, Array.append_assoc]⟩
  · obtain ⟨m, hn, hl⟩ := I.loc
    refine ⟨m, ns m hn, fun i x v e1 e2 e3 => ?_⟩
    obtain ⟨u, r, l⟩ := hl i x v e1 e2 e3
    refine ⟨u, r, ?_⟩
    rcases l with l | ⟨k, c, e, z⟩
    · exact .inl l
    · exact .inr ⟨k, c, e, cellK x c e _ z⟩
  · obtain ⟨v, z⟩ := I.cell x c e
    exact ⟨v, cellK x c e v z⟩
  · obtain ⟨m, ⟨o, _, _, ho, _⟩, _⟩ := I.loc
    exact free _ o (fun z => (hch _ z).2.1 rfl) ho I.free
  · obtain ⟨v, o, ho, hd⟩ := I.cell x c e
    exact free c o (fun z => (hch c z).2.2.1 x c e rfl) ho (I.freeC x c e)
  · obtain ⟨e, n, ne, nf, d⟩ := I.pin p hp
    have nch : p.1 ∉ ch := fun z => (hch p.1 z).2.2.2 p hp rfl
    exact ⟨keep p.1 p.2 ne nf nch e n, free p.1 p.2 nch e n, ne, nf, d⟩
/-- .. where the frame's own object is kept too -/
theorem Inv.un {t' : Nat} (I : Inv X pins σ H s) (u : Un X.fs [] H H' s.heap h') (hok : HOk X.prog X.w H' h') : Inv X pins σ H' { s with heap := h', toks := t' } := by
  obtain ⟨m, ⟨o, es, ep, ho, r⟩, _⟩ := id I.loc
  obtain ⟨sl, hL⟩ := u.any ho I.free (by simp)
  exact I.step (g' := s.gens) (d' := s.drawn) (ch := []) (fun _ z => nomatch z) (fun b o _ hb _ e n => u.keep b o e n hb (by simp)) (fun b o _ hb _ e n => u.slot b o e n hb (by simp)) (fun b o _ e n => u.free b o e n (by simp)) (fun b o _ e => u.there b o e (by simp)) u.tups u.frzs u.tbls (fun m' hm => by
    obtain ⟨o', es', ep', ho', r'⟩ := hm
    rw [ho] at ho'; cases ho'
    exact ⟨_, es', ep', hL, r'⟩) hok I.bare
/-- behind a call (or a comprehension's block): the slots of this frame may have changed too, the records at ch may have turned -/
theorem Inv.call {g' : Array GenState} {t' : Nat} {d' : Drawn} {ch : List Addr} (I : Inv X pins σ H s) (u : Un (frs X.stack) ch H H' s.heap h') (hok : HOk X.prog X.w H' h') (hg : AllBare g')
    (hch : ∀ b ∈ ch, (b ∈ X.ex ∨ X.s_0.heap.objs.size ≤ b) ∧ b ≠ X.env.locals ∧ (∀ x c, X.env.cells.lookup x = some c → c ≠ b) ∧ ∀ p ∈ X.pn ++ pins, p.1 ≠ b) :
    Inv X pins σ H' { s with heap := h', gens := g', drawn := d', toks := t' } := by
  obtain ⟨m, ⟨o, es, ep, ho, r⟩, _⟩ := id I.loc
  obtain ⟨sl, hL⟩ := u.any ho I.free fun z => (hch _ z).2.1 rfl
  exact I.step (ch := ch) hch (fun b o hL hb hc e n => u.keep b o e n (fun z => (List.mem_cons.mp (I.stkSub b z)).elim hL hb) hc) (fun b o _ _ hc e n => u.any e n hc) (fun b o hc e n => u.free b o e n hc) (fun b o hc e => u.there b o e hc) u.tups u.frzs u.tbls (fun m' hm => by
    obtain ⟨o', es', ep', ho', r'⟩ := hm
    rw [ho] at ho'; cases ho'
    exact ⟨_, es', ep', hL, r'⟩) hok hg
/-- an untracked record of ours (an iterator) has turned -/
theorem Inv.turned {t' : Nat} {it : Addr} (I : Inv X pins σ H s) (k : ∀ b o, b ≠ it → s.heap.get? b = some o → h'.get? b = some o) (hn : H it = none) (hL : it ≠ X.env.locals)
    (h1 : it ∈ X.ex ∨ X.s_0.heap.objs.size ≤ it) (h2 : ∀ x c, X.env.cells.lookup x = some c → c ≠ it) (h3 : ∀ p ∈ X.pn ++ pins, p.1 ≠ it) : Inv X pins σ H { s with heap := h', toks := t' } := by
  have nit : ∀ b u, H b = some u → b ≠ it := fun b u e z => by rw [z, hn] at e; cases e
  refine I.step (g' := s.gens) (d' := s.drawn) (ch := [it]) (fun b hb => ?_) (fun b o _ _ hc e _ => k b o (fun z => hc (by simp [z])) e) (fun b o _ _ hc e _ => ⟨o.slots, k b o (fun z => hc (by simp [z])) e⟩) (fun _ _ _ _ n => n)
    (fun b o hc e => ⟨o, k b o (fun z => hc (by simp [z])) e⟩) (fun _ _ e => e) (fun _ _ _ e => e) (fun b ps e => ⟨#[], by rw [e]; simp⟩) (fun m hm => ?_) (fun b u e => ?_) I.bare
  · have e : b = it := by simpa using hb
    subst e
    exact ⟨h1, hL, h2, h3⟩
  · obtain ⟨o, es, ep, ho, r⟩ := hm
    exact ⟨o, es, ep, k _ o (Ne.symm hL) ho, r⟩
  · refine (I.hok b u e).stay (fun c v hc q => k c v ?_ q) (fun _ q => q) fun _ _ q => q
    rcases hc with z | z
    · rw [z]; exact nit b u e
    · exact nit c _ z
theorem Inv.tok (I : Inv X pins σ H s) (t : Nat) : Inv X pins σ H { s with toks := t } := I.un (h' := s.heap) (t' := t) Un.refl I.hok
/-- all objects kept -/
theorem Inv.kept {t' : Nat} (I : Inv X pins σ H s) (k : ∀ b u, s.heap.get? b = some u → h'.get? b = some u) : Inv X pins σ H { s with heap := h', toks := t' } := I.un (Un.kept k) (I.hok.kept k)
/-- a new object laid and tracked -/
theorem Inv.laid {a : Addr} {o : HO} {t' : Nat} (I : Inv X pins σ H s) (k : ∀ b u, s.heap.get? b = some u → h'.get? b = some u) (hp : s.heap.objs.size ≤ a) (new : ObjOk X.prog X.w (upd H a o) h' a o) :
    Inv X pins σ (upd H a o) { s with heap := h', toks := t' } := I.un (Un.laid k hp (I.hok.fresh hp)) (I.hok.laid k hp new)
/-- an object written -/
theorem Inv.write {x e : Addr} {o : HO} {t' : Nat} (I : Inv X pins σ H s) (mu : Mut (H x)) (he : e = x ∨ H e = some (.own x)) (k : ∀ b u, b ≠ e → s.heap.get? b = some u → h'.get? b = some u) (heo : ∃ u, h'.get? e = some u)
    (new : ObjOk X.prog X.w (upd H x o) h' x o) : Inv X pins σ (upd H x o) { s with heap := h', toks := t' } := I.un (Un.write mu he k heo) (I.hok.write mu he k heo new)
/-- forgetting slots, pins -/
theorem Inv.weak {σ' : List (Option V)} (I : Inv X pins σ H s) (hl : σ'.length = σ.length) (w : ∀ (i : Nat) v, σ'[i]? = some (some v) → σ[i]? = some (some v)) : Inv X pins σ' H s :=
  ⟨I.ok, I.os, I.bare, I.base, let ⟨m, hn, hl'⟩ := I.loc; ⟨m, hn, fun i x v e1 e2 e3 => hl' i x v e1 (w i v e2) e3⟩, I.cell, I.free, I.freeC, I.pin, I.hok, hl.trans I.len⟩
theorem Inv.pins_of {pins' : List (Addr × Obj)} (I : Inv X pins σ H s) (h : ∀ p ∈ pins', s.heap.get? p.1 = some p.2 ∧ H p.1 = none ∧ p.1 ≠ X.env.locals ∧ p.1 ∉ X.fs ∧ ∀ v, p.2.data ≠ .cell v) : Inv X pins' σ H s :=
  ⟨I.ok, I.os, I.bare, I.base, I.loc, I.cell, I.free, I.freeC, fun p hp => (List.mem_append.mp hp).elim (fun z => I.pin p (List.mem_append_left _ z)) (h p), I.hok, I.len⟩

theorem nodup_ix {N : List Str} (hN : N.Nodup) {i j : Nat} {x : Str} (a : N[i]? = some x) (b : N[j]? = some x) : i = j := by
  obtain ⟨h1, e1⟩ := List.getElem?_eq_some_iff.mp a
  obtain ⟨h2, e2⟩ := List.getElem?_eq_some_iff.mp b
  exact (List.getElem_inj hN).mp (e1.trans e2.symm)

/-- a name is stored; what changed -/
theorem store_ok2 {M : Model} {A : Around} {E : Value → Shared → Prop} {i : Nat} {x : Str} {v : V} {u : Value} {Q : Unit → Shared → Prop} (I : Inv X pins σ H s) (hN : X.N.Nodup) (hi : X.N[i]? = some x) (hx : Loc X.env.scope x) (r : RelV v u)
    (h : ∀ s', Inv X pins (σ.set i (some v)) H s' → (∃ a, Heap.SameBut a s.heap s'.heap ∧ (a = X.env.locals ∨ X.env.cells.lookup x = some a)) → Q () s') (hf : X.fn x = true ∨ X.env.scope.names.lookup x = some .local := by first | exact .inl rfl | exact .inr rfl | assumption) : wpAny M A (storeName X.env x u) Q E s := by
  obtain ⟨m, hn, hl⟩ := id I.loc
  have hcls : (X.env.scope.kind == .class || (X.env.scope.kind == .module && X.env.locals != X.env.globals)) = false := by rw [I.ok.kind]; rfl
  have hiσ : i < σ.length := by rw [I.len]; exact (List.getElem?_eq_some_iff.mp hi).1
  have cne := I.cne
  have tracked : ∀ {a : Addr} {h' : Heap}, (∃ o, s.heap.get? a = some o ∧ H a = none) → Heap.SameBut a s.heap h' → HOk X.prog X.w H h' := fun {a h'} ha hs b ob e => by
    obtain ⟨_, _, hfree⟩ := ha
    refine (I.hok b ob e).stay (fun c w' hc q => (hs.2 c ?_).trans q) (fun _ q => q) fun _ _ q => q
    rintro rfl
    rcases hc with rfl | hc
    · rw [hfree] at e; cases e
    · rw [hfree] at hc; cases hc
  rcases hx with hk | hk
  · refine wpAny_storeName_local hk hn (fun h' hn' hs => ?_) hcls
    obtain ⟨oL, _, _, hoL, _⟩ := id hn
    refine h _ ⟨I.ok, I.os, I.bare, ⟨fun b o e n hb hx => ?_, fun b o e n hb hx => ?_, I.base.free, fun b o e hx => ?_, I.base.tups, I.base.frzs, I.base.tbls⟩, ⟨_, hn', fun j y v' e1 e2 e3 => ?_⟩, fun y c e => ?_, I.free, I.freeC, fun p hp => ?_, tracked ⟨oL, hoL, I.free⟩ hs, by simpa using I.len⟩ ⟨_, hs, .inl rfl⟩
    · exact (hs.2 b (Nat.ne_of_lt (Nat.lt_of_lt_of_le (Heap.lt_size e) I.ok.above))).trans (I.base.keep b o e n hb hx)
    · obtain ⟨sl, e1⟩ := I.base.slot b o e n hb hx
      exact ⟨sl, (hs.2 b (Nat.ne_of_lt (Nat.lt_of_lt_of_le (Heap.lt_size e) I.ok.above))).trans e1⟩
    · obtain ⟨o', e1⟩ := I.base.there b o e hx
      exact ⟨o', (hs.2 b (Nat.ne_of_lt (Nat.lt_of_lt_of_le (Heap.lt_size e) I.ok.above))).trans e1⟩
    · by_cases hj : j = i
      · subst hj
        rw [hi] at e1; cases e1
        rw [List.getElem?_set_self hiσ] at e2
        cases e2
        exact ⟨u, r, .inl ⟨hk, by simp⟩⟩
      · rw [List.getElem?_set_ne (Ne.symm hj)] at e2
        obtain ⟨u', r', q⟩ := hl j y v' e1 e2 e3
        refine ⟨u', r', ?_⟩
        rcases q with ⟨k, e⟩ | ⟨k, c, e, z⟩
        · refine .inl ⟨k, ?_⟩
          have : y ≠ x := fun e => hj (nodup_ix hN e1 (e ▸ hi))
          simp [this, e]
        · exact .inr ⟨k, c, e, z.sameBut hs (cne y c e)⟩
    · obtain ⟨w', z⟩ := I.cell y c e
      exact ⟨w', z.sameBut hs (cne y c e)⟩
    · obtain ⟨e, n, ne, nf, d⟩ := I.pin p hp
      exact ⟨(hs.2 p.1 ne).trans e, n, ne, nf, d⟩
  · have hfn : X.fn x = true := by
      rcases hf with z | z
      · exact z
      · rw [z] at hk; cases hk
    obtain ⟨c, hc⟩ := I.ok.has x (.inl hk)
    obtain ⟨w', z⟩ := I.cell x c hc
    refine wpAny_storeName_cell I.ok.kind hk hc z (fun h' hc' hs => ?_)
    obtain ⟨oc, hoc, hocd⟩ := id z
    refine h { s with heap := h' } ⟨I.ok, I.os, I.bare, ⟨fun b o e n hb hx => ?_, fun b o e n hb hx => ?_, I.base.free, fun b o e hx => ?_, I.base.tups, I.base.frzs, I.base.tbls⟩, ⟨m, hn.sameBut hs (Ne.symm (cne x c hc)), fun j y v' e1 e2 e3 => ?_⟩, fun y c' e => ?_, I.free, I.freeC, fun p hp => ?_, tracked ⟨oc, hoc, I.freeC x c hc⟩ hs, by simpa using I.len⟩ ⟨c, hs, .inr hc⟩
    · exact (hs.2 b (Nat.ne_of_lt (Nat.lt_of_lt_of_le (Heap.lt_size e) (I.ok.cab x c hfn hc)))).trans (I.base.keep b o e n hb hx)
    · obtain ⟨sl, e1⟩ := I.base.slot b o e n hb hx
      exact ⟨sl, (hs.2 b (Nat.ne_of_lt (Nat.lt_of_lt_of_le (Heap.lt_size e) (I.ok.cab x c hfn hc)))).trans e1⟩
    · obtain ⟨o', e1⟩ := I.base.there b o e hx
      exact ⟨o', (hs.2 b (Nat.ne_of_lt (Nat.lt_of_lt_of_le (Heap.lt_size e) (I.ok.cab x c hfn hc)))).trans e1⟩
    · by_cases hj : j = i
      · subst hj
        rw [hi] at e1; cases e1
        rw [List.getElem?_set_self hiσ] at e2
        cases e2
        exact ⟨u, r, .inr ⟨.inl hk, c, hc, hc'⟩⟩
      · rw [List.getElem?_set_ne (Ne.symm hj)] at e2
        obtain ⟨u', r', q⟩ := hl j y v' e1 e2 e3
        refine ⟨u', r', ?_⟩
        rcases q with q | ⟨k, c', e, z'⟩
        · exact .inl q
        · refine .inr ⟨k, c', e, z'.sameBut hs ?_⟩
          rintro rfl
          exact hj (nodup_ix hN e1 (I.ok.inj _ _ _ e hc ▸ hi))
    · by_cases hcc : c' = c
      · subst hcc; exact ⟨_, hc'⟩
      · obtain ⟨w2, z2⟩ := I.cell y c' e
        exact ⟨w2, z2.sameBut hs hcc⟩
    · obtain ⟨e, n, ne, nf, d⟩ := I.pin p hp
      refine ⟨(hs.2 p.1 ?_).trans e, n, ne, nf, d⟩
      intro q
      rw [q, hoc] at e
      have q' : oc = p.2 := Option.some.inj e
      exact d w' (by rw [← q']; exact hocd)
theorem store_ok {M : Model} {A : Around} {E : Value → Shared → Prop} {i : Nat} {x : Str} {v : V} {u : Value} {Q : Unit → Shared → Prop} (I : Inv X pins σ H s) (hN : X.N.Nodup) (hi : X.N[i]? = some x) (hx : Loc X.env.scope x) (r : RelV v u)
    (h : ∀ s', Inv X pins (σ.set i (some v)) H s' → Q () s') (hf : X.fn x = true ∨ X.env.scope.names.lookup x = some .local := by first | exact .inl rfl | exact .inr rfl | assumption) : wpAny M A (storeName X.env x u) Q E s :=
  store_ok2 I hN hi hx r (fun s' I' _ => h s' I') hf
/-- behind a call or a block, the state as it is -/
theorem Inv.call' {s' : Shared} {ch : List Addr} (I : Inv X pins σ H s) (ho : s'.os = s.os) (u : Un (frs X.stack) ch H H' s.heap s'.heap) (hok : HOk X.prog X.w H' s'.heap) (hg : AllBare s'.gens)
    (hch : ∀ b ∈ ch, (b ∈ X.ex ∨ X.s_0.heap.objs.size ≤ b) ∧ b ≠ X.env.locals ∧ (∀ x c, X.env.cells.lookup x = some c → c ≠ b) ∧ ∀ p ∈ X.pn ++ pins, p.1 ≠ b) : Inv X pins σ H' s' := by
  obtain ⟨h', g', d', t', o'⟩ := s'
  have e : o' = s.os := ho
  subst e
  exact I.call (g' := g') (t' := t') (d' := d') u hok hg hch
end

/-! ### the judgements -/
/-- an exception: its class, its own dict's address (where it has one), the abstract heap behind it -/
abbrev XK := Value → Option Addr → Hp → Prop
abbrev St := List (Option V)
abbrev VK := V → Hp → Prop
/-- an expression's reading; a test's; an argument list's -/
abbrev TE := St → Hp → VK → Prop
abbrev TT := St → Hp → (Bool → Hp → Prop) → Prop
abbrev TA := St → Hp → (List V → Hp → Prop) → Prop
/-- what is wanted behind a statement -/
structure Ends where
  nx : St → Hp → Prop
  rt : VK
  bk : St → Hp → Prop := fun _ _ => False
  ct : St → Hp → Prop := fun _ _ => False
abbrev TS := Ends → St → Hp → Prop

def EP (X : Cx) (pins : List (Addr × Obj)) (σ : St) (Q : VK) (u : Value) (s' : Shared) : Prop := ∃ v H', Inv X pins σ H' s' ∧ RelV v u ∧ Q v H'
def TP (X : Cx) (pins : List (Addr × Obj)) (σ : St) (Q : Bool → Hp → Prop) (b : Bool) (s' : Shared) : Prop := ∃ H', Inv X pins σ H' s' ∧ Q b H'
def AP (X : Cx) (pins : List (Addr × Obj)) (σ : St) (Q : List V → Hp → Prop) (us : List Value) (s' : Shared) : Prop := ∃ vs H', Inv X pins σ H' s' ∧ Vals vs us ∧ Q vs H'
def SP (X : Cx) (pins : List (Addr × Obj)) (D : Ends) (f : Flow) (s' : Shared) : Prop :=
  match f with
  | .next => ∃ σ' H', Inv X pins σ' H' s' ∧ D.nx σ' H'
  | .brk => ∃ σ' H', Inv X pins σ' H' s' ∧ D.bk σ' H'
  | .cont => ∃ σ' H', Inv X pins σ' H' s' ∧ D.ct σ' H'
  | .ret u => ∃ v σ' H', Inv X pins σ' H' s' ∧ RelV v u ∧ D.rt v H'

def PE (X : Cx) (e : Expr) (t : TE) : Prop :=
  ∀ (pins : List (Addr × Obj)) (s : Shared) (σ : St) (H : Hp) (Q : VK), Inv X pins σ H s → t σ H Q → wpAny (model X.prog X.w) X.A (eval e X.env) (EP X pins σ Q) X.xe s
def PT (X : Cx) (e : Expr) (t : TT) : Prop :=
  ∀ (pins : List (Addr × Obj)) (s : Shared) (σ : St) (H : Hp) (Q : Bool → Hp → Prop), Inv X pins σ H s → t σ H Q → wpAny (model X.prog X.w) X.A (isTrue e X.env (eval e X.env)) (TP X pins σ Q) X.xe s
/-- a test whatever its 'whole' is (and, or) -/
def PW (X : Cx) (e : Expr) (t : TT) : Prop :=
  ∀ (whole : Sem Value) (pins : List (Addr × Obj)) (s : Shared) (σ : St) (H : Hp) (Q : Bool → Hp → Prop), Inv X pins σ H s → t σ H Q → wpAny (model X.prog X.w) X.A (isTrue e X.env whole) (TP X pins σ Q) X.xe s
theorem PW.pt {X : Cx} {e : Expr} {t : TT} (h : PW X e t) : PT X e t := h _
/-- an argument list (no star), from the left -/
def PA (X : Cx) (es : List Expr) (t : TA) : Prop :=
  ∀ (pos : Pos) (pins : List (Addr × Obj)) (s : Shared) (σ : St) (H : Hp) (Q : List V → Hp → Prop), Inv X pins σ H s → t σ H Q → wpAny (model X.prog X.w) X.A (spliced (backTo pos (starEach es X.env))) (AP X pins σ Q) X.xe s
def PS (X : Cx) (st : Stmt) (t : TS) : Prop :=
  ∀ (pins : List (Addr × Obj)) (s : Shared) (σ : St) (H : Hp) (D : Ends), Inv X pins σ H s → t D σ H → wpAny (model X.prog X.w) X.A (exec st X.env) (SP X pins D) X.xe s
def PSs (X : Cx) (st : List Stmt) (t : TS) : Prop :=
  ∀ (pins : List (Addr × Obj)) (s : Shared) (σ : St) (H : Hp) (D : Ends), Inv X pins σ H s → t D σ H → wpAny (model X.prog X.w) X.A (execs st X.env) (SP X pins D) X.xe s
/-- weaken the end -/
theorem thn {α : Type} {t : Sem α} {Q Q' : α → Shared → Prop} {M : Model} {A : Around} {E : Value → Shared → Prop} {s : Shared} (h : wpAny M A t Q E s) (hQ : ∀ a s, Q a s → Q' a s) : wpAny M A t Q' E s := wpAny_mono h hQ fun _ _ x => x
end L2

namespace L2
open PySem PySem.Spec PyProof.Rows
section
variable {X : Cx}


/-! ### names and constants -/
def tVar (i : Nat) : TE := fun σ H Q => ∃ v, σ[i]? = some (some v) ∧ Q v H
def tC (v : V) : TE := fun _ H Q => Q v H
theorem pe_var {i : Nat} {x : Str} {pos : Pos} (hN : X.N[i]? = some x) (hv : Vis X.env.scope x) (hd : (x == ("__debug__" : Str)) = false := by decide) (hcd : (x == ("__classdict__" : Str)) = false := by decide) : PE X (.Name x pos) (tVar i) := by
  intro pins s σ H Q I h
  obtain ⟨v, e, h⟩ := h
  obtain ⟨m, hn, hl⟩ := I.loc
  obtain ⟨u, r, l⟩ := hl i x v hN e hv
  have fin : EP X pins σ Q u s := ⟨v, H, I, r, h⟩
  rcases l with ⟨hk, hm⟩ | ⟨hk, c, hc, hcell⟩
  · exact wpAny_Name (wpAny_loadName_local I.ok.kind hk hn hm fin) hd
  · rcases hk with hk | hk
    · exact wpAny_Name (wpAny_loadName_cell I.ok.kind hk hc hcell fin) hd
    · exact wpAny_Name (wpAny_loadName_free I.ok.kind hk hc hcell fin hcd) hd
theorem pe_int {i j pos} : PE X (.Constant (.int i) j pos) (tC (.int i)) := fun _ _ _ H _ I h => wpAny_Constant_int ⟨.int i, H, I.tok _, ⟨_, rfl⟩, h⟩
theorem pe_non {j pos} : PE X (.Constant .none j pos) (tC .non) := fun _ _ _ H _ I h => Constant_none ⟨.non, H, I, rfl, h⟩

/-- a global name of the def -/
def Gl (X : Cx) (x : Str) : Prop := X.env.kindOf x = some .globalImplicit
theorem ld_glob {E : Value → Shared → Prop} {pins : List (Addr × Obj)} {s : Shared} {σ : St} {H : Hp} {x : Str} {u : Value} {pos : Pos} {Q : Value → Shared → Prop} (I : Inv X pins σ H s) (hg : Gl X x) (hm : X.mg x = some u) (h : Q u s)
    (hd : (x == ("__debug__" : Str)) = false := by decide) : wpAny (model X.prog X.w) X.A (eval (.Name x pos) X.env) Q E s :=
  Calls.Name_function_global I.ok.kind hg (Calls.loadGlobal_global (by rw [I.ok.glob]; exact I.mod.glob.keeps I.bk) hm h) hd
theorem ld_blt {E : Value → Shared → Prop} {pins : List (Addr × Obj)} {s : Shared} {σ : St} {H : Hp} {x : Str} {u : Value} {pos : Pos} {Q : Value → Shared → Prop} (I : Inv X pins σ H s) (hg : Gl X x) (hm : X.mg x = none) (hv : bootBuiltins x = some u) (h : Q u s)
    (hn : x ≠ "__name__" := by decide) (hd : (x == ("__debug__" : Str)) = false := by decide) : wpAny (model X.prog X.w) X.A (eval (.Name x pos) X.env) Q E s := by
  obtain ⟨mb, h1, h2⟩ := I.mod.blt
  exact Calls.Name_function_global I.ok.kind hg (Calls.loadGlobal_builtin (by rw [I.ok.glob]; exact I.mod.glob.keeps I.bk) hm (by rw [I.ok.blt]; exact h1.keeps I.bk) ((h2 x hn).trans hv) h) hd
/-- a module's constant, a class, a function, as a value -/
theorem pe_glob {x : Str} {v : V} {u : Value} {pos : Pos} (hg : Gl X x) (hm : X.mg x = some u) (r : RelV v u) (hd : (x == ("__debug__" : Str)) = false := by decide) : PE X (.Name x pos) (tC v) :=
  fun _ _ _ H _ I h => ld_glob I hg hm ⟨v, H, I, r, h⟩ hd

/-! ### arithmetic -/
variable {a b : Expr} {ta tb : TE} {pos : Pos}

/-! ### comparisons -/
def PC (X : Cx) (op : CmpOp) (a b : Expr) (t : TE) : Prop :=
  ∀ (pins : List (Addr × Obj)) (s : Shared) (σ : St) (H : Hp) (Q : VK), Inv X pins σ H s → t σ H Q →
    wpAny (model X.prog X.w) X.A (eval a X.env) (fun v s₁ => wpAny (model X.prog X.w) X.A (eval b X.env) (fun u s₂ => wpAny (model X.prog X.w) X.A (compareOp op v u) (EP X pins σ Q) X.xe s₂) X.xe s₁) X.xe s
theorem nobehind (b : Expr) {op : CmpOp} (h : op ≠ .In) (h2 : op ≠ .NotIn) : behindInMarks op b = false := by
  have e1 : (op == CmpOp.In) = false := by cases op <;> first | rfl | exact absurd rfl h
  have e2 : (op == CmpOp.NotIn) = false := by cases op <;> first | rfl | exact absurd rfl h2
  cases b <;> simp [behindInMarks, e1, e2]
/-- is None -/
def tIsN (ta : TE) : TE := fun σ H Q => ta σ H fun x H1 => Q (.bl (decide (x = .non))) H1
def tNotN (ta : TE) : TE := fun σ H Q => ta σ H fun x H1 => Q (.bl (!decide (x = .non))) H1
theorem RelV.none_iff {x : V} {v : Value} (r : RelV x v) : (v == Value.none) = decide (x = .non) := by
  cases x with
  | non => cases r; rfl
  | bl _ => cases r; rfl
  | int _ => obtain ⟨t, rfl⟩ := r; rfl
  | str _ => obtain ⟨t, rfl⟩ := r; rfl
  | byt _ => obtain ⟨t, rfl⟩ := r; rfl
  | flt _ => obtain ⟨t, rfl⟩ := r; rfl
  | ref _ => cases r; rfl
  | ty _ => cases r; rfl
theorem pc_isN {j pos'} (ha : PE X a ta) : PC X .Is a (.Constant .none j pos') (tIsN ta) := by
  intro pins s σ H Q I h
  refine thn (ha pins s σ H _ I h) fun v s1 ⟨x, H1, I1, r1, q1⟩ => ?_
  exact Constant_none (is_none_gen ⟨.bl _, H1, I1, by rw [r1.none_iff]; rfl, q1⟩)
theorem pc_notN {j pos'} (ha : PE X a ta) : PC X .IsNot a (.Constant .none j pos') (tNotN ta) := by
  intro pins s σ H Q I h
  refine thn (ha pins s σ H _ I h) fun v s1 ⟨x, H1, I1, r1, q1⟩ => ?_
  exact Constant_none (isnot_none_gen ⟨.bl _, H1, I1, by rw [r1.none_iff]; rfl, q1⟩)
/-- a comparison as a value, as a test -/
def tB (t : TE) : TT := fun σ H Q => t σ H fun x H1 => ∃ c, x = .bl c ∧ Q c H1
theorem pt_cmp {op : CmpOp} {t : TE} (h : PC X op a b t) (h1 : behindInMarks op b = false := by first | exact nobehind _ (by decide) (by decide) | rfl) : PT X (.Compare a [op] [b] pos) (tB t) := by
  intro pins s σ H Q I hw
  refine wpAny_isTrue_Compare1 (thn (h pins s σ H _ I hw) fun v s1 h1 => thn h1 fun u s2 h2 => thn h2 fun c s3 ⟨x, H1, I1, r1, q1⟩ => ?_) h1
  obtain ⟨d, rfl, q⟩ := q1
  cases r1
  exact wpAny_truthy_bool ⟨H1, I1, q⟩
/-- an expression whose value is a bool, as a test -/
theorem pt_val {e : Expr} {t : TE} (h : PE X e t) (he : ∀ whole, isTrue e X.env whole = (do let v ← whole; standAt e.pos; holding [v] (truthy v)) := by intro _; rfl) : PT X e (tB t) := by
  intro pins s σ H Q I hw
  refine isTrue_plain (thn (h pins s σ H _ I hw) fun v s1 ⟨x, H1, I1, r1, q1⟩ => ?_) (he _)
  obtain ⟨d, rfl, q⟩ := q1
  cases r1
  exact wpAny_truthy_bool ⟨H1, I1, q⟩

/-! ### and, or, not -/
variable {tA tB' : TT} {rest : List Expr}
def tAnd (t u : TT) : TT := fun σ H Q => t σ H fun c H1 => if c = true then u σ H1 Q else Q false H1
def tOr (t u : TT) : TT := fun σ H Q => t σ H fun c H1 => if c = true then Q true H1 else u σ H1 Q
def tNot (t : TT) : TT := fun σ H Q => t σ H fun c H1 => Q (!c) H1
theorem pw_and1 (ha : PT X a tA) : PW X (.BoolOp .And [a] pos) tA := by
  intro wh pins s σ H Q I h
  refine isTrue_and (thn (ha pins s σ H Q I h) fun c s1 e => ?_)
  cases c with
  | true => exact isTrue_and_nil e
  | false => exact e
theorem pw_or1 (ha : PT X a tA) : PW X (.BoolOp .Or [a] pos) tA := by
  intro wh pins s σ H Q I h
  refine isTrue_or (thn (ha pins s σ H Q I h) fun c s1 e => ?_)
  cases c with
  | false => exact isTrue_or_nil e
  | true => exact e
theorem pw_and (ha : PT X a tA) (hb : PW X (.BoolOp .And (b :: rest) pos) tB') : PW X (.BoolOp .And (a :: b :: rest) pos) (tAnd tA tB') := by
  intro wh pins s σ H Q I h
  refine isTrue_and (thn (ha pins s σ H _ I h) fun c s1 ⟨H1, I1, q1⟩ => ?_)
  cases c with
  | true => exact hb wh pins s1 σ H1 Q I1 q1
  | false => exact ⟨H1, I1, q1⟩
theorem pw_or (ha : PT X a tA) (hb : PW X (.BoolOp .Or (b :: rest) pos) tB') : PW X (.BoolOp .Or (a :: b :: rest) pos) (tOr tA tB') := by
  intro wh pins s σ H Q I h
  refine isTrue_or (thn (ha pins s σ H _ I h) fun c s1 ⟨H1, I1, q1⟩ => ?_)
  cases c with
  | true => exact ⟨H1, I1, q1⟩
  | false => exact hb wh pins s1 σ H1 Q I1 q1
theorem pt_not (ha : PT X a tA) : PT X (.UnaryOp .Not a pos) (tNot tA) := by
  intro pins s σ H Q I h
  exact isTrue_not (ha pins s σ H (fun c H1 => Q (!c) H1) I h)
end
end L2

namespace L2
open PySem PySem.Spec PyProof.Rows

/-! ### a list, a tuple that is read: tracked, frozen, or an object of the module -/
def SqL (K : PySem.W.Frag) (H : Hp) (a : Addr) (xs : List V) : Prop :=
  Rd H a (.lst xs) ∨
    ∃ (o : Obj) (its : Array Value) (n : Nat), K.lookup a = some o ∧ o.cls = .type "list" ∧ o.dict = none ∧ o.data = .seq its n ∧ its.size ≤ sizeLine ∧ Vals xs its.toList
def SqT (K : PySem.W.Frag) (H : Hp) (a : Addr) (xs : List V) : Prop :=
  Rd H a (.tup xs) ∨
    ∃ (o : Obj) (its : Array Value) (n : Nat), K.lookup a = some o ∧ o.cls = .type "tuple" ∧ o.data = .seq its n ∧ its.size ≤ sizeLine ∧ Vals xs its.toList
def absV : Value → Option V
  | .none => some .non
  | .bool b => some (.bl b)
  | .int i _ => some (.int i)
  | .str x _ => some (.str x)
  | .bytes b _ => some (.byt b)
  | .float b _ => some (.flt b)
  | .ref a => some (.ref a)
  | .type n => some (.ty n)
  | _ => none
theorem RelV.abs {x : V} {u : Value} (r : RelV x u) : absV u = some x := by
  cases x with
  | non => cases r; rfl
  | bl _ => cases r; rfl
  | int _ => obtain ⟨t, rfl⟩ := r; rfl
  | str _ => obtain ⟨t, rfl⟩ := r; rfl
  | byt _ => obtain ⟨t, rfl⟩ := r; rfl
  | flt _ => obtain ⟨t, rfl⟩ := r; rfl
  | ref _ => cases r; rfl
  | ty _ => cases r; rfl
theorem RelV.inj {x y : V} {u : Value} (r : RelV x u) (q : RelV y u) : x = y := Option.some.inj (r.abs.symm.trans q.abs)
theorem Vals.inj : ∀ {xs ys : List V} {us : List Value}, Vals xs us → Vals ys us → xs = ys
  | _, _, _, .nil, .nil => rfl
  | _, _, _, .cons r t, .cons r' t' => by rw [r.inj r', Vals.inj t t']
section
variable {X : Cx} {pins : List (Addr × Obj)} {σ : St} {H : Hp} {s : Shared} {a : Addr} {xs ys : List V}
theorem SqL.of {K : PySem.W.Frag} (h : H a = some (.lst xs)) : SqL K H a xs := .inl (.inl h)
theorem SqT.of {K : PySem.W.Frag} (h : H a = some (.tup xs)) : SqT K H a xs := .inl (.inl h)
theorem Inv.list (I : Inv X pins σ H s) (h : SqL X.K H a xs) : ∃ its : List Value, Vals xs its ∧ PlainL s.heap a its.toArray ∧ xs.length ≤ sizeLine := by
  rcases h with h | ⟨o, its, n, hk, hc, hd, hs, hz, r⟩
  · obtain ⟨z, its, n, r, e⟩ := h.ok I.hok
    exact ⟨its, r, ⟨_, n, e, rfl, rfl, rfl⟩, z⟩
  · refine ⟨its.toList, r, ⟨o, n, I.kIn a o hk, hc, hd, by simpa using hs⟩, ?_⟩
    have e := r.length
    simp only [Array.length_toList] at e
    omega
theorem Inv.tuple (I : Inv X pins σ H s) (h : SqT X.K H a xs) : ∃ its : List Value, Vals xs its ∧ IsTup s.heap a its.toArray ∧ xs.length ≤ sizeLine := by
  rcases h with h | ⟨o, its, n, hk, hc, hs, hz, r⟩
  · obtain ⟨z, its, r, p⟩ := h.ok I.hok
    exact ⟨its, r, p, z⟩
  · refine ⟨its.toList, r, ⟨o, I.kIn a o hk, hc, n, by simpa using hs⟩, ?_⟩
    have e := r.length
    simp only [Array.length_toList] at e
    omega
theorem Inv.list_inj (I : Inv X pins σ H s) (h : SqL X.K H a xs) (h' : SqL X.K H a ys) : xs = ys := by
  obtain ⟨its, r, ⟨o, n, e, _, _, d⟩, _⟩ := I.list h
  obtain ⟨its', r', ⟨o', n', e', _, _, d'⟩, _⟩ := I.list h'
  rw [e] at e'; cases e'
  rw [d] at d'
  injection d' with d1 _
  have : its = its' := by simpa using congrArg Array.toList d1
  subst this
  exact r.inj r'
end

/-! ### another wish about exceptions -/
abbrev Cx.wish (X : Cx) (E : Value → Shared → Prop) : Cx := { X with xe := E }
/-- no exception leaves -/
abbrev Cx.nox (X : Cx) : Cx := X.wish fun _ _ => False
theorem Cx.Ok.wish {X : Cx} (ok : X.Ok) (E : Value → Shared → Prop) : (X.wish E).Ok :=
  ⟨ok.mod, ok.kind, ok.glob, ok.blt, ok.above, ok.inj, ok.has, ok.cab, ok.hd, ok.frames, ok.stk, ok.exf, ok.bs, ok.bsz, ok.noex, ok.exfs, ok.funs, ok.frf⟩
theorem Cx.Ok.unwish {X : Cx} {E : Value → Shared → Prop} (ok : (X.wish E).Ok) : X.Ok :=
  ⟨ok.mod, ok.kind, ok.glob, ok.blt, ok.above, ok.inj, ok.has, ok.cab, ok.hd, ok.frames, ok.stk, ok.exf, ok.bs, ok.bsz, ok.noex, ok.exfs, ok.funs, ok.frf⟩
section
variable {X : Cx} {pins : List (Addr × Obj)} {σ : St} {H : Hp} {s : Shared} {E : Value → Shared → Prop}
theorem Inv.wish (I : Inv X pins σ H s) (E : Value → Shared → Prop) : Inv (X.wish E) pins σ H s := ⟨I.ok.wish E, I.os, I.bare, I.base, I.loc, I.cell, I.free, I.freeC, I.pin, I.hok, I.len⟩
theorem Inv.unwish (I : Inv (X.wish E) pins σ H s) : Inv X pins σ H s := ⟨I.ok.unwish, I.os, I.bare, I.base, I.loc, I.cell, I.free, I.freeC, I.pin, I.hok, I.len⟩
theorem SP.unwish {D : Ends} {f : Flow} {s' : Shared} (h : SP (X.wish E) pins D f s') : SP X pins D f s' := by
  cases f with
  | next => obtain ⟨σ', H', I, q⟩ := h; exact ⟨σ', H', I.unwish, q⟩
  | brk => obtain ⟨σ', H', I, q⟩ := h; exact ⟨σ', H', I.unwish, q⟩
  | cont => obtain ⟨σ', H', I, q⟩ := h; exact ⟨σ', H', I.unwish, q⟩
  | ret u => obtain ⟨v, σ', H', I, r, q⟩ := h; exact ⟨v, σ', H', I.unwish, r, q⟩
theorem PSs.nox {st : List Stmt} {t : TS} (h : PSs X.nox st t) : PSs X st t := fun pins s σ H D I hw =>
  wpAny_mono (h pins s σ H D (I.wish _) hw) (fun _ _ q => q.unwish) fun _ _ z => False.elim z
end

/-! ### blocks and small statements -/
section
variable {X : Cx} {st : Stmt} {rest : List Stmt} {t u : TS} {e : Expr} {te : TE} {pos : Pos}
def tNext : TS := fun D σ H => D.nx σ H
def tSeq (t u : TS) : TS := fun D σ H => t { D with nx := u D } σ H
theorem pss_nil : PSs X [] tNext := fun _ _ σ H _ I h => wpAny_execs_nil ⟨σ, H, I, h⟩
theorem pss_cons (h1 : PS X st t) (h2 : PSs X rest u) : PSs X (st :: rest) (tSeq t u) := by
  intro pins s σ H D I h
  refine wpAny_execs_cons (thn (h1 pins s σ H { D with nx := u D } I h) fun f s1 q => ?_)
  cases f with
  | next =>
    obtain ⟨σ', H', I', q⟩ := q
    exact h2 pins s1 σ' H' D I' q
  | ret v => exact q
  | brk => exact q
  | cont => exact q
theorem pss_one (h1 : PS X st t) : PSs X [st] t := by
  intro pins s σ H D I h
  refine wpAny_execs_cons (thn (h1 pins s σ H D I h) fun f s1 q => ?_)
  cases f with
  | next => exact wpAny_execs_nil q
  | ret v => exact q
  | brk => exact q
  | cont => exact q
/-- in a def's body nothing is shown -/
theorem Inv.quiet {pins : List (Addr × Obj)} {σ : St} {H : Hp} {s : Shared} (I : Inv X pins σ H s) : interactive X.env = false := by simp [interactive, I.ok.kind]
/-- an expression whose value is dropped -/
def tDrop (te : TE) : TS := fun D σ H => te σ H fun _ H1 => D.nx σ H1
theorem ps_expr (he : PE X e te) (hs : swapsWith e none pos.line X.env = pure false := by rfl) : PS X (.Expr e pos) (tDrop te) := by
  intro pins s σ H D I h
  exact wpAny_Expr_any (thn (he pins s σ H _ I h) fun v s1 ⟨x, H1, I1, r1, q1⟩ => ⟨σ, H1, I1, q1⟩) I.quiet hs
def tRet (te : TE) : TS := fun D σ H => te σ H D.rt
theorem ps_ret (he : PE X e te) : PS X (.Return (some e) pos) (tRet te) := by
  intro pins s σ H D I h
  exact wpAny_Return_some (thn (he pins s σ H _ I h) fun v s1 ⟨x, H1, I1, r1, q1⟩ => ⟨x, σ, H1, I1, r1, q1⟩)
def tIfS (c : TT) (t u : TS) : TS := fun D σ H => c σ H fun b H1 => if b = true then t D σ H1 else u D σ H1
theorem ps_if {c : Expr} {a b : List Stmt} {tc : TT} (hc : PT X c tc) (ha : PSs X a t) (hb : PSs X b u) : PS X (.If c a b pos) (tIfS tc t u) := by
  intro pins s σ H D I h
  refine wpAny_If (thn (hc pins s σ H _ I h) fun d s1 ⟨H1, I1, q1⟩ => ?_)
  cases d with
  | true => exact ha pins s1 σ H1 D I1 q1
  | false => exact hb pins s1 σ H1 D I1 q1
end

/-! ### targets -/
abbrev TG := V → St → Hp → (St → Hp → Prop) → Prop
abbrev TGs := List V → St → Hp → (St → Hp → Prop) → Prop
def PG (X : Cx) (target : Expr) (t : TG) : Prop :=
  ∀ (pins : List (Addr × Obj)) (s : Shared) (σ : St) (H : Hp) (v : V) (u : Value) (Q : St → Hp → Prop), Inv X pins σ H s → RelV v u → t v σ H Q →
    wpAny (model X.prog X.w) X.A (assign target X.env u) (fun _ s' => ∃ σ' H', Inv X pins σ' H' s' ∧ Q σ' H') X.xe s
/-- several targets, one after another -/
def PGs (X : Cx) (ts : List Expr) (t : TGs) : Prop :=
  ∀ (pins : List (Addr × Obj)) (s : Shared) (σ : St) (H : Hp) (vs : List V) (us : List Value) (Q : St → Hp → Prop), Inv X pins σ H s → Vals vs us → t vs σ H Q →
    wpAny (model X.prog X.w) X.A (assignInOrder ((assignEach ts X.env).map (·.2)) us) (fun _ s' => ∃ σ' H', Inv X pins σ' H' s' ∧ Q σ' H') X.xe s
/-- o[i] = v, by values -/
abbrev TSet := V → V → V → Hp → (Hp → Prop) → Prop
def PSet (X : Cx) (t : TSet) : Prop :=
  ∀ (pins : List (Addr × Obj)) (s : Shared) (σ : St) (H : Hp) (o i v : V) (ov iv u : Value) (Q : Hp → Prop), Inv X pins σ H s → RelV o ov → RelV i iv → RelV v u → t o i v H Q →
    wpAny (model X.prog X.w) X.A (setItem ov iv u) (fun _ s' => ∃ H', Inv X pins σ H' s' ∧ Q H') X.xe s
section
variable {X : Cx} {pos : Pos}
def gName (i : Nat) : TG := fun v σ H Q => Q (σ.set i (some v)) H
theorem pg_name {i : Nat} {x : Str} (hN : X.N.Nodup) (hi : X.N[i]? = some x) (hx : Loc X.env.scope x) (hf : X.fn x = true ∨ X.env.scope.names.lookup x = some .local := by first | exact .inl rfl | exact .inr rfl | assumption) : PG X (.Name x pos) (gName i) := by
  intro pins s σ H v u Q I r h
  exact wpAny_assign_Name (store_ok I hN hi hx r (fun s' I' => ⟨_, H, I', h⟩) hf)
def gNil : TGs := fun vs σ H Q => vs = [] ∧ Q σ H
def gCons (t : TG) (u : TGs) : TGs := fun vs σ H Q => ∃ v r, vs = v :: r ∧ t v σ H fun σ' H' => u r σ' H' Q
theorem pgs_nil : PGs X [] gNil := by
  intro pins s σ H vs us Q I r h
  obtain ⟨e, h⟩ := h
  subst e
  cases r
  exact assignInOrder_nil ⟨σ, H, I, h⟩
theorem pgs_cons {e : Expr} {es : List Expr} {t : TG} {u : TGs} (h1 : PG X e t) (h2 : PGs X es u)
    (hs : (assignEach (e :: es) X.env).map (·.2) = assign e X.env :: (assignEach es X.env).map (·.2) := by rfl) : PGs X (e :: es) (gCons t u) := by
  intro pins s σ H vs us Q I r h
  obtain ⟨v, vr, e1, h⟩ := h
  subst e1
  cases r with
  | cons r rr =>
    rw [hs]
    refine assignInOrder_cons (thn (h1 pins s σ H _ _ _ I r h) fun _ s1 ⟨σ1, H1, I1, q1⟩ => ?_)
    exact h2 pins s1 σ1 H1 _ _ Q I1 rr q1
/-- (a, b, ..) = a tuple of that length -/
def gTup (K : PySem.W.Frag) (n : Nat) (t : TGs) : TG := fun v σ H Q => ∃ a xs, v = .ref a ∧ SqT K H a xs ∧ xs.length = n ∧ t xs σ H Q
theorem pg_tup {es : List Expr} {k : Nat} {t : TGs} {n : Nat} (hc : X.calm = true) (h : PGs X es t)
    (hn : (assignEach es X.env).length = n := by rfl) (hst : (assignEach es X.env).findIdx? (·.1) = none := by rfl) : PG X (.Tuple es k pos) (gTup X.K n t) := by
  intro pins s σ H v u Q I r hw
  obtain ⟨a, xs, e1, hq, hl, hw⟩ := hw
  subst e1
  cases r
  obtain ⟨its, rv, ht, hz⟩ := I.tuple hq
  refine assign_Tuple_tuple (I.ok.hd hc) ht (by simp [hn, ← hl, rv.length]) hst fun h' hx => ?_
  have I1 : Inv X pins σ H { s with heap := h' } := I.kept (t' := s.toks) fun b o e => hx b o (Nat.ne_of_lt (Heap.lt_size e)) e
  exact h pins _ σ H xs _ Q I1 (by simpa using rv) hw
/-- o[i] = .. -/
def gSub (to ti : TE) (t : TSet) : TG := fun v σ H Q => to σ H fun o H1 => ti σ H1 fun i H2 => t o i v H2 fun H3 => Q σ H3
theorem pg_sub {o i : Expr} {to ti : TE} {t : TSet} (ho : PE X o to) (hi : PE X i ti) (hs : PSet X t)
    (ha : ∀ v, assign (.Subscript o i pos) X.env v = (do
      let ov ← holding [v] (eval o X.env)
      let iv ← holding [v, ov] (eval i X.env)
      standAt pos
      holding [v, ov, iv] (setItem ov iv v)
      release [v, ov, iv] []) := by intro _; rfl) : PG X (.Subscript o i pos) (gSub to ti t) := by
  intro pins s σ H v u Q I r h
  rw [ha]
  refine wpAny_bind (wpAny_holding (thn (ho pins s σ H _ I h) fun ov s1 ⟨x, H1, I1, r1, q1⟩ => ?_))
  refine wpAny_bind (wpAny_holding (thn (hi pins s1 σ H1 _ I1 q1) fun iv s2 ⟨y, H2, I2, r2, q2⟩ => ?_))
  refine wpAny_bind (wpAny_standAt (wpAny_bind (wpAny_holding (thn (hs pins s2 σ H2 x y v ov iv u _ I2 r1 r2 r q2) fun _ s3 ⟨H3, I3, q3⟩ => ?_))))
  exact wpAny_release ⟨σ, H3, I3, q3⟩
/-- target = value -/
def tAsg (te : TE) (g : TG) : TS := fun D σ H => te σ H fun x H1 => g x σ H1 D.nx
theorem ps_asg {tg e : Expr} {te : TE} {g : TG} (he : PE X e te) (hg : PG X tg g) (hs : swapsWithSole [tg] e pos.line X.env = pure false := by rfl) (hw : swappedStores [tg] e X.env = pure none := by rfl)
    (h1 : (assignEach [tg] X.env).map (·.2) = [assign tg X.env] := by rfl) : PS X (.Assign [tg] e pos) (tAsg te g) := by
  intro pins s σ H D I h
  refine wpAny_Assign_stores (thn (he pins s σ H _ I h) fun v s1 ⟨x, H1, I1, r1, q1⟩ => ?_) hs hw
  rw [h1]
  exact thn (hg pins s1 σ H1 x v _ I1 r1 q1) fun _ s2 q => q
/-- name = value -/
theorem ps_set {i : Nat} {x : Str} {e : Expr} {te : TE} {pos' : Pos} (hN : X.N.Nodup) (hi : X.N[i]? = some x) (hx : Loc X.env.scope x) (he : PE X e te) (hs : swapsWith e (some (.Name x pos')) pos.line X.env = pure false := by rfl) (hf : X.fn x = true ∨ X.env.scope.names.lookup x = some .local := by first | exact .inl rfl | exact .inr rfl | assumption) :
    PS X (.Assign [.Name x pos'] e pos) (tAsg te (gName i)) := by
  intro pins s σ H D I h
  refine wpAny_Assign_Name (thn (he pins s σ H _ I h) fun v s1 ⟨y, H1, I1, r1, q1⟩ => ?_) hs
  exact store_ok I1 hN hi hx r1 (fun s2 I2 => ⟨_, H1, I2, q1⟩) hf
end

/-! ### while -/
section
variable {X : Cx} {pos : Pos}
/-- the invariant W with its measure -/
def tWhile (c : TT) (tb : TS) : TS := fun D σ H => ∃ W : Nat → St → Hp → Prop, (∃ m, W m σ H) ∧ ∀ m σ H, W m σ H →
  c σ H fun b H1 => if b = true then ∃ N : St → Hp → Prop, (∀ σ' H', N σ' H' → ∃ m', m' < m ∧ W m' σ' H') ∧ tb { D with nx := N, ct := N, bk := D.nx } σ H1 else D.nx σ H1
theorem ps_while {c : Expr} {body : List Stmt} {tc : TT} {tb : TS} (hp : PassesOwn (model X.prog X.w) X.A X.env X.xe) (hc : PT X c tc) (hb : PSs X body tb) : PS X (.While c body [] pos) (tWhile tc tb) := by
  intro pins s σ H D I h
  obtain ⟨W, ⟨m0, w0⟩, turn⟩ := h
  refine wpAny_While (codeAny_whileLoop (fun n s' => ∃ σ' H', Inv X pins σ' H' s' ∧ W n σ' H') ?_ m0 ⟨σ, H, I, w0⟩)
  rintro n s1 ⟨σ1, H1, I1, w1⟩
  refine wpAny_passesOwn hp (thn (hc pins s1 σ1 H1 _ I1 (turn n σ1 H1 w1)) fun b s2 ⟨H2, I2, q2⟩ => ?_)
  cases b with
  | true =>
    obtain ⟨N, hN, q2⟩ := q2
    rw [if_pos rfl]
    refine wpAny_passesOwn hp (thn (hb pins s2 σ1 H2 _ I2 q2) fun f s3 q3 => ?_)
    cases f with
    | next =>
      obtain ⟨σ3, H3, I3, n3⟩ := q3
      obtain ⟨m', hm, w3⟩ := hN σ3 H3 n3
      exact ⟨m', hm, σ3, H3, I3, w3⟩
    | cont =>
      obtain ⟨σ3, H3, I3, n3⟩ := q3
      obtain ⟨m', hm, w3⟩ := hN σ3 H3 n3
      exact ⟨m', hm, σ3, H3, I3, w3⟩
    | brk => exact q3
    | ret v => exact q3
  | false =>
    rw [if_neg Bool.false_ne_true]
    exact wpAny_execs_nil ⟨σ1, H2, I2, q2⟩
end

/-! ### what a loop or a comprehension walks -/
/-- at turn i: it yields x (the heap may grow), or it stops -/
structure It where
  go : Nat → Hp → Prop
  yld : Nat → Hp → V → Hp → Prop
  stop : Nat → Hp → Prop
/-- the iterator's own objects may turn: they are not the frame's, not pinned, younger than the entry (or a comprehension's own) -/
def FpOk (X : Cx) (pins : List (Addr × Obj)) (H : Hp) (b : Addr) : Prop :=
  H b = none ∧ b ≠ X.env.locals ∧ b ∉ X.fs ∧ (b ∈ X.ex ∨ X.s_0.heap.objs.size ≤ b) ∧ (∀ x c, X.env.cells.lookup x = some c → c ≠ b) ∧ ∀ p ∈ X.pn ++ pins, p.1 ≠ b
theorem Inv.fpOk {X : Cx} {pins : List (Addr × Obj)} {σ : St} {H H' : Hp} {s : Shared} {b : Addr} (I : Inv X pins σ H s) (hb : s.heap.objs.size ≤ b) (hn : H' b = none) : FpOk X pins H' b := by
  refine ⟨hn, Nat.ne_of_gt (Nat.lt_of_lt_of_le I.lt hb), I.nofs hb, .inr (Nat.le_trans I.sz hb), fun x c e z => ?_, fun p hp z => ?_⟩
  · obtain ⟨v, q⟩ := I.cell x c e
    exact absurd (Nat.lt_of_lt_of_le q.lt (by rw [z]; exact hb)) (Nat.lt_irrefl _)
  · exact absurd (Nat.lt_of_lt_of_le (Heap.lt_size (I.pin p hp).1) (by rw [z]; exact hb)) (Nat.lt_irrefl _)
structure Turn (P : Program) (w : World) (K : PySem.W.Frag) (tg : Expr) (J : It) (fp : List Addr) (it : Addr) (tn : Nat → Heap → Prop) : Prop where
  mem : it ∈ fp
  obj : ∀ i h, tn i h → ∀ b ∈ fp, ∃ o, h.get? b = some o ∧ ∀ v, o.data ≠ .cell v
  keep : ∀ i h h', tn i h → (∀ b ∈ fp, ∀ o, h.get? b = some o → h'.get? b = some o) → tn i h'
  item : ∀ (X : Cx), X.prog = P → X.w = w → X.K = K → X.calm = true → ∀ (i : Nat) (pins : List (Addr × Obj)) (s : Shared) (σ : St) (H : Hp) (E : Value → Shared → Prop), Inv X pins σ H s → (∀ b ∈ fp, FpOk X pins H b) → tn i s.heap → J.go i H →
    wpAny (model P w) X.A (pyNext (.ref it)) (fun r s1 => ∃ u, r = some u ∧
      wpAny (model P w) X.A (letOwnedTupleGo tg (.ref it) u) (fun _ s2 => ∃ x H', Inv X pins σ H' s2 ∧ RelV x u ∧ J.yld i H x H' ∧ tn (i + 1) s2.heap ∧ ∀ b ∈ fp, H' b = none) E s1) E s
  done : ∀ (X : Cx), X.prog = P → X.w = w → X.K = K → X.calm = true → ∀ (i : Nat) (pins : List (Addr × Obj)) (s : Shared) (σ : St) (H : Hp) (E : Value → Shared → Prop), Inv X pins σ H s → (∀ b ∈ fp, FpOk X pins H b) → tn i s.heap → J.stop i H →
    wpAny (model P w) X.A (pyNext (.ref it)) (fun r s1 => r = none ∧ Inv X pins σ H s1) E s
  self : ∀ (A : Around) (i : Nat) (s : Shared) (Q : Value → Shared → Prop) (E : Value → Shared → Prop), tn i s.heap → Q (.ref it) s → wpAny (model P w) A (pyIter (.ref it)) Q E s
abbrev TI := St → Hp → (It → Hp → Prop) → Prop
/-- an iterator has come -/
def PIE (X : Cx) (pins : List (Addr × Obj)) (σ : St) (tg : Expr) (R : It → Hp → Prop) (itv : Value) (s2 : Shared) : Prop :=
  ∃ (it : Addr) (fp : List Addr) (tn : Nat → Heap → Prop) (J : It) (H' : Hp), itv = .ref it ∧ Inv X pins σ H' s2 ∧ Turn X.prog X.w X.K tg J fp it tn ∧ tn 0 s2.heap ∧ (∀ b ∈ fp, FpOk X pins H' b) ∧ R J H'
def PI (X : Cx) (tg iter : Expr) (wi : TI) : Prop :=
  ∀ (pins : List (Addr × Obj)) (s : Shared) (σ : St) (H : Hp) (R : It → Hp → Prop), Inv X pins σ H s → wi σ H R →
    wpAny (model X.prog X.w) X.A (eval iter X.env) (fun v s1 => wpAny (model X.prog X.w) X.A (pyIter v) (PIE X pins σ tg R) X.xe s1) X.xe s

/-- the step ahead of the store is nothing for an iterator that keeps no tuple -/
theorem go_of {M : Model} {A : Around} {E : Value → Shared → Prop} {s : Shared} {tg : Expr} {it : Addr} {u : Value} {o : Obj} {n : String} {vs : Array Value} {Q : Unit → Shared → Prop} (ho : s.heap.get? it = some o) (hc : o.cls = .type n) (hd : o.data = .fields vs)
    (hn : ["enumerate", "zip", "dict_itemiterator", "dict_reverseitemiterator", "odict_iterator", "itertools.zip_longest", "itertools.pairwise"].contains n = false) (hQ : Q () s) : wpAny M A (letOwnedTupleGo tg (.ref it) u) Q E s := by
  unfold letOwnedTupleGo
  cases tg <;> first
    | exact wpAny_pure hQ
    | (cases u <;> first
        | exact wpAny_pure hQ
        | (refine wpAny_bind (wpAny_load ho ?_)
           rw [hc, hd]
           show wpAny M A (if (["enumerate", "zip", "dict_itemiterator", "dict_reverseitemiterator", "odict_iterator", "itertools.zip_longest", "itertools.pairwise"].contains n && vs[0]? == some (rawInt _)) = true then _ else _) Q E s
           rw [if_neg (by intro h; rw [hn, Bool.false_and] at h; cases h)]
           exact wpAny_pure hQ))

/-- the list at a, as it stands at each turn (a loop may append to it) -/
def Itl (K : PySem.W.Frag) (a : Addr) : It :=
  ⟨fun i H => ∃ xs x, SqL K H a xs ∧ xs[i]? = some x, fun i H x H' => H' = H ∧ ∀ xs, SqL K H a xs → xs[i]? = some x, fun i H => ∃ xs, SqL K H a xs ∧ xs.length ≤ i⟩
/-- lo, lo + 1, .. (n of them) -/
def Itr (lo : Int) (n : Nat) : It := ⟨fun i _ => i < n, fun i H x H' => H' = H ∧ x = .int (lo + i), fun i _ => n ≤ i⟩
theorem turn_list {P : Program} {w : World} {K : PySem.W.Frag} {tg : Expr} (a it : Addr) : Turn P w K tg (Itl K a) [it] it (fun i h => h.IsListIter it a i) where
  mem := by simp
  obj := fun i h st b hb => by
    have e : b = it := by simpa using hb
    subst e
    obtain ⟨o, e, c, d⟩ := st
    exact ⟨o, e, fun v z => by rw [d] at z; cases z⟩
  keep := fun i h h' st k => st.at fun o e => k it (by simp) o e
  item := by
    intro X hP hw hK hc i pins s σ H E I hf st hg
    subst hP hw hK
    obtain ⟨xs, x, hq, hx⟩ := hg
    obtain ⟨its, rv, p, hz⟩ := I.list hq
    obtain ⟨u, hu, ru⟩ := rv.get hx
    obtain ⟨f0, f1, f2, f3, f4, f5⟩ := hf it (by simp)
    refine wpAny_pyNext_list_item st p.isList (x := u) (by simpa using hu) fun h' st' sb => ?_
    have I1 : Inv X pins σ H { s with heap := h' } := I.turned (t' := s.toks) (fun b o hb e => (sb.2 b hb).trans e) f0 f1 f3 f4 f5
    obtain ⟨o, e, c, d⟩ := id st'
    exact ⟨u, rfl, go_of (s := { s with heap := h' }) e c d (by decide) ⟨x, H, I1, ru, ⟨rfl, fun ys hy => by rw [I.list_inj hy hq]; exact hx⟩, st', fun b hb => (hf b hb).1⟩⟩
  done := by
    intro X hP hw hK hc i pins s σ H E I hf st hg
    subst hP hw hK
    obtain ⟨xs, hq, hx⟩ := hg
    obtain ⟨its, rv, p, hz⟩ := I.list hq
    obtain ⟨f0, f1, f2, f3, f4, f5⟩ := hf it (by simp)
    have hl := rv.length
    exact wpAny_pyNext_list_end (I.ok.hd hc) st p.isList (by simp; omega) fun h' eb => ⟨rfl, I.turned (t' := s.toks) (fun b o hb e => eb b o hb e) f0 f1 f3 f4 f5⟩
  self := fun _ _ _ _ _ st h => wpAny_pyIter_listiter st h
theorem turn_range {P : Program} {w : World} {K : PySem.W.Frag} {tg : Expr} (it : Addr) (lo : Int) (n : Nat) : Turn P w K tg (Itr lo n) [it] it (fun i h => IsRangeIter h it (lo + (i : Nat) * 1) ((n : Int) - (i : Nat)) 1) where
  mem := by simp
  obj := fun i h st b hb => by
    have e : b = it := by simpa using hb
    subst e
    exact ⟨_, st, fun v z => by
      have z' : Data.fields _ = Data.cell v := z
      cases z'⟩
  keep := fun i h h' st k => k it (by simp) _ st
  item := by
    intro X hP hw hK hc i pins s σ H E I hf st hg
    subst hP hw hK
    obtain ⟨f0, f1, f2, f3, f4, f5⟩ := hf it (by simp)
    have W := Walks.range (prog := X.prog) (w := X.w) (I.ok.hd hc) it lo 1 n
    refine W.item i s _ _ hg st fun v h' tk hv st' kk => ?_
    obtain ⟨t, rfl⟩ := hv
    have I1 : Inv X pins σ H { s with heap := h', toks := tk } := I.turned (fun b o hb e => kk b o (by simpa using hb) e) f0 f1 f3 f4 f5
    refine ⟨_, rfl, go_of (s := { s with heap := h', toks := tk }) (n := "range_iterator") st' rfl rfl (by decide) ⟨.int (lo + i), H, I1, ⟨t, ?_⟩, ⟨rfl, rfl⟩, st', fun b hb => (hf b hb).1⟩⟩
    rw [Int.mul_one]
  done := by
    intro X hP hw hK hc i pins s σ H E I hf st hg
    subst hP hw hK
    obtain ⟨f0, f1, f2, f3, f4, f5⟩ := hf it (by simp)
    exact wpAny_pyNext_range_end (I.ok.hd hc) st (by have : n ≤ i := hg; omega) fun h' eb => ⟨rfl, I.turned (t' := s.toks) (fun b o hb e => eb b o hb e) f0 f1 f3 f4 f5⟩
  self := fun _ _ _ _ _ st h => wpAny_pyIter_rangeiter st h
end L2

namespace L2
open PySem PySem.Spec PyProof.Rows
section
variable {X : Cx} {tg : Expr}
def iList (K : PySem.W.Frag) (tl : TE) : TI := fun σ H R => tl σ H fun x H1 => ∃ a, x = .ref a ∧ (∃ xs, SqL K H1 a xs) ∧ R (Itl K a) H1
theorem pi_list {l : Expr} {tl : TE} (hl : PE X l tl) : PI X tg l (iList X.K tl) := by
  intro pins s σ H R I h
  refine thn (hl pins s σ H _ I h) fun v s1 ⟨x, H1, I1, r1, q1⟩ => ?_
  obtain ⟨a, e, ⟨xs, hq⟩, q⟩ := q1
  subst e
  cases r1
  obtain ⟨its, rv, p, hz⟩ := I1.list hq
  refine wpAny_pyIter_list p.isList ?_
  refine ⟨s1.heap.objs.size, [s1.heap.objs.size], _, _, H1, rfl, I1.kept (t' := s1.toks) fun b o e => Heap.get?_push_of_some _ e, turn_list a _, ⟨_, Heap.get?_push_size _ rfl, rfl, rfl⟩, fun b hb => ?_, q⟩
  have e : b = s1.heap.objs.size := by simpa using hb
  subst e
  exact I1.fpOk (Nat.le_refl _) (I1.hok.fresh (Nat.le_refl _))
/-- a range object just made, walked -/
theorem range_it {pins : List (Addr × Obj)} {σ : St} {H : Hp} {s : Shared} {R : It → Hp → Prop} {E : Value → Shared → Prop} {lo hi : Int} {t u v : Tok} {tk : Nat} (I : Inv X pins σ H s) (h1 : -(2 ^ 62) ≤ lo) (h2 : lo < 2 ^ 62) (h3 : -(2 ^ 62) ≤ hi) (h4 : hi < 2 ^ 62)
    (q : R (Itr lo (hi - lo).toNat) H) : wpAny (model X.prog X.w) X.A (pyIter (.ref s.heap.objs.size)) (PIE X pins σ tg R) E { s with heap := s.heap.push { cls := .type "range", data := .fields #[.int lo t, .int hi u, .int 1 v] }, toks := tk } := by
  refine wpAny_pyIter_range (IsRange.new ..) (small_one h1 h2 h3 h4) ?_
  have I1 : Inv X pins σ H { s with heap := s.heap.push { cls := .type "range", data := .fields #[.int lo t, .int hi u, .int 1 v] }, toks := tk } := I.kept fun b o e => Heap.get?_push_of_some _ e
  refine ⟨(s.heap.push { cls := .type "range", data := .fields #[.int lo t, .int hi u, .int 1 v] }).objs.size, [(s.heap.push { cls := .type "range", data := .fields #[.int lo t, .int hi u, .int 1 v] }).objs.size], _, _, H, rfl,
    I1.kept (t' := tk) fun b o e => Heap.get?_push_of_some _ e, turn_range _ lo (hi - lo).toNat, ?_, fun b hb => ?_, q⟩
  · have e1 : lo + ((0 : Nat) : Int) * 1 = lo := by simp
    have e2 : (((hi - lo).toNat : Nat) : Int) - ((0 : Nat) : Int) = Builtin.Range.rangeSize lo hi 1 := by rw [rangeSize_one]; split <;> omega
    show IsRangeIter _ _ (lo + ((0 : Nat) : Int) * 1) ((((hi - lo).toNat : Nat) : Int) - ((0 : Nat) : Int)) 1
    rw [e1, e2]
    exact Heap.get?_push_size _ rfl
  · have e : b = (s.heap.push { cls := .type "range", data := .fields #[.int lo t, .int hi u, .int 1 v] }).objs.size := by simpa using hb
    subst e
    exact I1.fpOk (Nat.le_refl _) (I1.hok.fresh (Nat.le_refl _))
def iRng1 (ta : TA) : TI := fun σ H R => ta σ H fun vs H1 => ∃ j : Int, vs = [.int j] ∧ -(2 ^ 62) ≤ j ∧ j < 2 ^ 62 ∧ R (Itr 0 j.toNat) H1
theorem pi_range1 {a : Expr} {ta : TA} {p pos : Pos} (hg : Gl X "range") (hm : X.mg "range" = none) (ha : PA X [a] ta) (hs : starEach [a] X.env = [(false, eval a X.env)] := by rfl) : PI X tg (.Call (.Name "range" p) [a] [] pos) (iRng1 ta) := by
  intro pins s σ H R I h
  refine Call_ (ld_blt I hg hm boot_range (PyProof.Rows.callWith_type1 (thn (ha pos pins s σ H _ I h) fun us s1 ⟨vs, H1, I1, r1, q1⟩ => ?_) hs rfl))
  obtain ⟨j, e, q1, q2, q⟩ := q1
  subst e
  cases r1 with
  | cons r rr =>
    cases rr
    obtain ⟨t, rfl⟩ := r
    exact call_range_1 (range_it I1 (by omega) (by omega) q1 q2 (by simpa using q))

/-! ### for -/
/-- W: the invariant by the turn and a measure; N: what the body is to reach -/
def tFor (wi : TI) (g : TG) (tb : TS) : TS := fun D σ H => wi σ H fun J H1 => ∃ W : Nat → Nat → St → Hp → Prop, (∃ m, W 0 m σ H1) ∧ ∀ i m σ H, W i m σ H →
  (J.stop i H ∧ D.nx σ H) ∨ (J.go i H ∧ ∃ N : St → Hp → Prop, (∀ σ' H', N σ' H' → ∃ m', m' < m ∧ W (i + 1) m' σ' H') ∧ ∀ x H', J.yld i H x H' → g x σ H' fun σ2 H2 => tb { D with nx := N, ct := N, bk := D.nx } σ2 H2)
/-- the records at fp as they stand -/
def pinsAt (fp : List Addr) (h : Heap) : List (Addr × Obj) := fp.filterMap fun b => (h.get? b).map fun o => (b, o)
theorem mem_pinsAt {fp : List Addr} {h : Heap} {b : Addr} {o : Obj} (hb : b ∈ fp) (e : h.get? b = some o) : (b, o) ∈ pinsAt fp h := List.mem_filterMap.mpr ⟨b, hb, by rw [e]; rfl⟩
theorem of_pinsAt {fp : List Addr} {h : Heap} {p : Addr × Obj} (hp : p ∈ pinsAt fp h) : p.1 ∈ fp ∧ h.get? p.1 = some p.2 := by
  obtain ⟨b, hb, e⟩ := List.mem_filterMap.mp hp
  cases q : h.get? b with
  | none => rw [q] at e; cases e
  | some o =>
    rw [q] at e
    have e' : (b, o) = p := Option.some.inj e
    subst e'
    exact ⟨hb, q⟩
theorem Inv.pinned {pins : List (Addr × Obj)} {σ : St} {H : Hp} {s : Shared} {fp : List Addr} (I : Inv X pins σ H s) (hf : ∀ b ∈ fp, FpOk X pins H b) (ho : ∀ b ∈ fp, ∃ o, s.heap.get? b = some o ∧ ∀ v, o.data ≠ .cell v) : Inv X (pins ++ pinsAt fp s.heap) σ H s :=
  I.pins_of fun p hp => (List.mem_append.mp hp).elim (fun z => I.pin p (List.mem_append_right _ z)) fun z => by
    obtain ⟨hb, e⟩ := of_pinsAt z
    obtain ⟨f0, f1, f2, _⟩ := hf p.1 hb
    obtain ⟨o, e', d⟩ := ho p.1 hb
    rw [e] at e'; cases e'
    exact ⟨e, f0, f1, f2, d⟩
theorem Inv.unpinned {pins pl : List (Addr × Obj)} {σ : St} {H : Hp} {s : Shared} (I : Inv X (pins ++ pl) σ H s) : Inv X pins σ H s := I.pins_of fun p hp => I.pin p (List.mem_append_right _ (List.mem_append_left _ hp))
theorem ps_for {iter : Expr} {body : List Stmt} {wi : TI} {g : TG} {tb : TS} {pos : Pos} (hp : PassesOwn (model X.prog X.w) X.A X.env X.xe) (hc : X.calm = true) (hi : PI X tg iter wi) (hg : PG X tg g) (hb : PSs X body tb)
    (hs : ∀ x, foldedSetIterable iter X.env x = pure x := by intro _; rfl) : PS X (.For tg iter body [] pos) (tFor wi g tb) := by
  intro pins s σ H D I h
  refine wpAny_For (thn (hi pins s σ H _ I h) fun v s1 h1 => thn h1 fun itv s2 h2 => ?_) hs
  obtain ⟨it, fp, tn, J, H2, e, I2, T, st2, f2, W, ⟨m0, w0⟩, turn⟩ := h2
  subst e
  -- what stays true of the iterator's objects through the loop
  have stat : ∀ {H' : Hp}, (∀ b ∈ fp, H' b = none) → ∀ b ∈ fp, FpOk X pins H' b := fun hn b hb => ⟨hn b hb, (f2 b hb).2⟩
  refine codeAny_forLoop_any (fun n s' => ∃ i σ' H', Inv X pins σ' H' s' ∧ tn i s'.heap ∧ (∀ b ∈ fp, H' b = none) ∧ W i n σ' H') ?_ m0 ⟨0, σ, H2, I2, st2, fun b hb => (f2 b hb).1, w0⟩
  rintro n s3 ⟨i, σ3, H3, I3, st3, fr3, w3⟩
  rcases turn i n σ3 H3 w3 with ⟨stop, qn⟩ | ⟨go, N, hN, step⟩
  · refine wpAny_passesOwn hp (thn (T.done X rfl rfl rfl hc i pins s3 σ3 H3 X.xe I3 (stat fr3) st3 stop) fun r s4 ⟨hr, I4⟩ => ?_)
    subst hr
    exact wpAny_execs_nil ⟨σ3, H3, I4, qn⟩
  · refine wpAny_passesOwn hp (thn (T.item X rfl rfl rfl hc i pins s3 σ3 H3 X.xe I3 (stat fr3) st3 go) fun r s4 ⟨u, hr, h4⟩ => ?_)
    subst hr
    refine wpAny_passesOwn hp (thn h4 fun _ s5 ⟨x, H5, I5, r5, y5, st5, fr5⟩ => ?_)
    have I5' := I5.pinned (stat fr5) (T.obj _ _ st5)
    refine wpAny_passesOwn hp (thn (hg _ s5 σ3 H5 x u _ I5' r5 (step x H5 y5)) fun _ s6 ⟨σ6, H6, I6, q6⟩ => ?_)
    refine wpAny_passesOwn hp (thn (hb _ s6 σ6 H6 _ I6 q6) fun f s7 q7 => ?_)
    have again : ∀ {σ7 : St} {H7 : Hp}, Inv X (pins ++ pinsAt fp s5.heap) σ7 H7 s7 → N σ7 H7 → ∃ m, m < n ∧ ∃ i σ' H', Inv X pins σ' H' s7 ∧ tn i s7.heap ∧ (∀ b ∈ fp, H' b = none) ∧ W i m σ' H' := fun {σ7 H7} I7 n7 => by
      obtain ⟨m', hm, w7⟩ := hN σ7 H7 n7
      refine ⟨m', hm, i + 1, σ7, H7, I7.unpinned, T.keep _ _ _ st5 fun b hb o e => (I7.pin (b, o) (List.mem_append_right _ (List.mem_append_right _ (mem_pinsAt hb e)))).1, fun b hb => ?_, w7⟩
      obtain ⟨o, e, d⟩ := T.obj _ _ st5 b hb
      exact (I7.pin (b, o) (List.mem_append_right _ (List.mem_append_right _ (mem_pinsAt hb e)))).2.1
    cases f with
    | next => obtain ⟨σ7, H7, I7, n7⟩ := q7; exact again I7 n7
    | cont => obtain ⟨σ7, H7, I7, n7⟩ := q7; exact again I7 n7
    | brk => obtain ⟨σ7, H7, I7, q7⟩ := q7; exact ⟨σ7, H7, I7.unpinned, q7⟩
    | ret v => obtain ⟨x7, σ7, H7, I7, r7, q7⟩ := q7; exact ⟨x7, σ7, H7, I7.unpinned, r7, q7⟩
end

/-! ### the forms one uses -/
/-- over a list that the body leaves as it is -/
theorem for_list {K : PySem.W.Frag} {a : Addr} {xs : List V} {g : TG} {tb : TS} {D : Ends} {σ : St} {H : Hp} (Pv : Nat → St → Hp → Prop) (h0 : Pv 0 σ H) (hl : ∀ i σ H, i ≤ xs.length → Pv i σ H → SqL K H a xs)
    (hs : ∀ i x σ H, xs[i]? = some x → Pv i σ H → g x σ H fun σ2 H2 => tb { D with nx := Pv (i + 1), ct := Pv (i + 1), bk := D.nx } σ2 H2) (hd : ∀ σ H, Pv xs.length σ H → D.nx σ H) :
    ∃ W : Nat → Nat → St → Hp → Prop, (∃ m, W 0 m σ H) ∧ ∀ i m σ H, W i m σ H →
      ((Itl K a).stop i H ∧ D.nx σ H) ∨ ((Itl K a).go i H ∧ ∃ N : St → Hp → Prop, (∀ σ' H', N σ' H' → ∃ m', m' < m ∧ W (i + 1) m' σ' H') ∧ ∀ x H', (Itl K a).yld i H x H' → g x σ H' fun σ2 H2 => tb { D with nx := N, ct := N, bk := D.nx } σ2 H2) := by
  refine ⟨fun i m σ H => m = xs.length - i ∧ i ≤ xs.length ∧ Pv i σ H, ⟨xs.length, by simp, Nat.zero_le _, h0⟩, ?_⟩
  rintro i m σ H ⟨rfl, hi, p⟩
  have q := hl i σ H hi p
  by_cases hlt : i < xs.length
  · refine .inr ⟨⟨xs, xs[i], q, by simp [hlt]⟩, Pv (i + 1), fun σ' H' p' => ⟨xs.length - (i + 1), by omega, rfl, hlt, p'⟩, fun x H' y => ?_⟩
    obtain ⟨e, y⟩ := y
    subst e
    exact hs i x σ _ (y xs q) p
  · have e : i = xs.length := by omega
    subst e
    exact .inl ⟨⟨xs, q, Nat.le_refl _⟩, hd σ H p⟩
theorem for_range {lo : Int} {n : Nat} {g : TG} {tb : TS} {D : Ends} {σ : St} {H : Hp} (Pv : Nat → St → Hp → Prop) (h0 : Pv 0 σ H)
    (hs : ∀ i σ H, i < n → Pv i σ H → g (.int (lo + i)) σ H fun σ2 H2 => tb { D with nx := Pv (i + 1), ct := Pv (i + 1), bk := D.nx } σ2 H2) (hd : ∀ σ H, Pv n σ H → D.nx σ H) :
    ∃ W : Nat → Nat → St → Hp → Prop, (∃ m, W 0 m σ H) ∧ ∀ i m σ H, W i m σ H →
      ((Itr lo n).stop i H ∧ D.nx σ H) ∨ ((Itr lo n).go i H ∧ ∃ N : St → Hp → Prop, (∀ σ' H', N σ' H' → ∃ m', m' < m ∧ W (i + 1) m' σ' H') ∧ ∀ x H', (Itr lo n).yld i H x H' → g x σ H' fun σ2 H2 => tb { D with nx := N, ct := N, bk := D.nx } σ2 H2) := by
  refine ⟨fun i m σ H => m = n - i ∧ i ≤ n ∧ Pv i σ H, ⟨n, by simp, Nat.zero_le _, h0⟩, ?_⟩
  rintro i m σ H ⟨rfl, hi, p⟩
  by_cases hlt : i < n
  · refine .inr ⟨hlt, Pv (i + 1), fun σ' H' p' => ⟨n - (i + 1), by omega, rfl, hlt, p'⟩, fun x H' y => ?_⟩
    obtain ⟨e, y⟩ := y
    subst e y
    exact hs i σ _ hlt p
  · have e : i = n := by omega
    subst e
    exact .inl ⟨Nat.le_refl _, hd σ H p⟩
end L2

namespace L2
open PySem PySem.Spec PyProof.Rows

abbrev R2 := V → V → Hp → VK → Prop
/-- a two-place operation on values: f is binaryOp op, inplaceOp op or compareOp op -/
def OpR (X : Cx) (f : Value → Value → Sem Value) (r : R2) : Prop :=
  ∀ (pins : List (Addr × Obj)) (s : Shared) (σ : St) (H : Hp) (x y : V) (v u : Value) (Q : VK), Inv X pins σ H s → RelV x v → RelV y u → r x y H Q →
    wpAny (model X.prog X.w) X.A (f v u) (EP X pins σ Q) X.xe s
/-- a call of a value that is known (a builtin, a type) with values -/
def CallR (X : Cx) (f : Value) (r : List V → Hp → VK → Prop) : Prop :=
  ∀ (pins : List (Addr × Obj)) (s : Shared) (σ : St) (H : Hp) (xs : List V) (us : List Value) (Q : VK), Inv X pins σ H s → Vals xs us → r xs H Q →
    wpAny (model X.prog X.w) X.A (call f us) (EP X pins σ Q) X.xe s

def tOp (r : R2) (ta tb : TE) : TE := fun σ H Q => ta σ H fun x H1 => tb σ H1 fun y H2 => r x y H2 Q
/-- ints in, under C, and a value out -/
def rI (C : Int → Int → Prop) (g : Int → Int → V) : R2 := fun x y H Q => ∃ i j, x = .int i ∧ y = .int j ∧ C i j ∧ Q (g i j) H
def rI0 (g : Int → Int → V) : R2 := fun x y H Q => ∃ i j, x = .int i ∧ y = .int j ∧ Q (g i j) H

section
variable {X : Cx} {a b c : Expr} {ta tb tc : TE} {pos : Pos}

theorem binT (ha : PE X a ta) (hb : PE X b tb) {pins : List (Addr × Obj)} {s : Shared} {σ : St} {H : Hp} {R : V → V → Hp → Prop} (I : Inv X pins σ H s)
    (h : ta σ H fun x H1 => tb σ H1 fun y H2 => R x y H2) {Q : Value → Shared → Prop} {f : Value → Value → Sem Value}
    (hf : ∀ v u s2 x y H2, Inv X pins σ H2 s2 → RelV x v → RelV y u → R x y H2 → wpAny (model X.prog X.w) X.A (f v u) Q X.xe s2) :
    wpAny (model X.prog X.w) X.A (eval a X.env) (fun v s₁ => wpAny (model X.prog X.w) X.A (eval b X.env) (fun u s₂ => wpAny (model X.prog X.w) X.A (f v u) Q X.xe s₂) X.xe s₁) X.xe s := by
  refine thn (ha pins s σ H _ I h) fun v s1 ⟨x, H1, I1, r1, q1⟩ => ?_
  refine thn (hb pins s1 σ H1 _ I1 q1) fun u s2 ⟨y, H2, I2, r2, q2⟩ => ?_
  exact hf v u s2 x y H2 I2 r1 r2 q2

theorem pe_op {op : Operator} {r : R2} (ho : OpR X (binaryOp op) r) (ha : PE X a ta) (hb : PE X b tb) : PE X (.BinOp a op b pos) (tOp r ta tb) := by
  intro pins s σ H Q I h
  exact wpAny_BinOp (binT ha hb I h fun v u s2 x y H2 I2 rx ry q => ho pins s2 σ H2 x y v u Q I2 rx ry q)

/-! ### ints -/
theorem opI {f : Value → Value → Sem Value} {C : Int → Int → Prop} {g : Int → Int → Int}
    (rule : ∀ (i j : Int) (t u : Tok) (s : Shared) (Q : Value → Shared → Prop) (E : Value → Shared → Prop), C i j → Q (.int (g i j) s.toks) { s with toks := s.toks + 1 } → wpAny (model X.prog X.w) X.A (f (.int i t) (.int j u)) Q E s) :
    OpR X f (rI C fun i j => .int (g i j)) := by
  intro pins s σ H x y v u Q I rx ry h
  obtain ⟨i, j, rfl, rfl, hc, q⟩ := h
  obtain ⟨t, rfl⟩ := rx
  obtain ⟨t', rfl⟩ := ry
  exact rule i j t t' s _ _ hc ⟨.int (g i j), H, I.tok _, ⟨_, rfl⟩, q⟩
theorem opI0 {f : Value → Value → Sem Value} {g : Int → Int → Int}
    (rule : ∀ (i j : Int) (t u : Tok) (s : Shared) (Q : Value → Shared → Prop) (E : Value → Shared → Prop), Q (.int (g i j) s.toks) { s with toks := s.toks + 1 } → wpAny (model X.prog X.w) X.A (f (.int i t) (.int j u)) Q E s) :
    OpR X f (rI0 fun i j => .int (g i j)) := by
  intro pins s σ H x y v u Q I rx ry h
  obtain ⟨i, j, rfl, rfl, q⟩ := h
  obtain ⟨t, rfl⟩ := rx
  obtain ⟨t', rfl⟩ := ry
  exact rule i j t t' s _ _ ⟨.int (g i j), H, I.tok _, ⟨_, rfl⟩, q⟩
theorem opB0 {f : Value → Value → Sem Value} {g : Int → Int → Bool}
    (rule : ∀ (i j : Int) (t u : Tok) (s : Shared) (Q : Value → Shared → Prop) (E : Value → Shared → Prop), Q (.bool (g i j)) s → wpAny (model X.prog X.w) X.A (f (.int i t) (.int j u)) Q E s) :
    OpR X f (rI0 fun i j => .bl (g i j)) := by
  intro pins s σ H x y v u Q I rx ry h
  obtain ⟨i, j, rfl, rfl, q⟩ := h
  obtain ⟨t, rfl⟩ := rx
  obtain ⟨t', rfl⟩ := ry
  exact rule i j t t' s _ _ ⟨.bl (g i j), H, I, rfl, q⟩

def CDiv (i j : Int) : Prop := 0 < j ∧ j < 1073741824
def CMul (i j : Int) : Prop := (-(2 ^ 64) < i ∧ i < 2 ^ 64) ∨ (-(2 ^ 64) < j ∧ j < 2 ^ 64)
theorem CMul.ok {i j : Int} (h : CMul i j) : IntMulOk i j := by
  rcases h with ⟨h1, h2⟩ | ⟨h1, h2⟩
  · exact .of_left (intBits_le_64 h1 h2)
  · exact .of_right (intBits_le_64 h1 h2)

theorem op_add : OpR X (binaryOp .Add) (rI0 fun i j => .int (i + j)) := opI0 fun _ _ _ _ _ _ _ q => add_int q
theorem op_sub : OpR X (binaryOp .Sub) (rI0 fun i j => .int (i - j)) := opI0 fun _ _ _ _ _ _ _ q => sub_int q
theorem op_mul : OpR X (binaryOp .Mult) (rI CMul fun i j => .int (i * j)) := opI fun _ _ _ _ _ _ _ hc q => mul_int q hc.ok
/-- // by a positive divisor -/
theorem op_fdiv : OpR X (binaryOp .FloorDiv) (rI CDiv fun i j => .int (i / j)) := opI fun i j _ _ _ _ _ hc q => by
  have h1 : (0 : Int) < j := hc.1
  have h2 : j < 1073741824 := hc.2
  exact floordiv_int (by omega) (by rw [Int.fdiv_eq_ediv_of_nonneg i (by omega)]; exact q) (.inl (PyProof.noPylong_small (by omega)))



/-! ### bools among ints: n += (a < b) -/
end

/-! ### comparisons -/
/-- the scalars that == tells apart as data does -/
def scal : V → V → Bool
  | .non, .non => true | .non, .int _ => true | .int _, .non => true | .non, .bl _ => true | .bl _, .non => true | .non, .str _ => true | .str _, .non => true
  | .int _, .int _ => true | .bl _, .bl _ => true | .str _, .str _ => true | .byt _, .byt _ => true
  | .int _, .str _ => true | .str _, .int _ => true | .bl _, .str _ => true | .str _, .bl _ => true
  | _, _ => false
def rEq : R2 := fun x y H Q => scal x y = true ∧ Q (.bl (decide (x = y))) H
def rNe : R2 := fun x y H Q => scal x y = true ∧ Q (.bl (!decide (x = y))) H

theorem dec_int {i j : Int} : decide (V.int i = V.int j) = (i == j) := by
  rw [Bool.eq_iff_iff]
  simp
theorem dec_bl {i j : Bool} : decide (V.bl i = V.bl j) = (i == j) := by
  rw [Bool.eq_iff_iff]
  simp
theorem dec_str {i j : Str} : decide (V.str i = V.str j) = (i == j) := by
  rw [Bool.eq_iff_iff]
  simp
theorem dec_byt {i j : Array UInt8} : decide (V.byt i = V.byt j) = (i.toList == j.toList) := by
  rw [Bool.eq_iff_iff]
  cases i
  cases j
  simp

section
variable {X : Cx} {a b c : Expr} {ta tb tc : TE} {pos : Pos}
theorem fin_bl {pins : List (Addr × Obj)} {σ : St} {H : Hp} {s : Shared} {Q : VK} {k k' : Bool} (I : Inv X pins σ H s) (q : Q (.bl k) H) (e : k = k') : EP X pins σ Q (.bool k') s := by
  subst e
  exact ⟨.bl k, H, I, rfl, q⟩
theorem op_eq : OpR X (compareOp .Eq) rEq := by
  intro pins s σ H x y v u Q I rx ry h
  obtain ⟨hs, q⟩ := h
  cases x with
  | non =>
    cases rx
    cases y with
    | non => cases ry; exact PySem.EqNone.eq_none_none (fin_bl I q (by simp))
    | bl j => cases ry; exact PySem.EqNone.eq_none_bool (fin_bl I q (by simp))
    | int j => obtain ⟨t', rfl⟩ := ry; exact PySem.EqNone.eq_none_int (fin_bl I q (by simp))
    | str j => obtain ⟨t', rfl⟩ := ry; exact PySem.EqNone.eq_none_str (fin_bl I q (by simp))
    | _ => exact absurd (show false = true from hs) Bool.false_ne_true
  | bl i =>
    cases rx
    cases y with
    | non => cases ry; exact PySem.EqNone.eq_bool_none (fin_bl I q (by simp))
    | bl j => cases ry; exact eq_bool (fin_bl I q dec_bl)
    | str j => obtain ⟨t', rfl⟩ := ry; exact PySem.EqMixed.eq_bool_str (fin_bl I q (by simp))
    | _ => exact absurd (show false = true from hs) Bool.false_ne_true
  | int i =>
    obtain ⟨t, rfl⟩ := rx
    cases y with
    | non => cases ry; exact PySem.EqNone.eq_int_none (fin_bl I q (by simp))
    | int j => obtain ⟨t', rfl⟩ := ry; exact eq_int (fin_bl I q dec_int)
    | str j => obtain ⟨t', rfl⟩ := ry; exact PySem.EqMixed.eq_int_str (fin_bl I q (by simp))
    | _ => exact absurd (show false = true from hs) Bool.false_ne_true
  | str i =>
    obtain ⟨t, rfl⟩ := rx
    cases y with
    | non => cases ry; exact PySem.EqNone.eq_str_none (fin_bl I q (by simp))
    | bl j => cases ry; exact PySem.EqMixed.eq_str_bool (fin_bl I q (by simp))
    | int j => obtain ⟨t', rfl⟩ := ry; exact PySem.EqMixed.eq_str_int (fin_bl I q (by simp))
    | str j => obtain ⟨t', rfl⟩ := ry; exact eq_str (fin_bl I q dec_str)
    | _ => exact absurd (show false = true from hs) Bool.false_ne_true
  | byt i =>
    obtain ⟨t, rfl⟩ := rx
    cases y with
    | byt j => obtain ⟨t', rfl⟩ := ry; exact PySem.W.eq_bytes (fin_bl I q dec_byt)
    | _ => exact absurd (show false = true from hs) Bool.false_ne_true
  | _ => cases y <;> exact absurd (show false = true from hs) Bool.false_ne_true
theorem op_ne : OpR X (compareOp .NotEq) rNe := by
  intro pins s σ H x y v u Q I rx ry h
  obtain ⟨hs, q⟩ := h
  cases x with
  | non =>
    cases rx
    cases y with
    | non => cases ry; exact PySem.EqNone.ne_none_none (fin_bl I q (by simp))
    | bl j => cases ry; exact PySem.EqNone.ne_none_bool (fin_bl I q (by simp))
    | int j => obtain ⟨t', rfl⟩ := ry; exact PySem.EqNone.ne_none_int (fin_bl I q (by simp))
    | str j => obtain ⟨t', rfl⟩ := ry; exact PySem.EqNone.ne_none_str (fin_bl I q (by simp))
    | _ => exact absurd (show false = true from hs) Bool.false_ne_true
  | bl i =>
    cases rx
    cases y with
    | non => cases ry; exact PySem.EqNone.ne_bool_none (fin_bl I q (by simp))
    | bl j => cases ry; exact ne_bool (fin_bl I q (congrArg not dec_bl))
    | str j => obtain ⟨t', rfl⟩ := ry; exact PySem.EqMixed.ne_bool_str (fin_bl I q (by simp))
    | _ => exact absurd (show false = true from hs) Bool.false_ne_true
  | int i =>
    obtain ⟨t, rfl⟩ := rx
    cases y with
    | non => cases ry; exact PySem.EqNone.ne_int_none (fin_bl I q (by simp))
    | int j => obtain ⟨t', rfl⟩ := ry; exact ne_int (fin_bl I q (congrArg not dec_int))
    | str j => obtain ⟨t', rfl⟩ := ry; exact PySem.EqMixed.ne_int_str (fin_bl I q (by simp))
    | _ => exact absurd (show false = true from hs) Bool.false_ne_true
  | str i =>
    obtain ⟨t, rfl⟩ := rx
    cases y with
    | non => cases ry; exact PySem.EqNone.ne_str_none (fin_bl I q (by simp))
    | bl j => cases ry; exact PySem.EqMixed.ne_str_bool (fin_bl I q (by simp))
    | int j => obtain ⟨t', rfl⟩ := ry; exact PySem.EqMixed.ne_str_int (fin_bl I q (by simp))
    | str j => obtain ⟨t', rfl⟩ := ry; exact ne_str (fin_bl I q (congrArg not dec_str))
    | _ => exact absurd (show false = true from hs) Bool.false_ne_true
  | byt i =>
    obtain ⟨t, rfl⟩ := rx
    cases y with
    | byt j => obtain ⟨t', rfl⟩ := ry; exact PySem.W.ne_bytes (fin_bl I q (congrArg not dec_byt))
    | _ => exact absurd (show false = true from hs) Bool.false_ne_true
  | _ => cases y <;> exact absurd (show false = true from hs) Bool.false_ne_true

theorem op_lt : OpR X (compareOp .Lt) (rI0 fun i j => .bl (decide (i < j))) := opB0 fun _ _ _ _ _ _ _ q => lt_int q
theorem op_le : OpR X (compareOp .LtE) (rI0 fun i j => .bl (decide (i ≤ j))) := opB0 fun _ _ _ _ _ _ _ q => le_int q
theorem op_gt : OpR X (compareOp .Gt) (rI0 fun i j => .bl (decide (j < i))) := opB0 fun _ _ _ _ _ _ _ q => gt_int q
theorem op_ge : OpR X (compareOp .GtE) (rI0 fun i j => .bl (decide (j ≤ i))) := opB0 fun _ _ _ _ _ _ _ q => ge_int q




theorem nomark (b : Expr) {op : CmpOp} (h : op ≠ .In := by decide) (h2 : op ≠ .NotIn := by decide) : behindInMarks op b = false := by
  have e1 : (op == CmpOp.In) = false := by cases op <;> first | rfl | exact absurd rfl h
  have e2 : (op == CmpOp.NotIn) = false := by cases op <;> first | rfl | exact absurd rfl h2
  cases b <;> simp [behindInMarks, e1, e2]
/-- a comparison as a value; hm: nomark b, or (for in, not in) by with_unfolding_all rfl -/
theorem pe_cmpR {op : CmpOp} {r : R2} (ho : OpR X (compareOp op) r) (ha : PE X a ta) (hb : PE X b tb) (hm : behindInMarks op b = false) : PE X (.Compare a [op] [b] pos) (tOp r ta tb) := by
  intro pins s σ H Q I h
  exact wpAny_Compare1 (binT ha hb I h fun v u s2 x y H2 I2 rx ry q => ho pins s2 σ H2 x y v u Q I2 rx ry q) hm
/-- a reading of a value as a test -/
def tTest (t : TE) : TT := fun σ H Q => t σ H fun x H' => ∃ k, x = .bl k ∧ Q k H'
theorem pt_cmpR {op : CmpOp} {r : R2} (ho : OpR X (compareOp op) r) (ha : PE X a ta) (hb : PE X b tb) (hm : behindInMarks op b = false) : PT X (.Compare a [op] [b] pos) (tTest (tOp r ta tb)) := by
  intro pins s σ H Q I h
  refine wpAny_isTrue_Compare1 (thn (ha pins s σ H _ I h) fun v s1 ⟨x, H1, I1, r1, q1⟩ => thn (hb pins s1 σ H1 _ I1 q1) fun u s2 ⟨y, H2, I2, r2, q2⟩ =>
    thn (ho pins s2 σ H2 x y v u _ I2 r1 r2 q2) fun c s3 ⟨z, H3, I3, r3, k, e, q3⟩ => ?_) hm
  subst e
  cases r3
  exact wpAny_truthy_bool ⟨H3, I3, q3⟩

/-! ### truth -/
theorem line63 : (sizeLine : Nat) < 2 ^ 63 := by rw [sizeLine_eq]; decide

/-! ### strs and bytes -/


/-! ### scalar builtins, by CallR -/
theorem vals1 {x : V} {us : List Value} (r : Vals [x] us) : ∃ u, us = [u] ∧ RelV x u := by
  cases r with
  | cons r1 r2 => cases r2; exact ⟨_, rfl, r1⟩
theorem vals2 {x y : V} {us : List Value} (r : Vals [x, y] us) : ∃ u w', us = [u, w'] ∧ RelV x u ∧ RelV y w' := by
  cases r with
  | cons r1 r2 =>
    cases r2 with
    | cons r3 r4 => cases r4; exact ⟨_, _, rfl, r1, r3⟩
theorem call_max2 (hc : X.calm = true) : CallR X (.builtin "max") (fun xs H Q => ∃ i j, xs = [.int i, .int j] ∧ Q (.int (if j > i then j else i)) H) := by
  intro pins s σ H xs us Q I r h
  obtain ⟨i, j, rfl, q⟩ := h
  obtain ⟨u, w', rfl, ⟨t, rfl⟩, ⟨t', rfl⟩⟩ := vals2 r
  refine max_two_ints (I.ok.hd hc) fun h' tk k => ⟨_, H, I.kept k, ?_, q⟩
  by_cases hj : j > i
  · rw [if_pos hj, if_pos hj]; exact ⟨_, rfl⟩
  · rw [if_neg hj, if_neg hj]; exact ⟨_, rfl⟩
theorem call_min2 (hc : X.calm = true) : CallR X (.builtin "min") (fun xs H Q => ∃ i j, xs = [.int i, .int j] ∧ Q (.int (if j < i then j else i)) H) := by
  intro pins s σ H xs us Q I r h
  obtain ⟨i, j, rfl, q⟩ := h
  obtain ⟨u, w', rfl, ⟨t, rfl⟩, ⟨t', rfl⟩⟩ := vals2 r
  refine min_two_ints (I.ok.hd hc) fun h' tk k => ⟨_, H, I.kept k, ?_, q⟩
  by_cases hj : j < i
  · rw [if_pos hj, if_pos hj]; exact ⟨_, rfl⟩
  · rw [if_neg hj, if_neg hj]; exact ⟨_, rfl⟩
/-- len of a str, a bytes, a list, a tuple -/
def LenV (K : PySem.W.Frag) (x : V) (H : Hp) (n : Nat) : Prop :=
  match x with
  | .str y => y.length ≤ sizeLine ∧ n = y.length
  | .byt y => y.size ≤ sizeLine ∧ n = y.size
  | .ref p => (∃ xs, SqL K H p xs ∧ n = xs.length) ∨ ∃ xs, SqT K H p xs ∧ n = xs.length
  | _ => False
theorem call_len : CallR X (.builtin "len") (fun xs H Q => ∃ x n, xs = [x] ∧ LenV X.K x H n ∧ Q (.int n) H) := by
  intro pins s σ H xs us Q I r h
  obtain ⟨x, n, rfl, e, q⟩ := h
  obtain ⟨u, rfl, rx⟩ := vals1 r
  have hl := line63
  have hs : sizeLine = 16777216 := sizeLine_eq
  cases x with
  | str y =>
    obtain ⟨t, rfl⟩ := rx
    obtain ⟨hy, e'⟩ : y.length ≤ sizeLine ∧ n = y.length := e
    subst e'
    exact len_str (by omega) ⟨.int _, H, I.tok _, ⟨_, rfl⟩, q⟩
  | byt y =>
    obtain ⟨t, rfl⟩ := rx
    obtain ⟨hy, e'⟩ : y.size ≤ sizeLine ∧ n = y.size := e
    subst e'
    exact PySem.W.len_bytes (by omega) ⟨.int _, H, I.tok _, ⟨_, rfl⟩, q⟩
  | ref p =>
    cases rx
    have e' : (∃ xs, SqL X.K H p xs ∧ n = xs.length) ∨ ∃ xs, SqT X.K H p xs ∧ n = xs.length := e
    rcases e' with ⟨xs, hx, e'⟩ | ⟨xs, hx, e'⟩
    · subst e'
      obtain ⟨its, r', pl, hz⟩ := I.list hx
      have hlen := r'.length
      exact Calls.call_len_list pl.isList (by simp only [List.size_toArray]; omega) ⟨.int xs.length, H, I.tok _, ⟨_, by simp only [List.size_toArray]; rw [hlen]⟩, q⟩
    · subst e'
      obtain ⟨its, r', pl, hz⟩ := I.tuple hx
      have hlen := r'.length
      exact len_tuple pl (by simp only [List.size_toArray]; omega) ⟨.int xs.length, H, I.tok _, ⟨_, by simp only [List.size_toArray]; rw [hlen]⟩, q⟩
  | _ => exact (show False from e).elim
end
end L2

namespace L2
open PySem PySem.Spec PyProof.Rows

/-! ### an instance, its attributes a map -/
structure ObjM (h : Heap) (x dx C : Addr) (mA : Str → Option Value) : Prop where
  obj : h.get? x = some (PySem.W.instObj C dx)
  ns : h.Ns1 dx mA
  ne : dx ≠ x

theorem lookIn_ns {h : Heap} {dx : Addr} {mA : Str → Option Value} (n : h.Ns1 dx mA) : ∃ od, h.get? dx = some od ∧ ∀ name, PySem.W.lookIn name od = some (mA name) := by
  obtain ⟨o, es, ep, ho, hd, hk, _, hm⟩ := n
  refine ⟨o, ho, fun name => ?_⟩
  have e := hm name
  unfold nsFind findBy at e
  rw [← Array.find?_toList] at e
  unfold PySem.W.lookIn
  rw [hd]
  dsimp only
  split
  · rename_i y q
    rw [q] at e
    exact congrArg some e
  · rename_i q
    rw [q] at e
    have a : es.toList.any (·.refKey) = false := by
      rw [List.any_eq_false]
      intro y hy
      obtain ⟨z, t, hkey⟩ := hk y (Array.mem_toList_iff.mp hy)
      simp [DictEntry.refKey, hkey]
    have a' : ¬ es.toList.any (·.refKey) = true := by rw [a]; exact Bool.false_ne_true
    rw [if_neg a']
    exact congrArg some e

theorem ObjM.look {h : Heap} {x dx C : Addr} {mA : Str → Option Value} (I : ObjM h x dx C mA) : ∃ od, PySem.W.InstAt h x (PySem.W.instObj C dx) C (some od) ∧ ∀ name, PySem.W.lookIn name od = some (mA name) :=
  let ⟨od, ho, hl⟩ := lookIn_ns I.ns
  ⟨od, ⟨I.obj, rfl, rfl, ho⟩, hl⟩

section
variable {prog : Program} {w : World} {A : Around} {E : Value → Shared → Prop} {s : Shared} {K : PySem.W.Frag} {x dx C f : Addr} {mA : Str → Option Value} {name : Str} {v : Value}

theorem get_map {expr : Bool} {Q : Value → Shared → Prop} (X : K.In s.heap) (I : ObjM s.heap x dx C mA) (hg : PySem.W.plainGet K C name = true) (hh : PySem.W.hasDictIn K C = true)
    (ha : PySem.W.findIn K (.ref C) name = some none) (hv : mA name = some v) (hv' : PySem.W.handedIn v = true) (h : Q v { s with toks := s.toks + 1 }) :
    wpAny (model prog w) A (getAttr (.ref x) name expr) Q E s := by
  obtain ⟨od, J, hl⟩ := I.look
  exact PySem.W.get_value X J (PySem.W.plainGet_of hg).1 (PySem.W.findObj_own hh ha rfl (by rw [hl, hv])) hv' h


theorem get_meth {pl : Sem Bool} {Q : Value × List Value → Shared → Prop} (X : K.In s.heap) (I : ObjM s.heap x dx C mA) (hg : PySem.W.plainGet K C name = true)
    (hf : PySem.W.findIn K (.ref C) name = some (some (.ref f))) (ht : PySem.W.isFn K (.ref f) = true) (hv : mA name = none) (h : Q (.ref f, [.ref x]) s) :
    wpAny (model prog w) A (getMethod (.ref x) name pl) Q E s := by
  obtain ⟨od, J, hl⟩ := I.look
  exact PySem.W.method_fn X J (PySem.W.plainGet_of hg).1 (PySem.W.plainGet_of hg).2 hf (beq_iff_eq.mp ht) (by show (PySem.W.lookIn name od).map (·.isSome) = some false; rw [hl, hv]; rfl) h

theorem set_map {ns : List Str} {Q : Unit → Shared → Prop} (X : K.In s.heap) (I : ObjM s.heap x dx C mA)
    (hs : PySem.W.findIn K (.ref C) "__setattr__" = some (some (.builtin "object.__setattr__"))) (hp : PySem.W.plainOver K C = true) (ht : PySem.W.takerIn K C name = some none) (hh : PySem.W.hasDictIn K C = true)
    (hw : PySem.Within mA ns) (hsz : ns.length ≤ sizeLine)
    (h : ∀ h', ObjM h' x dx C (fun y => if y = name then some v else mA y) → Heap.SameBut dx s.heap h' → Q () { s with heap := h', toks := s.toks + 2 }) :
    wpAny (model prog w) A (setAttr (.ref x) name v) Q E s := by
  obtain ⟨od, J, hl⟩ := I.look
  refine PySem.W.set_plain X J hs (PySem.W.osa_open (s := { s with toks := s.toks + 1 }) (r := none) X J hp ht fun b => ?_)
  obtain ⟨cd, hc, hd'⟩ := PySem.W.any_some hh
  have hx : s.heap.get? x = some ⟨.ref C, some dx, .plain, #[]⟩ := I.obj
  refine wpAny_bind (wpAny_pure (wpAny_bind (wpAny_bind (wpAny_loadPart hx (wpAny_bind (PySem.W.Looks.here (s := { s with toks := s.toks + 1 }) (PySem.W.looks_clsIn X hc) ?_))))))
  rw [hd']
  refine wpAny_pure (a := some dx) (wpAny_bind (wpAny_pure (wpAny_bind ?_)))
  refine wpAny_nsSet1 (s := { s with toks := s.toks + 1 }) I.ns fun h' hn2 hs2 => ?_
  obtain ⟨oD, esD, epD, hoD, hdD, hcD⟩ := hn2.count (PySem.Within.cons name v hw)
  refine wpAny_bind (wpAny_lookBehind hoD (by rw [hdD]; exact pastItsLine_dict (Nat.le_trans hcD (by rw [List.length_cons]; omega))) ?_)
  exact wpAny_pure (h _ ⟨(hs2.2 _ (Ne.symm I.ne)).trans I.obj, hn2, I.ne⟩ hs2)

/-- C(..): the dict at the heap's end, the instance behind it; then its __init__ -/
theorem make_map {R : Result → Shared → Prop} {vs : List Value} {kw : List (Str × Value)} (X : K.In s.heap) (hm : PySem.W.makesIn K C = true)
    (hi : PySem.W.findIn K (.ref C) "__init__" = some (some (.ref f))) (hf : PySem.W.typeIn K (.ref f) = some (.type "function"))
    (h : codeAny (model prog w) (A.under (.builtin "type.__call__" ⟨.ref C :: vs, kw⟩)) (.call (.ref f) ⟨.ref (s.heap.objs.size + 1) :: vs, kw⟩) (PySem.W.InitBack (s.heap.objs.size + 1) R)
      { s with heap := (s.heap.push PySem.W.emptyDict).push (PySem.W.instObj C s.heap.objs.size) }) :
    codeAny (model prog w) A (.call (.ref C) ⟨vs, kw⟩) R s := by
  obtain ⟨hh, g, d, t, os⟩ := s
  exact PySem.W.make_core (PySem.W.makes_of X hm) (PySem.W.looks_findIn X hi) (fun self => PySem.W.bind_fn X self hf) (.inl rfl) h
end

/-! ### the attributes as a list of pairs -/
def putF (f : Str) (v : V) : List (Str × V) → List (Str × V)
  | [] => [(f, v)]
  | (g, x) :: r => if g = f then (g, v) :: r else (g, x) :: putF f v r
theorem lookup_putF (f g : Str) (v : V) : ∀ fs : List (Str × V), (putF f v fs).lookup g = if g = f then some v else fs.lookup g
  | [] => by
    show List.lookup g [(f, v)] = _
    by_cases h : g = f
    · have hb : (g == f) = true := beq_iff_eq.mpr h
      simp only [List.lookup, hb, if_pos h]
    · have hb : (g == f) = false := beq_eq_false_iff_ne.mpr h
      simp only [List.lookup, hb, if_neg h]
  | (k, x) :: r => by
    have ih := lookup_putF f g v r
    rw [show putF f v ((k, x) :: r) = (if k = f then (k, v) :: r else (k, x) :: putF f v r) from rfl]
    by_cases hk : k = f
    · rw [if_pos hk]
      by_cases h : g = k
      · have hb : (g == k) = true := beq_iff_eq.mpr h
        simp only [List.lookup, hb, if_pos (h.trans hk)]
      · have hb : (g == k) = false := beq_eq_false_iff_ne.mpr h
        simp only [List.lookup, hb, if_neg (fun e : g = f => h (e.trans hk.symm))]
    · rw [if_neg hk]
      by_cases h : g = k
      · have hb : (g == k) = true := beq_iff_eq.mpr h
        simp only [List.lookup, hb, if_neg (fun e : g = f => hk (h.symm.trans e))]
      · have hb : (g == k) = false := beq_eq_false_iff_ne.mpr h
        simp only [List.lookup, hb]
        exact ih
theorem keys_putF (f : Str) (v : V) : ∀ fs : List (Str × V), f ∈ (putF f v fs).map (·.1) ∧ ∀ g, g ∈ fs.map (·.1) → g ∈ (putF f v fs).map (·.1)
  | [] => ⟨by simp [putF], fun g h => by simp at h⟩
  | (k, x) :: r => by
    obtain ⟨i1, i2⟩ := keys_putF f v r
    rw [show putF f v ((k, x) :: r) = (if k = f then (k, v) :: r else (k, x) :: putF f v r) from rfl]
    by_cases hk : k = f
    · rw [if_pos hk]
      subst hk
      exact ⟨by simp, fun g h => by simpa using h⟩
    · rw [if_neg hk]
      refine ⟨?_, fun g h => ?_⟩
      · rw [List.map_cons]
        exact List.mem_cons_of_mem _ i1
      · rw [List.map_cons] at h ⊢
        rcases List.mem_cons.mp h with e | e
        · exact List.mem_cons.mpr (.inl e)
        · exact List.mem_cons_of_mem _ (i2 g e)
theorem length_putF (f : Str) (v : V) : ∀ fs : List (Str × V), (putF f v fs).length ≤ fs.length + 1
  | [] => by simp [putF]
  | (k, x) :: r => by
    have ih := length_putF f v r
    rw [show putF f v ((k, x) :: r) = (if k = f then (k, v) :: r else (k, x) :: putF f v r) from rfl]
    by_cases hk : k = f
    · rw [if_pos hk, List.length_cons, List.length_cons]; omega
    · rw [if_neg hk, List.length_cons, List.length_cons]; omega

theorem RelO.some_of {v : V} {o : Option Value} (r : RelO (some v) o) : ∃ u, o = some u ∧ RelV v u := by
  cases o with
  | none => exact (show False from r).elim
  | some u => exact ⟨u, rfl, r⟩
theorem RelO.none_of {o : Option Value} (r : RelO none o) : o = none := by
  cases o with
  | none => rfl
  | some u => exact (show False from r).elim
theorem handed_of {v : V} {u : Value} (r : RelV v u) : PySem.W.handedIn u = true := by
  cases v with
  | non => cases (show u = Value.none from r); rfl
  | bl b => cases (show u = Value.bool b from r); rfl
  | int i => obtain ⟨t, e⟩ := (show ∃ t, u = Value.int i t from r); cases e; rfl
  | str x => obtain ⟨t, e⟩ := (show ∃ t, u = Value.str x t from r); cases e; rfl
  | byt b => obtain ⟨t, e⟩ := (show ∃ t, u = Value.bytes b t from r); cases e; rfl
  | flt b => obtain ⟨t, e⟩ := (show ∃ t, u = Value.float b t from r); cases e; rfl
  | ref a => cases (show u = Value.ref a from r); rfl
  | ty n => cases (show u = Value.type n from r); rfl

section
variable {P : Program} {w : World} {H H' : Hp} {h h' : Heap} {a C dx : Addr} {fs fs' : List (Str × V)}
theorem ins_get (hok : HOk P w H h) (e : H a = some (.ins C dx fs)) : ∃ mA, ObjM h a dx C mA ∧ (∀ f, RelO (fs.lookup f) (mA f)) ∧ PySem.Within mA (fs.map (·.1)) ∧ fs.length ≤ 1000 ∧ H dx = some (.own a) := by
  obtain ⟨d, z, ne, ob, mA, n, r, q⟩ := (show ObjOk P w H h a (.ins C dx fs) from hok a _ e)
  exact ⟨mA, ⟨ob, n, ne⟩, r, q, z, d⟩
end

/-! ### what of the text a class must have -/
structure Cls (K : PySem.W.Frag) (C : Addr) : Prop where
  pg : PySem.W.plainGet K C Str.empty = true
  hd : PySem.W.hasDictIn K C = true
  po : PySem.W.plainOver K C = true
  sa : PySem.W.findIn K (.ref C) "__setattr__" = some (some (.builtin "object.__setattr__"))
theorem Cls.get {K : PySem.W.Frag} {C : Addr} (c : Cls K C) (f : Str) : PySem.W.plainGet K C f = true := c.pg
/-- no class of it has the name -/
def NoAttr (K : PySem.W.Frag) (C : Addr) (f : Str) : Prop := PySem.W.findIn K (.ref C) f = some none
theorem NoAttr.taker {K : PySem.W.Frag} {C : Addr} {f : Str} (n : NoAttr K C f) : PySem.W.takerIn K C f = some none := by
  unfold PySem.W.takerIn
  rw [show PySem.W.findIn K (.ref C) f = some none from n]
  rfl
/-- a method: a plain def of the class or of one above it -/
structure Meth (K : PySem.W.Frag) (C : Addr) (m : Str) (f : Addr) : Prop where
  at_ : PySem.W.findIn K (.ref C) m = some (some (.ref f))
  fn : PySem.W.isFn K (.ref f) = true
  kp : PySem.W.keepIn K (.ref f) = true

section
variable {X : Cx} {pins : List (Addr × Obj)} {σ : St} {H : Hp} {s : Shared} {a C dx : Addr} {fs : List (Str × V)} {f : Str} {v : V} {A : Around} {E : Value → Shared → Prop}

theorem getattr_ok {b : Bool} {Q : Value → Shared → Prop} (I : Inv X pins σ H s) (e : H a = some (.ins C dx fs)) (c : Cls X.K C) (n : NoAttr X.K C f) (l : fs.lookup f = some v)
    (h : ∀ u s', Inv X pins σ H s' → RelV v u → Q u s') : wpAny (model X.prog X.w) A (getAttr (.ref a) f b) Q E s := by
  obtain ⟨mA, O, r, _, _, _⟩ := ins_get I.hok e
  obtain ⟨u, hu, ru⟩ := RelO.some_of (v := v) (o := mA f) (by rw [← l]; exact r f)
  exact get_map I.kIn O (c.get f) c.hd n hu (handed_of ru) (h u _ (I.tok _) ru)


theorem getmeth_ok {m : Str} {g : Addr} {pl : Sem Bool} {Q : Value × List Value → Shared → Prop} (I : Inv X pins σ H s) (e : H a = some (.ins C dx fs)) (c : Cls X.K C) (k : Meth X.K C m g) (l : fs.lookup m = none)
    (h : Q (.ref g, [.ref a]) s) : wpAny (model X.prog X.w) A (getMethod (.ref a) m pl) Q E s := by
  obtain ⟨mA, O, r, _, _, _⟩ := ins_get I.hok e
  have hn : mA m = none := RelO.none_of (by rw [← l]; exact r m)
  exact get_meth I.kIn O (c.get m) k.at_ k.fn hn h

theorem setattr_ok {y : V} {u : Value} {Q : Unit → Shared → Prop} (I : Inv X pins σ H s) (e : H a = some (.ins C dx fs)) (c : Cls X.K C) (n : NoAttr X.K C f) (hl : fs.length < 1000) (ry : RelV y u)
    (h : ∀ s', Inv X pins σ (upd H a (.ins C dx (putF f y fs))) s' → Q () s') : wpAny (model X.prog X.w) A (setAttr (.ref a) f u) Q E s := by
  obtain ⟨mA, O, r, wi, _, ho⟩ := ins_get I.hok e
  have hz : (fs.map (·.1)).length ≤ sizeLine := by rw [List.length_map, sizeLine_eq]; omega
  refine set_map I.kIn O c.sa c.po n.taker c.hd wi hz fun h' O' sb => h _ ?_
  have hd : ∃ o, h'.get? dx = some o := let ⟨o, _, _, e', _⟩ := O'.ns; ⟨o, e'⟩
  refine I.write (x := a) (e := dx) (by rw [e]; exact True.intro) (.inr ho) (fun b q hb z => (sb.2 b hb).trans z) hd ?_
  refine ⟨by rw [upd_ne O.ne]; exact ho, ?_, O.ne, O'.obj, _, O'.ns, fun g => ?_, fun g hg => ?_⟩
  · have := length_putF f y fs; omega
  · show RelO ((putF f y fs).lookup g) (if g = f then some u else mA g)
    rw [lookup_putF]
    by_cases q : g = f
    · rw [if_pos q, if_pos q]; exact ry
    · rw [if_neg q, if_neg q]; exact r g
  · by_cases q : g = f
    · rw [q]; exact (keys_putF f y fs).1
    · refine (keys_putF f y fs).2 g (wi g fun z => hg ?_)
      show (if g = f then some u else mA g) = none
      rw [if_neg q]; exact z

/-- a new instance, tracked, without attributes -/
theorem Inv.made (I : Inv X pins σ H s) : Inv X pins σ (upd (upd H s.heap.objs.size (.own (s.heap.objs.size + 1))) (s.heap.objs.size + 1) (.ins C s.heap.objs.size []))
    { s with heap := (s.heap.push PySem.W.emptyDict).push (PySem.W.instObj C s.heap.objs.size) } := by
  have e1 : (s.heap.push PySem.W.emptyDict).get? s.heap.objs.size = some PySem.W.emptyDict := Heap.get?_push_size s.heap rfl
  have e2 : ((s.heap.push PySem.W.emptyDict).push (PySem.W.instObj C s.heap.objs.size)).get? (s.heap.objs.size + 1) = some (PySem.W.instObj C s.heap.objs.size) := by
    have := Heap.get?_push_size (s.heap.push PySem.W.emptyDict) (o := PySem.W.instObj C s.heap.objs.size) rfl
    rwa [Heap.size_push] at this
  have e3 : (s.heap.push PySem.W.emptyDict).Ns s.heap.objs.size (fun _ => none) := ⟨PySem.W.emptyDict, #[], _, e1, rfl, (fun e he => absurd he (by simp)), fun _ => rfl⟩
  have I1 := I.laid (a := s.heap.objs.size) (o := .own (s.heap.objs.size + 1)) (h' := s.heap.push PySem.W.emptyDict) (t' := s.toks) (fun b u q => Heap.get?_push_of_some _ q) (Nat.le_refl _) ⟨_, e1⟩
  refine I1.laid (a := s.heap.objs.size + 1) (o := .ins C s.heap.objs.size []) (t' := s.toks) (fun b u q => Heap.get?_push_of_some _ q) (Nat.le_of_eq (Heap.size_push _ _)) ?_
  have ne : s.heap.objs.size ≠ s.heap.objs.size + 1 := Nat.ne_of_lt (Nat.lt_succ_self _)
  refine ⟨by rw [upd_ne ne, upd_same], Nat.zero_le _, ne, e2, fun _ => none, (Heap.Ns1.of_empty e3).at fun o q => Heap.get?_push_of_some _ q, fun _ => True.intro, fun y hy => absurd rfl hy⟩

/-- e.f where nothing but the object is asked: through attributeBase (super) and the last hold -/
theorem attr_of {prog : Program} {w : World} {env : Env} {e : Expr} {f : Str} {pos : Pos} {s : Shared} {Q : Value → Shared → Prop} (hb : attributeBase e f env (eval e env) = eval e env)
    (h : wpAny (model prog w) A (eval e env) (fun o s₁ => wpAny (model prog w) A (getAttr o f true) Q E s₁) E s) : wpAny (model prog w) A (eval (.Attribute e f pos) env) Q E s :=
  Attribute_any_ h (by rw [arm_eval_Attribute, hb])
end

/-! ### readings and rules -/
/-- e.f, an attribute of the instance -/
def tFld (K : PySem.W.Frag) (ta : TE) (f : Str) : TE := fun σ H Q => ta σ H fun x H1 => ∃ a C dx fs v, x = .ref a ∧ H1 a = some (.ins C dx fs) ∧ Cls K C ∧ NoAttr K C f ∧ fs.lookup f = some v ∧ Q v H1
/-- e.f = value -/
def sFld (K : PySem.W.Frag) (ta tv : TE) (f : Str) : TS := fun D σ H => tv σ H fun y H1 => ta σ H1 fun x H2 => ∃ a C dx fs, x = .ref a ∧ H2 a = some (.ins C dx fs) ∧ Cls K C ∧ NoAttr K C f ∧ fs.length < 1000 ∧
  D.nx σ (upd H2 a (.ins C dx (putF f y fs)))

section
variable {X : Cx} {o e value : Expr} {f : Str} {pos pos' tpos : Pos} {ta tv : TE}
theorem pe_fld (he : PE X e ta) (hb : attributeBase e f X.env (eval e X.env) = eval e X.env) : PE X (.Attribute e f pos) (tFld X.K ta f) := by
  intro pins s σ H Q I h
  refine attr_of hb (thn (he pins s σ H _ I h) fun u s1 ⟨x, H1, I1, rx, a, C, dx, fs, v, ex, ea, c, n, l, q⟩ => ?_)
  subst ex
  obtain rfl : u = Value.ref a := rx
  exact getattr_ok I1 ea c n l fun u' s2 I2 ru => ⟨v, H1, I2, ru, q⟩
theorem ps_fld (ha : PE X o ta) (hv : PE X value tv) (hs : swapsWith value (some (.Attribute o f pos')) pos.line X.env = pure false) : PS X (.Assign [.Attribute o f pos'] value pos) (sFld X.K ta tv f) := by
  intro pins s σ H D I h
  refine plainObj_wpAny_Assign_Attribute (thn (hv pins s σ H _ I h) fun u s1 ⟨y, H1, I1, ry, q⟩ => thn (ha pins s1 σ H1 _ I1 q) fun ov s2 ⟨x, H2, I2, rx, a, C, dx, fs, ex, ea, c, n, l, q2⟩ => ?_) hs
  subst ex
  obtain rfl : ov = Value.ref a := rx
  exact setattr_ok I2 ea c n l ry fun s3 I3 => ⟨σ, _, I3, q2⟩

end

/-! ### isinstance -/
section
variable {X : Cx} {pins : List (Addr × Obj)} {σ : St} {H : Hp} {s : Shared} {A : Around} {E : Value → Shared → Prop} {Q : Value → Shared → Prop} {c : Value} {b : Bool}
end
end L2

namespace L2
open PySem PySem.Spec PyProof.Rows

/-! ### room -/
structure Room (k : Nat) (A : Around) : Prop where
  hd : A.handled = none
  dp : A.depth + 3 * k + 5 < recursionLimit
  un : A.units + 16 * k + 200 < cLine
theorem Room.mono {j k : Nat} {A : Around} (r : Room k A) (h : j ≤ k) : Room j A := ⟨r.hd, by have := r.dp; omega, by have := r.un; omega⟩
theorem Room.deeper {k : Nat} {A : Around} (r : Room (k + 1) A) (env : Env) : Room k (A.deeper env) :=
  ⟨r.hd, by have := r.dp; show A.depth + 1 + 3 * k + 5 < _; omega, by have := r.un; show A.units + 3 + 16 * k + 200 < _; omega⟩
theorem Room.in1 {k : Nat} {A : Around} (r : Room (k + 1) A) : Room k A.in1 :=
  ⟨r.hd, by have := r.dp; show A.depth + 3 * k + 5 < _; omega, by have := r.un; show A.units + 1 + 16 * k + 200 < _; omega⟩
theorem make_depth {A : Around} {C : Addr} {us : List Value} {kw : List (Str × Value)} : (A.under (.builtin "type.__call__" ⟨.ref C :: us, kw⟩)).depth = A.depth + 1 := by
  first | rfl | simp [Around.under, Code.weight, Code.isCreation, Code.isGuard, Code.isCaller, Code.frames, Code.isFrame, guardIds]
theorem make_units {A : Around} {C : Addr} {us : List Value} {kw : List (Str × Value)} : (A.under (.builtin "type.__call__" ⟨.ref C :: us, kw⟩)).units = A.units + 1 := by
  first | rfl | simp [Around.under, Code.cUnits, Code.frames, Code.isFrame]
theorem Room.make {k : Nat} {A : Around} (r : Room (k + 1) A) (C : Addr) (us : List Value) (kw : List (Str × Value)) : Room k (A.under (.builtin "type.__call__" ⟨.ref C :: us, kw⟩)) :=
  ⟨r.hd, by have := r.dp; rw [make_depth]; omega, by have := r.un; rw [make_units]; omega⟩
theorem Room.depth {k : Nat} {A : Around} (r : Room k A) : A.depth < recursionLimit := by have := r.dp; omega
theorem Room.units {k : Nat} {A : Around} (r : Room k A) : A.units + 64 < cLine := by have := r.un; omega

/-! ### argument lists and displays -/
def tNil : TA := fun _ H Q => Q [] H
def tCons (ta : TE) (tr : TA) : TA := fun σ H Q => ta σ H fun x H1 => tr σ H1 fun xs H2 => Q (x :: xs) H2
section
variable {X : Cx} {e : Expr} {es : List Expr} {te : TE} {t : TA} {pos : Pos}
theorem pa_nil : PA X [] tNil := fun _ _ _ _ H Q I h => Calls.spliced_nil ⟨[], H, I, .nil, h⟩
theorem pa_cons (ha : PE X e te) (hr : PA X es t) (hs : starEach (e :: es) X.env = (false, eval e X.env) :: starEach es X.env := by rfl) : PA X (e :: es) (tCons te t) := by
  intro pos pins s σ H Q I h
  rw [hs]
  show wpAny _ _ (spliced ((false, eval e X.env) :: backTo pos (starEach es X.env))) _ _ s
  refine Calls.spliced_cons (thn (ha pins s σ H _ I h) fun u s1 ⟨x, H1, I1, r1, q1⟩ => ?_)
  exact thn (hr pos pins s1 σ H1 _ I1 q1) fun us s2 ⟨xs, H2, I2, r2, q2⟩ => ⟨x :: xs, H2, I2, .cons r1 r2, q2⟩

def tLst (t : TA) : TE := fun σ H Q => t σ H fun xs H1 => xs.length ≤ sizeLine ∧ ∀ p, H1 p = none → Q (.ref p) (upd H1 p (.lst xs))
theorem pe_lst (h : PA X es t) : PE X (.List es pos) (tLst t) := by
  intro pins s σ H Q I hq
  refine wpAny_List_spliced (thn (h pos pins s σ H _ I hq) fun us s1 ⟨xs, H1, I1, r, z, q⟩ => ⟨by rw [← r.length]; exact z, ?_⟩)
  have hf : H1 s1.heap.objs.size = none := I1.hok.fresh (Nat.le_refl _)
  refine ⟨.ref s1.heap.objs.size, upd H1 s1.heap.objs.size (.lst xs), I1.laid (t' := s1.toks) (fun b u e => Heap.get?_push_of_some _ e) (Nat.le_refl _) ?_, rfl, q _ hf⟩
  exact ⟨z, us, 0, r, Heap.get?_push_size _ rfl⟩
end

/-! ### what a def promises -/
/-- a def's promise: the bound arguments in the parameters' order, the heap, the wanted end, the wanted exception -/
abbrev Sp := List V → Hp → VK → XK → Prop
/-- how an exception lies behind a call (file 08 gives it): the callers' frames, abstract heap and state ahead of the call, the wish, the exception, the state -/
abbrev CXT := List Env → Hp → Shared → XK → Value → Shared → Prop

/-- the state at a call -/
structure Env0 (P : Program) (w : World) (K : PySem.W.Frag) (mg : Str → Option Value) (base : Heap) (A : Around) (outer : List Env) (s : Shared) (H : Hp) : Prop where
  frames : A.frames = some outer
  mod : Mod K mg base
  bs : ∀ b o, base.get? b = some o → s.heap.get? b = some o ∧ H b = none
  bsz : base.objs.size ≤ s.heap.objs.size
  funs : s.heap.FunFrames base outer
  frf : ∀ b ∈ frs outer, H b = none
  hok : HOk P w H s.heap
  bare : AllBare s.gens
/-- a call's end -/
def CE (outer : List Env) (P : Program) (w : World) (H : Hp) (s : Shared) (Q : VK) (u : Value) (s' : Shared) : Prop :=
  ∃ v H', s'.os = s.os ∧ AllBare s'.gens ∧ Un (frs outer) [] H H' s.heap s'.heap ∧ HOk P w H' s'.heap ∧ RelV v u ∧ Q v H'
def CR (CX : CXT) (outer : List Env) (P : Program) (w : World) (H : Hp) (s : Shared) (Q : VK) (E : XK) (r : Result) (s' : Shared) : Prop :=
  match r with
  | .ok (.ret u) => CE outer P w H s Q u s'
  | .ok _ => False
  | .error e => CX outer H s E e s'
structure FnOk (P : Program) (w : World) (K : PySem.W.Frag) (mg : Str → Option Value) (base : Heap) (CX : CXT) (k : Nat) (f : Addr) (fd : FuncData) (ps : List Str) (sp : Sp) : Prop where
  len : ∀ vs H Q E, sp vs H Q E → vs.length = ps.length
  run : ∀ (A : Around) (outer : List Env) (s : Shared) (H : Hp) (args : Args) (us : List Value) (vs : List V) (Q : VK) (E : XK), Room k A → Env0 P w K mg base A outer s H → BindsTo s fd args (ps.zip us) → Vals vs us → sp vs H Q E →
    codeAny (model P w) A (.call (.ref f) args) (CR CX outer P w H s Q E) s

theorem Env0.make {P : Program} {w : World} {K : PySem.W.Frag} {mg : Str → Option Value} {base : Heap} {A : Around} {outer : List Env} {s : Shared} {H : Hp} (e : Env0 P w K mg base A outer s H) (C : Addr) (us : List Value) (kw : List (Str × Value)) :
    Env0 P w K mg base (A.under (.builtin "type.__call__" ⟨.ref C :: us, kw⟩)) outer s H := ⟨by first | exact e.frames | (simpa [Around.under, Code.envs, Code.isFrame, pushEnvs] using e.frames), e.mod, e.bs, e.bsz, e.funs, e.frf, e.hok, e.bare⟩

section
variable {X : Cx} {pins : List (Addr × Obj)} {σ : St} {H : Hp} {s s' : Shared}
/-- from a body: what a callee wants -/
theorem Inv.env0 (I : Inv X pins σ H s) : Env0 X.prog X.w X.K X.mg X.base X.A X.stack s H :=
  ⟨I.ok.frames, I.ok.mod, I.bs, Nat.le_trans I.ok.bsz I.sz, I.stack, I.stkFree, I.hok, I.bare⟩
/-- behind a call -/
theorem Inv.after {Q : VK} {u : Value} (I : Inv X pins σ H s) (h : CE X.stack X.prog X.w H s Q u s') : EP X pins σ Q u s' := by
  obtain ⟨v, H', os, bare, un, hok, r, q⟩ := h
  obtain ⟨hh, g, d, t, os'⟩ := s'
  obtain rfl : os' = s.os := os
  exact ⟨v, H', I.call (h' := hh) (g' := g) (d' := d) (t' := t) (ch := []) un hok bare (fun b z => absurd z (by simp)), r, q⟩
end

/-! ### calls -/
/-- f(..): the written arguments, then the defaults dvs; E: what is wanted of an exception -/
def tCall (sp : Sp) (dvs : List V) (E : XK) (t : TA) : TE := fun σ H Q => t σ H fun vs H1 => sp (vs ++ dvs) H1 Q E
/-- o.m(..) of an instance of the class at C -/
def tMeth (C : Addr) (m : Str) (sp : Sp) (dvs : List V) (E : XK) (ta : TE) (t : TA) : TE := fun σ H Q => ta σ H fun x H1 => ∃ a dx fs, x = .ref a ∧ H1 a = some (.ins C dx fs) ∧ fs.lookup m = none ∧
  t σ H1 fun vs H2 => sp (x :: (vs ++ dvs)) H2 Q E
/-- C(..): a new instance and its dict, then __init__ -/
def tMake (C : Addr) (sp : Sp) (dvs : List V) (E : XK) (t : TA) : TE := fun σ H Q => t σ H fun vs H1 => ∀ x dx, H1 x = none → H1 dx = none → dx ≠ x →
  sp (.ref x :: (vs ++ dvs)) (upd (upd H1 dx (.own x)) x (.ins C dx [])) (fun v H2 => v = .non ∧ Q (.ref x) H2) E

/-- how the parameters are bound: us the positional arguments, kw the keywords' values by name, ds the defaults that fill up -/
def Binds (K : PySem.W.Frag) (fd : FuncData) (ps : List Str) (ds : List Value) : Prop :=
  ∀ (s : Shared) (us : List Value), K.In s.heap → (us ++ ds).length = ps.length → BindsTo s fd ⟨us, []⟩ (ps.zip (us ++ ds))
/-- every parameter is given -/
theorem Binds.all {K : PySem.W.Frag} {fd : FuncData} {ps : List Str} (h : ∀ us : List Value, us.length = ps.length → bindArgs fd ⟨us, []⟩ = pure (ps.zip us)) : Binds K fd ps [] := fun s us _ hl => by
  rw [List.append_nil] at hl ⊢
  exact .of_eq (h us hl)

/-- an exception of a callee reaches what this body wants of exceptions -/
def Passes (CX : CXT) (X : Cx) (E : XK) : Prop := ∀ (pins : List (Addr × Obj)) (σ : St) (H : Hp) (s : Shared) (e : Value) (s' : Shared), Inv X pins σ H s → CX X.stack H s E e s' → X.xe e s'

section
variable {X : Cx} {CX : CXT} {k : Nat} {f C : Addr} {fd : FuncData} {ps : List Str} {sp : Sp} {dvs : List V} {ds : List Value} {E : XK} {x m : Str} {p pos apos : Pos} {e o : Expr} {es : List Expr} {ta : TE} {t : TA}

/-- the callee runs -/
theorem run_fn {pins : List (Addr × Obj)} {σ : St} {H : Hp} {s : Shared} {Q : VK} {us : List Value} {vs : List V} (F : FnOk X.prog X.w X.K X.mg X.base CX k f fd ps sp) (hr : Room k X.A) (hb : Binds X.K fd ps ds) (hd : Vals dvs ds) (hx : Passes CX X E)
    (I : Inv X pins σ H s) (r : Vals vs us) (h : sp (vs ++ dvs) H Q E) : wpAny (model X.prog X.w) X.A (call (.ref f) us) (EP X pins σ Q) X.xe s := by
  have r2 : Vals (vs ++ dvs) (us ++ ds) := r.append hd
  have hl : (us ++ ds).length = ps.length := by rw [← r2.length]; exact F.len _ _ _ _ h
  refine wpAny_call (codeAny_mono (F.run X.A X.stack s H ⟨us, []⟩ (us ++ ds) (vs ++ dvs) Q E hr I.env0 (hb s us I.kIn hl) r2 h) fun r s' hq => ?_)
  cases r with
  | error e => exact hx pins σ H s e s' I hq
  | ok fl =>
    cases fl with
    | ret u => exact I.after hq
    | next => exact False.elim hq
    | brk => exact False.elim hq
    | cont => exact False.elim hq

theorem pe_call (F : FnOk X.prog X.w X.K X.mg X.base CX k f fd ps sp) (hr : Room k X.A) (hg : Gl X x) (hm : X.mg x = some (.ref f)) (hk : PySem.W.keepIn X.K (.ref f) = true) (hb : Binds X.K fd ps ds) (hd : Vals dvs ds) (hx : Passes CX X E)
    (ha : PA X (e :: es) t) (hdb : (x == ("__debug__" : Str)) = false := by decide) (he : starEach (e :: es) X.env = (false, eval e X.env) :: starEach es X.env := by rfl) (hpl : (backTo pos (starEach es X.env)).any (·.1) = false := by rfl) :
    PE X (.Call (.Name x p) (e :: es) [] pos) (tCall sp dvs E t) := by
  intro pins s σ H Q I h
  refine wpAny_Call_Name_kw (ld_glob I hg hm ?_ hdb)
  refine PySem.W.callWith_K (h₀ := X.base) I.ok.mod.kin hk (thn (ha pos pins s σ H _ I h) fun us s1 ⟨vs, H1, I1, r, q⟩ => ⟨I1.kIn, ?_⟩) he hpl
  exact run_fn F hr hb hd hx I1 r q

/-- o.m(e, ..) -/
theorem pe_meth {pl : Sem Bool} (he : PE X o ta) (c : Cls X.K C) (hm : Meth X.K C m f) (F : FnOk X.prog X.w X.K X.mg X.base CX k f fd ps sp) (hr : Room k X.A) (hb : Binds X.K fd ps ds) (hd : Vals dvs ds) (hx : Passes CX X E) (ha : PA X (e :: es) t)
    (hst : starEach (e :: es) X.env = (false, eval e X.env) :: starEach es X.env := by rfl) (hpl : (backTo pos (starEach es X.env)).any (·.1) = false := by rfl)
    (ht : eval (.Call (.Attribute o m apos) (e :: es) [] pos) X.env = (do
      let ov ← eval o X.env
      standAt apos.atName
      let (f, first) ← holding [ov] (getMethod ov m pl)
      callWith pos f first (backTo pos (starEach (e :: es) X.env)) (backToKw pos (keywordEach [] X.env))) := by rfl) :
    PE X (.Call (.Attribute o m apos) (e :: es) [] pos) (tMeth C m sp dvs E ta t) := by
  intro pins s σ H Q I h
  refine PySem.W.methodCall_KW (pl := pl) (thn (he pins s σ H _ I h) fun u s1 ⟨x, H1, I1, rx, a, dx, fs, ex, ea, l, q⟩ => ?_) ht
  subst ex
  obtain rfl : u = Value.ref a := rx
  refine getmeth_ok I1 ea c hm l ?_
  refine PySem.W.callWith_K (first := [.ref a]) (h₀ := X.base) I.ok.mod.kin hm.kp (thn (ha pos pins s1 σ H1 _ I1 q) fun us s2 ⟨vs, H2, I2, r, q2⟩ => ⟨I2.kIn, ?_⟩) hst hpl
  exact run_fn (us := .ref a :: us) (vs := .ref a :: vs) F hr hb hd hx I2 (.cons rfl r) q2
/-- o.m() -/
theorem pe_meth0 {pl : Sem Bool} (he : PE X o ta) (c : Cls X.K C) (hm : Meth X.K C m f) (F : FnOk X.prog X.w X.K X.mg X.base CX k f fd ps sp) (hr : Room k X.A) (hb : Binds X.K fd ps ds) (hd : Vals dvs ds) (hx : Passes CX X E)
    (ht : eval (.Call (.Attribute o m apos) [] [] pos) X.env = (do
      let ov ← eval o X.env
      standAt apos.atName
      let (f, first) ← holding [ov] (getMethod ov m pl)
      callWith pos f first (backTo pos (starEach [] X.env)) (backToKw pos (keywordEach [] X.env))) := by rfl) :
    PE X (.Call (.Attribute o m apos) [] [] pos) (tMeth C m sp dvs E ta tNil) := by
  intro pins s σ H Q I h
  refine PySem.W.methodCall_KW (pl := pl) (thn (he pins s σ H _ I h) fun u s1 ⟨x, H1, I1, rx, a, dx, fs, ex, ea, l, q⟩ => ?_) ht
  subst ex
  obtain rfl : u = Value.ref a := rx
  refine getmeth_ok I1 ea c hm l ?_
  exact PySem.W.callWith_K0 (first := [.ref a]) I1.kIn hm.kp (run_fn (us := [.ref a]) (vs := [.ref a]) F hr hb hd hx I1 (.cons rfl .nil) q)

/-- what a class must have to be made -/
structure Mk (K : PySem.W.Frag) (C f : Addr) : Prop where
  makes : PySem.W.makesIn K C = true
  init : PySem.W.findIn K (.ref C) "__init__" = some (some (.ref f))
  fn : PySem.W.isFn K (.ref f) = true
  kp : PySem.W.keepIn K (.ref C) = true

theorem run_make {pins : List (Addr × Obj)} {σ : St} {H : Hp} {s : Shared} {Q : VK} {us : List Value} {vs : List V} (M : Mk X.K C f) (F : FnOk X.prog X.w X.K X.mg X.base CX k f fd ps sp) (hr : Room (k + 1) X.A) (hb : Binds X.K fd ps ds) (hd : Vals dvs ds)
    (hx : Passes CX X E) (I : Inv X pins σ H s) (r : Vals vs us)
    (h : ∀ x dx, H x = none → H dx = none → dx ≠ x → sp (.ref x :: (vs ++ dvs)) (upd (upd H dx (.own x)) x (.ins C dx [])) (fun v H2 => v = .non ∧ Q (.ref x) H2) E) :
    wpAny (model X.prog X.w) X.A (call (.ref C) us) (EP X pins σ Q) X.xe s := by
  have hq := h (s.heap.objs.size + 1) s.heap.objs.size (I.hok.fresh (Nat.le_succ _)) (I.hok.fresh (Nat.le_refl _)) (Nat.ne_of_lt (Nat.lt_succ_self _))
  have I2 := Inv.made (C := C) I
  have r2 : Vals (V.ref (s.heap.objs.size + 1) :: (vs ++ dvs)) (Value.ref (s.heap.objs.size + 1) :: (us ++ ds)) := .cons rfl (r.append hd)
  have hl : (Value.ref (s.heap.objs.size + 1) :: us ++ ds).length = ps.length := by
    have e := r2.length
    rw [F.len _ _ _ _ hq] at e
    exact e.symm
  refine wpAny_call (make_map (f := f) I.kIn M.makes M.init (beq_iff_eq.mp M.fn) (codeAny_mono (F.run _ X.stack _ _ ⟨Value.ref (s.heap.objs.size + 1) :: us, []⟩ (Value.ref (s.heap.objs.size + 1) :: (us ++ ds)) _ _ E (hr.make C us [])
    (I2.env0.make C us []) (hb _ (Value.ref (s.heap.objs.size + 1) :: us) I2.kIn hl) r2 hq) fun r s' hq' => ?_))
  cases r with
  | error e => exact hx pins σ _ _ e s' I2 hq'
  | ok fl =>
    cases fl with
    | ret u =>
      obtain ⟨v, H', I3, rv, ev, q3⟩ := I2.after hq'
      subst ev
      exact ⟨rv, ⟨V.ref (s.heap.objs.size + 1), H', I3, rfl, q3⟩⟩
    | next => exact False.elim hq'
    | brk => exact False.elim hq'
    | cont => exact False.elim hq'
theorem pe_make (M : Mk X.K C f) (F : FnOk X.prog X.w X.K X.mg X.base CX k f fd ps sp) (hr : Room (k + 1) X.A) (hg : Gl X x) (hm : X.mg x = some (.ref C)) (hb : Binds X.K fd ps ds) (hd : Vals dvs ds) (hx : Passes CX X E)
    (ha : PA X (e :: es) t) (hdb : (x == ("__debug__" : Str)) = false := by decide) (he : starEach (e :: es) X.env = (false, eval e X.env) :: starEach es X.env := by rfl) (hpl : (backTo pos (starEach es X.env)).any (·.1) = false := by rfl) :
    PE X (.Call (.Name x p) (e :: es) [] pos) (tMake C sp dvs E t) := by
  intro pins s σ H Q I h
  refine wpAny_Call_Name_kw (ld_glob I hg hm ?_ hdb)
  refine PySem.W.callWith_K (h₀ := X.base) I.ok.mod.kin M.kp (thn (ha pos pins s σ H _ I h) fun us s1 ⟨vs, H1, I1, r, q⟩ => ⟨I1.kIn, ?_⟩) he hpl
  exact run_make M F hr hb hd hx I1 r q
theorem pe_make0 (M : Mk X.K C f) (F : FnOk X.prog X.w X.K X.mg X.base CX k f fd ps sp) (hr : Room (k + 1) X.A) (hg : Gl X x) (hm : X.mg x = some (.ref C)) (hb : Binds X.K fd ps ds) (hd : Vals dvs ds) (hx : Passes CX X E)
    (hdb : (x == ("__debug__" : Str)) = false := by decide) : PE X (.Call (.Name x p) [] [] pos) (tMake C sp dvs E tNil) := by
  intro pins s σ H Q I h
  refine wpAny_Call_Name_kw (ld_glob I hg hm ?_ hdb)
  exact PySem.W.callWith_K0 I.kIn M.kp (run_make (us := []) M F hr hb hd hx I .nil h)
end

/-! ### keywords -/
section
variable {X : Cx} {CX : CXT} {k : Nat} {f C : Addr} {fd : FuncData} {ps ks : List Str} {sp : Sp} {E : XK} {x m : Str} {p pos apos kpos : Pos} {e o : Expr} {es : List Expr} {kws : List Keyword} {te ta : TE} {t tk : TA} {nm : Option Str}

variable {g : List Value → List Value → List Value} {gV : List V → List V → List V}
end

/-! ### a def's body keeps its promise -/
/-- names: the parameters first -/
structure FnScope (N P : List Str) (sc : Scope) : Prop where
  kind : sc.kind = .function
  co : sc.isCoroutine = false
  gen : sc.isGenerator = false
  nd : N.Nodup
  pre : N.take P.length = P
  par : ∀ x ∈ P, sc.names.lookup x = some .local ∨ sc.names.lookup x = some .cell
  nofree : ∀ y ∈ sc.names, y.2 ≠ .free

theorem bindL_out {kindOf : Str → Option NameKind} {x : Str} : ∀ {binds : List (Str × Value)} {m : Str → Option Value}, (∀ v, (x, v) ∉ binds) → bindL kindOf binds m x = m x
  | [], _, _ => rfl
  | (n, v) :: r, m, h => by
    unfold bindL
    rw [bindL_out fun w hw => h w (List.mem_cons_of_mem _ hw)]
    split
    · have : x ≠ n := by rintro rfl; exact h v List.mem_cons_self
      simp [this]
    · rfl
theorem bindC_out {kindOf : Str → Option NameKind} {x : Str} : ∀ {binds : List (Str × Value)} {m : Str → Option Value}, (∀ v, (x, v) ∉ binds) → bindC kindOf binds m x = m x
  | [], _, _ => rfl
  | (n, v) :: r, m, h => by
    unfold bindC
    rw [bindC_out fun w hw => h w (List.mem_cons_of_mem _ hw)]
    split
    · rfl
    · have : x ≠ n := by rintro rfl; exact h v List.mem_cons_self
      simp [this]
theorem bindL_get {kindOf : Str → Option NameKind} {x : Str} {v : Value} : ∀ {P : List Str} {vs : List Value} {i : Nat} {m : Str → Option Value}, P.Nodup → P[i]? = some x → vs[i]? = some v → kindOf x = some .local →
    bindL kindOf (P.zip vs) m x = some v
  | [], _, _, _, _, h, _, _ => by simp at h
  | _ :: _, [], _, _, _, _, h, _ => by simp at h
  | p :: P, w :: vs, 0, m, nd, h1, h2, hk => by
    simp at h1 h2; subst h1; subst h2
    show bindL kindOf ((p, w) :: P.zip vs) m p = _
    unfold bindL
    rw [bindL_out fun v hv => (List.nodup_cons.mp nd).1 (List.of_mem_zip hv).1, if_pos hk]
    simp
  | p :: P, w :: vs, i + 1, m, nd, h1, h2, hk => by
    show bindL kindOf ((p, w) :: P.zip vs) m x = _
    unfold bindL
    exact bindL_get (i := i) (List.nodup_cons.mp nd).2 (by simpa using h1) (by simpa using h2) hk
theorem bindC_get {kindOf : Str → Option NameKind} {x : Str} {v : Value} : ∀ {P : List Str} {vs : List Value} {i : Nat} {m : Str → Option Value}, P.Nodup → P[i]? = some x → vs[i]? = some v → kindOf x ≠ some .local →
    bindC kindOf (P.zip vs) m x = some v
  | [], _, _, _, _, h, _, _ => by simp at h
  | _ :: _, [], _, _, _, _, h, _ => by simp at h
  | p :: P, w :: vs, 0, m, nd, h1, h2, hk => by
    simp at h1 h2; subst h1; subst h2
    show bindC kindOf ((p, w) :: P.zip vs) m p = _
    unfold bindC
    rw [bindC_out fun v hv => (List.nodup_cons.mp nd).1 (List.of_mem_zip hv).1, if_neg hk]
    simp
  | p :: P, w :: vs, i + 1, m, nd, h1, h2, hk => by
    show bindC kindOf ((p, w) :: P.zip vs) m x = _
    unfold bindC
    exact bindC_get (i := i) (List.nodup_cons.mp nd).2 (by simpa using h1) (by simpa using h2) hk

/-- the names' values at the entry -/
def start (N : List Str) (vs : List V) : St := vs.map some ++ List.replicate (N.length - vs.length) none

/-- the context of a def's body, at its entry; an exception leaves the frame, then lies as CX says -/
def cxOf (CX : CXT) (P : Program) (w : World) (K : PySem.W.Frag) (mg : Str → Option Value) (base : Heap) (N : List Str) (qual : Str) (scope : Scope) (f : Addr) (cd : Value) (A : Around) (outer : List Env) (s : Shared) (H : Hp) (E : XK) : Cx where
  prog := P
  w := w
  K := K
  mg := mg
  base := base
  A := A.deeper (envOfC qual scope s.heap.objs.size f cd)
  N := N
  s_0 := s
  H_0 := H
  env := envOfC qual scope s.heap.objs.size f cd
  outer := outer
  stack := envOfC qual scope s.heap.objs.size f cd :: outer
  ex := []
  calm := true
  fn := fun _ => true
  pn := []
  xe := fun e s' => wpAny (model P w) (A.deeper (envOfC qual scope s.heap.objs.size f cd)) (leaving (envOfC qual scope s.heap.objs.size f cd) e) (fun _ s'' => CX outer H s E e s'') (fun e' s'' => CX outer H s E e' s'') s'

theorem cell_has {sc : Scope} {n : Nat} {x : Str} (h : sc.names.lookup x = some .cell) : ∃ c, (cellsFrom n sc.names []).lookup x = some c := by
  have q := PySem.W.cellsFrom_some sc.names n [] (.inl h)
  exact Option.isSome_iff_exists.mp q

theorem inv_start {CX : CXT} {P : Program} {w : World} {K : PySem.W.Frag} {mg : Str → Option Value} {base : Heap} {N ps : List Str} {qual : Str} {scope : Scope} {f : Addr} {cd : Value} {A : Around} {outer : List Env} {s s1 : Shared} {H : Hp} {E : XK} {us : List Value} {vs : List V}
    (S : FnScope N ps scope) (hd : A.handled = none) (e0 : Env0 P w K mg base A outer s H) (hl : vs.length = ps.length) (r : Vals vs us)
    (x : InCallC s s.heap.objs.size (bindL (envOfC qual scope s.heap.objs.size f cd).kindOf (ps.zip us) fun _ => none) (cellsFrom (s.heap.objs.size + 1) scope.names []) (bindC (envOfC qual scope s.heap.objs.size f cd).kindOf (ps.zip us) fun _ => none) s1) :
    Inv (cxOf CX P w K mg base N qual scope f cd A outer s H E) [] (start N vs) H s1 := by
  have hpl : ps.length ≤ N.length := by have := congrArg List.length S.pre; rw [List.length_take] at this; omega
  obtain ⟨h1, tk, rfl, hk⟩ := x.done
  have noA : ∀ b : Addr, b ∉ (cxOf CX P w K mg base N qual scope f cd A outer s H E).ex := fun b z => absurd (show b ∈ ([] : List Addr) from z) (by simp)
  refine ⟨⟨e0.mod, S.kind, rfl, rfl, Nat.le_refl _, fun y z c h1 h2 => ?_, fun y hy => ?_, fun y c _ h => ?_, fun _ => hd, Around.frames_deeper e0.frames, .inr ⟨rfl, rfl⟩, fun b z => absurd z (noA b), e0.bs, e0.bsz, fun b _ _ => noA b, fun b z => absurd z (noA b), e0.funs, e0.frf⟩,
    rfl, e0.bare, Un.kept hk, ⟨_, x.toInCall.ns, fun i y v h1 h2 h3 => ?_⟩, fun y c h => ⟨_, x.cell y c h⟩, e0.hok.fresh (Nat.le_refl _), fun y c h => ?_, fun p hp => absurd (show p ∈ ([] : List (Addr × Obj)) from hp) (by simp), e0.hok.kept hk, ?_⟩
  · exact name_of_addr x.apart (PySem.mem_of_lookup h1) (PySem.mem_of_lookup h2)
  · have hy : scope.names.lookup y = some .cell ∨ scope.names.lookup y = some .free := hy
    rcases hy with hy | hy
    · exact cell_has hy
    · exact absurd rfl (S.nofree _ (PySem.mem_of_lookup hy))
  · exact Nat.le_of_lt (x.above y c (PySem.mem_of_lookup h))
  · have hi : i < vs.length := by
      unfold start at h2
      by_cases hi : i < vs.length
      · exact hi
      · rw [List.getElem?_append_right (by simpa using hi)] at h2
        rw [List.getElem?_replicate] at h2
        split at h2 <;> cases h2
    have ha : vs[i]? = some v := by
      unfold start at h2
      rw [List.getElem?_append_left (by simpa using hi), List.getElem?_map] at h2
      cases e : vs[i]? with
      | none => rw [e] at h2; cases h2
      | some a => rw [e] at h2; cases h2; rfl
    obtain ⟨u, hu, rv⟩ := r.get ha
    have hp : ps[i]? = some y := by
      rw [← S.pre, List.getElem?_take_of_lt (by omega)]; exact h1
    have ndP : ps.Nodup := by rw [← S.pre]; exact S.nd.sublist (List.take_sublist _ _)
    refine ⟨u, rv, ?_⟩
    rcases S.par y (List.mem_of_getElem? hp) with k | k
    · exact .inl ⟨k, bindL_get ndP hp hu k⟩
    · obtain ⟨c, e⟩ := cell_has (n := s.heap.objs.size + 1) k
      refine .inr ⟨.inl k, c, e, ?_⟩
      have q := x.cell y c e
      rw [bindC_get ndP hp hu (by show scope.names.lookup y ≠ _; rw [k]; decide)] at q
      exact q
  · exact e0.hok.fresh (Nat.le_of_lt (x.above y c (PySem.mem_of_lookup h)))
  · unfold start
    show _ = N.length
    rw [List.length_append, List.length_map, List.length_replicate]
    omega

/-- THE RULE: a def (or a method) of the text, by its body. The body's reading t is chosen for each entry; it is run at the parameters' values -/
theorem fn_of {CX : CXT} {P : Program} {w : World} {K : PySem.W.Frag} {mg : Str → Option Value} {base : Heap} {k : Nat} {f : Addr} {name qual : Str} {params : Arguments} {body : List Stmt} {scope : Scope} {dV kV doc pm cdv ct oc : Value} {an od : Option Addr}
    {osl : Array (Option Value)} {N ps : List Str} {sp : Sp} (lk : K.lookup f = some ⟨oc, od, .func (PySem.W.fnOf name qual params body scope dV kV doc pm an cdv ct), osl⟩) (hcd : PySem.W.codeIn K cdv qual = true) (S : FnScope N ps scope)
    (len : ∀ vs H Q E, sp vs H Q E → vs.length = ps.length)
    (hbody : ∀ (A : Around) (outer : List Env) (s : Shared) (H : Hp) (vs : List V) (Q : VK) (E : XK), Room k (A.deeper (envOfC qual scope s.heap.objs.size f cdv)) → sp vs H Q E →
      ∃ t, PSs (cxOf CX P w K mg base N qual scope f cdv A outer s H E) body t ∧ t { nx := fun _ H' => Q .non H', rt := Q } (start N vs) H) :
    FnOk P w K mg base CX (k + 1) f (PySem.W.fnOf name qual params body scope dV kV doc pm an cdv ct) ps sp := by
  refine ⟨len, fun A outer s H args us vs Q E hr e0 hb r hsp => ?_⟩
  have hl := len _ _ _ _ hsp
  have KX : K.In s.heap := e0.mod.kin.keeps fun b o e => (e0.bs b o e).1
  have lim : s.heap.NoLimit := e0.mod.nolimit.keeps fun b o e => (e0.bs b o e).1
  have hkind : ∀ y ∈ ps.zip us, scope.names.lookup y.1 = some .local ∨ (scope.names.lookup y.1 = some .cell ∧ ((cellsFrom (s.heap.objs.size + 1) scope.names []).lookup y.1).isSome = true) := fun ⟨n, v⟩ hy => by
    rcases S.par n (List.of_mem_zip hy).1 with q | q
    · exact .inl q
    · exact .inr ⟨q, PySem.W.cellsFrom_some _ _ _ (.inl q)⟩
  refine codeAny_call_function hr.depth (KX _ _ lk) rfl S.co S.gen rfl (PySem.W.codeRec_of KX hcd) (hb _ _ _ _ ?_)
  refine wpAny_newFunctionEnv_cells S.kind hkind fun env he s1 x => ?_
  subst he
  refine ⟨lim.keeps x.toInCall.keep, codeAny_func ?_⟩
  obtain ⟨t, ht, hq⟩ := hbody A outer s H vs Q E (hr.deeper _) hsp
  have I : Inv (cxOf CX P w K mg base N qual scope f cdv A outer s H E) [] (start N vs) H s1 := inv_start S hr.hd e0 hl r x
  refine wpAny_mono (ht [] s1 (start N vs) H _ I hq) (fun fl s' hs => ?_) fun e s' hs => hs
  have fin : ∀ {σ' : St} {H' : Hp} {v : V} {u : Value}, Inv (cxOf CX P w K mg base N qual scope f cdv A outer s H E) [] σ' H' s' → RelV v u → Q v H' → CE outer P w H s Q u s' :=
    fun {σ' H' v u} J rv q => ⟨v, H', J.os, J.bare, J.base, J.hok, rv, q⟩
  cases fl with
  | ret u =>
    obtain ⟨v, σ', H', J, rv, q⟩ := hs
    exact fin J rv q
  | next =>
    obtain ⟨σ', H', J, q⟩ := hs
    exact fin (v := V.non) (u := Value.none) J rfl q
  | brk =>
    obtain ⟨_, _, _, q⟩ := hs
    exact False.elim q
  | cont =>
    obtain ⟨_, _, _, q⟩ := hs
    exact False.elim q
end L2

namespace L2
open PySem PySem.Spec PyProof.Rows
section
variable {X : Cx} {x : Str} {p pos : Pos} {e : Expr} {es : List Expr} {t : TA} {id T : String} {r : List V → Hp → VK → Prop}

def tCB (r : List V → Hp → VK → Prop) (t : TA) : TE := fun σ H Q => t σ H fun vs H1 => r vs H1 Q
/-- f(e, ..), f a built-in function -/
theorem pe_callB (hc : CallR X (.builtin id) r) (hg : Gl X x) (hm : X.mg x = none) (hv : bootBuiltins x = some (.builtin id)) (ha : PA X (e :: es) t) (hn : x ≠ "__name__" := by decide) (hdb : (x == ("__debug__" : Str)) = false := by decide)
    (he : starEach (e :: es) X.env = (false, eval e X.env) :: starEach es X.env := by rfl) (hpl : (backTo pos (starEach es X.env)).any (·.1) = false := by rfl) : PE X (.Call (.Name x p) (e :: es) [] pos) (tCB r t) := by
  intro pins s σ H Q I h
  refine wpAny_Call_Name_kw (ld_blt I hg hm hv ?_ hn hdb)
  exact PyProof.Rows.callWith_builtin1 (thn (ha pos pins s σ H _ I h) fun us s1 ⟨vs, H1, I1, r1, q1⟩ => hc pins s1 σ H1 vs us Q I1 r1 q1) he hpl
end
end L2

namespace HT
open PySem PyProof.Rows



section
open PySem.SeqAt
open PySem.AutoSeq1 (wpAny_loadPart')
open PySem.MeetsSeq PySem.MeetsSeq2 PySem.MeetsSeq3

end

section
variable {prog : Program} {w : World} {A : Around} {E : Value → Shared → Prop} {s : Shared}



/-! ### t[a:b], not the whole -/
/-- a slice's bound as a place among n (d where it is left out) -/
def sIx (n d : Nat) : Option Int → Nat
  | none => d
  | some v => if v < 0 then (v + (n : Int)).toNat else min v.toNat n
theorem sIx_none (n d : Nat) : sIx n d none = d := rfl
theorem sIx_nat (n d k : Nat) : sIx n d (some (k : Int)) = min k n := by
  show (if (k : Int) < 0 then ((k : Int) + (n : Int)).toNat else min (k : Int).toNat n) = min k n
  rw [if_neg (by omega), Int.toNat_natCast]

end
end HT

namespace L2
open PySem PySem.Spec PyProof.Rows

/-! ### the parts of a slice -/
abbrev TO := St → Hp → (Option Int → Hp → Prop) → Prop
/-- a slice's part (left out, or an int) -/
def PO (X : Cx) (e : Option Expr) (t : TO) : Prop :=
  ∀ (pins : List (Addr × Obj)) (s : Shared) (σ : St) (H : Hp) (Q : Option Int → Hp → Prop), Inv X pins σ H s → t σ H Q →
    wpAny (model X.prog X.w) X.A (evalPart e X.env) (fun u s' => ∃ o H', Inv X pins σ H' s' ∧ IsPart u o ∧ Q o H') X.xe s
def tNoPart : TO := fun _ H Q => Q none H
def tPart (t : TE) : TO := fun σ H Q => t σ H fun x H1 => ∃ i, x = .int i ∧ Q (some i) H1


section
variable {X : Cx} {e : Expr} {te : TE} {lo hi : Option Expr} {tl th : TO} {pos p2 : Pos}

theorem po_none : PO X none tNoPart := by
  intro pins s σ H Q I h
  rw [evalPart_none]
  exact wpAny_pure ⟨none, H, I, .none, h⟩
theorem po_some (h : PE X e te) : PO X (some e) (tPart te) := by
  intro pins s σ H Q I hw
  rw [evalPart_some]
  refine thn (h pins s σ H _ I hw) fun u s1 ⟨x, H1, I1, r1, q1⟩ => ?_
  obtain ⟨i, rfl, q⟩ := q1
  obtain ⟨t, rfl⟩ := r1
  exact ⟨some i, H1, I1, .int i t, q⟩

/-- what a slice of a value is, by values: the slice object stands at sl -/
def SlR (X : Cx) (r : V → Option Int → Option Int → Hp → VK → Prop) : Prop :=
  ∀ (pins : List (Addr × Obj)) (s : Shared) (σ : St) (H : Hp) (x : V) (v vl vu : Value) (lo hi : Option Int) (sl : Addr) (Q : VK), Inv X pins σ H s → RelV x v → s.heap.IsSliceOf sl vl vu .none → IsPart vl lo → IsPart vu hi → r x lo hi H Q →
    ∃ T id, typeLookup (.type T) "__getitem__" = pure (some (.builtin id)) ∧ s.TypeIs v T ∧ wpAny (model X.prog X.w) X.A (getItem v (.ref sl)) (EP X pins σ Q) X.xe s
def tSl (r : V → Option Int → Option Int → Hp → VK → Prop) (te : TE) (tl th : TO) : TE := fun σ H Q => te σ H fun x H1 => tl σ H1 fun l H2 => th σ H2 fun u H3 => r x l u H3 Q
/-- a[lo:hi], any a -/
theorem pe_slice {r : V → Option Int → Option Int → Hp → VK → Prop} (hr : SlR X r) (he : PE X e te) (hl : PO X lo tl) (hu : PO X hi th) : PE X (.Subscript e (.Slice lo hi none p2) pos) (tSl r te tl th) := by
  intro pins s σ H Q I h
  refine Subscript_ (thn (he pins s σ H _ I h) fun v s1 ⟨x, H1, I1, r1, q1⟩ => ?_)
  refine wpAny_Slice (thn (hl pins s1 σ H1 _ I1 q1) fun vl s2 ⟨l, H2, I2, pl, q2⟩ => thn (hu pins s2 σ H2 _ I2 q2) fun vu s3 ⟨u, H3, I3, pu, q3⟩ => ?_)
  rw [evalPart_none]
  refine wpAny_pure ?_
  have I4 : Inv X pins σ H3 { s3 with heap := s3.heap.push { cls := .type "slice", data := .fields #[vl, vu, .none] } } := I3.kept (t' := s3.toks) fun b ob q => Heap.get?_push_of_some _ q
  obtain ⟨T, id, hT, ht, hg⟩ := hr pins { s3 with heap := s3.heap.push { cls := .type "slice", data := .fields #[vl, vu, .none] } } σ H3 x v vl vu l u s3.heap.objs.size Q I4 r1 (Heap.IsSliceOf.new ..) pl pu q3
  show wpAny (model X.prog X.w) X.A (subscriptTail e (.Slice lo hi none p2) v (.ref s3.heap.objs.size)) (EP X pins σ Q) X.xe { s3 with heap := s3.heap.push { cls := .type "slice", data := .fields #[vl, vu, .none] } }
  exact tail_any (ops := [.ref s3.heap.objs.size, v]) ht hT hg (by with_unfolding_all rfl)

/-- the items of xs[lo:hi] -/
def cutV (xs : List V) (lo hi : Option Int) : List V := (xs.drop (HT.sIx xs.length 0 lo)).take (HT.sIx xs.length xs.length hi - HT.sIx xs.length 0 lo)
theorem cutV_length (xs : List V) (lo hi : Option Int) : (cutV xs lo hi).length ≤ xs.length := by
  unfold cutV
  rw [List.length_take, List.length_drop]
  omega

/-! ### t < u, t + u -/
end
end L2

namespace L2
open PySem PySem.Spec PyProof.Rows

/-! ### places -/
/-- the place that an index of any sign means -/
def ixN (n : Nat) (i : Int) : Option Nat := if 0 ≤ i then (if i < n then some i.toNat else none) else if -(n : Int) ≤ i then some (i + n).toNat else none
def atI {α : Type} (xs : List α) (i : Int) : Option α := (ixN xs.length i).bind fun j => xs[j]?
theorem ixN_seq {n : Nat} {i : Int} {j : Nat} (h : ixN n i = some j) : seqIndex? i n = some j ∧ j < n ∧ -(n : Int) ≤ i ∧ i < n := by
  unfold ixN at h
  by_cases h0 : 0 ≤ i
  · rw [if_pos h0] at h
    by_cases h1 : i < n
    · rw [if_pos h1] at h
      have e : i.toNat = j := Option.some.inj h
      exact ⟨by rw [seqIndex_of h0 h1, e], by omega, by omega, h1⟩
    · rw [if_neg h1] at h; cases h
  · rw [if_neg h0] at h
    by_cases h1 : -(n : Int) ≤ i
    · rw [if_pos h1] at h
      have e : (i + n).toNat = j := Option.some.inj h
      exact ⟨by rw [seqIndex_neg (by omega) h1, e], by omega, h1, by omega⟩
    · rw [if_neg h1] at h; cases h
theorem atI_get {α : Type} {xs : List α} {i : Int} {v : α} (h : atI xs i = some v) : ∃ j, seqIndex? i xs.length = some j ∧ xs[j]? = some v ∧ j < xs.length ∧ -(xs.length : Int) ≤ i ∧ i < xs.length := by
  unfold atI at h
  cases e : ixN xs.length i with
  | none => rw [e] at h; cases h
  | some j =>
    rw [e] at h
    obtain ⟨h1, h2, h3, h4⟩ := ixN_seq e
    exact ⟨j, h1, h, h2, h3, h4⟩
theorem atI_nat {α : Type} {xs : List α} {j : Nat} {v : α} (h : xs[j]? = some v) : atI xs (j : Int) = some v := by
  have hj : j < xs.length := (List.getElem?_eq_some_iff.mp h).1
  have e : ixN xs.length (j : Int) = some j := by
    unfold ixN
    rw [if_pos (by omega), if_pos (by omega)]; simp
  unfold atI; rw [e]; exact h

/-! ### what may be subscripted -/
/-- what stands as an index of a plain subscript -/
def PlainIx (b : Expr) : Prop := ∀ o i, subscripted b false o i = operate [o, i] (getItem o i)
/-- a subscript by values -/
def IxR (X : Cx) (r : R2) : Prop :=
  ∀ (value slice : Expr) (pins : List (Addr × Obj)) (s : Shared) (σ : St) (H : Hp) (x y : V) (v u : Value) (Q : VK), Inv X pins σ H s → RelV x v → RelV y u → r x y H Q →
    subscripted slice false v u = operate [v, u] (getItem v u) → wpAny (model X.prog X.w) X.A (subscriptTail value slice v u) (EP X pins σ Q) X.xe s
/-- a call of a builtin's method by values: the receiver, the arguments -/
def MtR (X : Cx) (id : String) (r : V → List V → Hp → VK → Prop) : Prop :=
  ∀ (pins : List (Addr × Obj)) (s : Shared) (σ : St) (H : Hp) (x : V) (xs : List V) (v : Value) (us : List Value) (Q : VK), Inv X pins σ H s → RelV x v → Vals xs us → r x xs H Q →
    wpAny (model X.prog X.w) X.A (call (.builtin id) (v :: us)) (EP X pins σ Q) X.xe s
section
variable {X : Cx} {a b : Expr} {ta tb : TE} {pos : Pos}
/-- a[b] -/
theorem pe_ix {r : R2} (hr : IxR X r) (ha : PE X a ta) (hb : PE X b tb) (hs : PlainIx b) : PE X (.Subscript a b pos) (tOp r ta tb) := by
  intro pins s σ H Q I h
  exact Subscript_ (binT ha hb I h fun v u s2 x y H2 I2 rx ry q => hr a b pins s2 σ H2 x y v u Q I2 rx ry q (hs _ _))

def rIxL (K : PySem.W.Frag) : R2 := fun x y H Q => ∃ p xs i v, x = .ref p ∧ y = .int i ∧ SqL K H p xs ∧ atI xs i = some v ∧ Q v H
theorem ix_list : IxR X (rIxL X.K) := by
  intro value slice pins s σ H x y v u Q I rx ry h hs
  obtain ⟨p, xs, i, z, rfl, rfl, hq, he, q⟩ := h
  cases rx
  obtain ⟨t, rfl⟩ := ry
  obtain ⟨its, r, pl, hz⟩ := I.list hq
  obtain ⟨j, h1, h2, h3, h4, h5⟩ := atI_get he
  obtain ⟨w, ew, rw'⟩ := r.get h2
  have hl := r.length
  have hn := line63
  have fin : EP X pins σ Q w s := ⟨z, H, I, rw', q⟩
  by_cases h0 : 0 ≤ i
  · have hj : i.toNat = j := by
      rw [seqIndex_of h0 h5] at h1
      exact Option.some.inj h1
    exact item_listR pl.isList h0 (by omega) (by rw [hj]; simpa using ew) fin hs
  · have hj : (i + (its.toArray.size : Int)).toNat = j := by
      rw [seqIndex_neg (by omega) h4] at h1
      rw [List.size_toArray, ← hl]
      exact Option.some.inj h1
    exact subscriptTail_builtinR (x := w) pl.isList.typeIs slot_list_getitem.lookup
      (wpAny_getItem_list_neg (Q := fun r s' => r = w ∧ EP X pins σ Q r s') pl.isList (by omega) (by rw [List.size_toArray] <;> omega) (by omega) (by rw [hj]; simpa using ew) ⟨rfl, fin⟩) hs

/-! ### xs[i] = v, any sign -/
/-- the list's object behind a store -/
theorem mapSeq_set (its : List Value) (n j : Nat) (u : Value) : Obj.mapSeq (·.setIfInBounds j u) { cls := .type "list", data := .seq its.toArray n } = { cls := .type "list", data := .seq (its.set j u).toArray n } := by
  simp [Obj.mapSeq]
theorem Inv.lst {pins : List (Addr × Obj)} {σ : St} {H : Hp} {s : Shared} {p : Addr} {xs : List V} (I : Inv X pins σ H s) (h : H p = some (.lst xs)) :
    ∃ (its : List Value) (n : Nat), Vals xs its ∧ s.heap.get? p = some { cls := .type "list", data := .seq its.toArray n } ∧ xs.length ≤ sizeLine := by
  obtain ⟨z, its, n, r, e⟩ := I.hok p _ h
  exact ⟨its, n, r, e, z⟩
/-- the list at p is written by an update of its object -/
theorem Inv.lstUpd {pins : List (Addr × Obj)} {σ : St} {H : Hp} {s : Shared} {p : Addr} {xs ys : List V} {its its' : List Value} {n n' : Nat} {f : Obj → Obj} (I : Inv X pins σ H s) (h : H p = some (.lst xs))
    (ho : s.heap.get? p = some { cls := .type "list", data := .seq its.toArray n }) (hf : f { cls := .type "list", data := .seq its.toArray n } = { cls := .type "list", data := .seq its'.toArray n' }) (r : Vals ys its') (hz : ys.length ≤ sizeLine) (t : Nat) :
    Inv X pins σ (upd H p (.lst ys)) { s with heap := s.heap.update p f, toks := t } := by
  have e : (s.heap.update p f).get? p = some { cls := .type "list", data := .seq its'.toArray n' } := by
    rw [Heap.get?_update_self f ho (by rw [hf] <;> rfl), hf]
  refine I.write (x := p) (e := p) (by rw [h]; trivial) (.inl rfl) (fun b u hb q => (Heap.get?_update_other _ _ (Ne.symm hb)).trans q) ⟨_, e⟩ ?_
  exact ⟨hz, its', n', r, e⟩
def rSetL : V → V → V → Hp → (Hp → Prop) → Prop := fun o i v H Q => ∃ p xs k j, o = .ref p ∧ i = .int k ∧ H p = some (.lst xs) ∧ ixN xs.length k = some j ∧ Q (upd H p (.lst (xs.set j v)))
theorem set_list : PSet X rSetL := by
  intro pins s σ H o i v ov iv u Q I ro ri rv h
  obtain ⟨p, xs, k, j, rfl, rfl, hp, hj, q⟩ := h
  cases ro
  obtain ⟨t, rfl⟩ := ri
  obtain ⟨its, n, r, ho, hz⟩ := I.lst hp
  obtain ⟨h1, h2, h3, h4⟩ := ixN_seq hj
  have hl := r.length
  have hn := line63
  have I' : Inv X pins σ (upd H p (.lst (xs.set j v))) { s with heap := s.heap.update p (Obj.mapSeq (·.setIfInBounds j u)) } :=
    I.lstUpd hp ho (mapSeq_set its n j u) (r.set rv j) (by rw [List.length_set]; exact hz) s.toks
  by_cases h0 : 0 ≤ k
  · have hk : k.toNat = j := by
      rw [seqIndex_of h0 h4] at h1
      exact Option.some.inj h1
    exact PySem.W.ki_setAt ho h0 (by omega) (by rw [List.size_toArray, ← hl]; exact h4) (by rw [hk]; exact ⟨_, I', q⟩)
  · have hk : (k + (its.toArray.size : Int)).toNat = j := by
      rw [seqIndex_neg (by omega) h3] at h1
      rw [List.size_toArray, ← hl]
      exact Option.some.inj h1
    exact PySem.W.ki_setBack ho (by omega) (by rw [List.size_toArray, ← hl]; exact h3) (by omega) (by rw [hk]; exact ⟨_, I', q⟩)

/-! ### slices -/
theorem slice_bounds (lo hi : Option Int) (n : Nat) : (sliceBounds lo hi none n).1 = ((HT.sIx n 0 lo : Nat) : Int) ∧ (sliceBounds lo hi none n).2.1 = ((HT.sIx n n hi : Nat) : Int) ∧ (sliceBounds lo hi none n).2.2 = 1 := by
  refine ⟨?_, ?_, rfl⟩
  · cases lo with
    | none => simp [sliceBounds, HT.sIx]
    | some i =>
      simp only [sliceBounds, HT.sIx, Option.getD_none, show (1 : Int) > 0 by decide, if_true]
      by_cases h : i < 0
      · simp only [h, if_true] <;> omega
      · simp only [h, if_false] <;> omega
  · cases hi with
    | none => simp [sliceBounds, HT.sIx]
    | some i =>
      simp only [sliceBounds, HT.sIx, Option.getD_none, show (1 : Int) > 0 by decide, if_true]
      by_cases h : i < 0
      · simp only [h, if_true] <;> omega
      · simp only [h, if_false] <;> omega
theorem slicePick_cut (its : List Value) (lo hi : Option Int) : slicePick its.toArray lo hi none = ((its.drop (HT.sIx its.length 0 lo)).take (HT.sIx its.length its.length hi - HT.sIx its.length 0 lo)).toArray := by
  obtain ⟨h1, h2, h3⟩ := slice_bounds lo hi its.toArray.size
  unfold slicePick
  rw [h1, h2, h3]
  simp only [sliceRange_one, pick_run, List.size_toArray] <;> rfl
/-- xs[lo:hi] of a list: a new list -/
def rSlL (K : PySem.W.Frag) : V → Option Int → Option Int → Hp → VK → Prop := fun x lo hi H Q => ∃ a xs, x = .ref a ∧ SqL K H a xs ∧ ∀ p, H p = none → Q (.ref p) (upd H p (.lst (cutV xs lo hi)))
theorem sl_list : SlR X (rSlL X.K) := by
  intro pins s σ H x v vl vu lo hi sl Q I rx hs pl pu h
  obtain ⟨a, xs, rfl, hx, q⟩ := h
  cases rx
  obtain ⟨its, r, ht, hz⟩ := I.list hx
  have hlen := r.length
  refine ⟨"list", _, slot_list_getitem.lookup, ht.isList.typeIs, ?_⟩
  refine wpAny_getItem_list_slice ht.isList hs pl pu .none (by simp) ?_ (by rw [List.size_toArray] <;> omega)
  rw [slicePick_cut, ← hlen]
  refine ⟨.ref s.heap.objs.size, _, I.laid (t' := s.toks) (o := .lst (cutV xs lo hi)) (fun b ob q => Heap.get?_push_of_some _ q) (Nat.le_refl _) ?_, rfl, q _ (I.hok.fresh (Nat.le_refl _))⟩
  exact ⟨Nat.le_trans (cutV_length xs lo hi) hz, _, 0, (r.drop (HT.sIx xs.length 0 lo)).take (HT.sIx xs.length xs.length hi - HT.sIx xs.length 0 lo), Heap.get?_push_size _ rfl⟩

/-! ### in, not in: flat items -/
def flatV : V → Bool
  | .non => true
  | .bl _ => true
  | .int _ => true
  | .str _ => true
  | _ => false
/-- == of flat values -/
def eqV : V → V → Bool
  | .non, .non => true
  | .bl a, .bl b => a == b
  | .bl a, .int b => (if a then 1 else 0) == b
  | .int a, .bl b => a == (if b then 1 else 0)
  | .int a, .int b => a == b
  | .str a, .str b => a == b
  | _, _ => false
theorem eqAt_V {A : Around} {s : Shared} {y x : V} {u v : Value} (ry : RelV y u) (rx : RelV x v) (fy : flatV y = true) (fx : flatV x = true) : SeqAt.EqAt A s u v (eqV y x) := by
  cases y with
  | non =>
    cases ry
    cases x with
    | non => cases rx; exact SeqAt.EqAt.same _
    | bl b => cases rx; exact SeqAt.EqAt.none_bool b
    | int b => obtain ⟨t, rfl⟩ := rx; exact SeqAt.EqAt.none_int b t
    | str b => obtain ⟨t, rfl⟩ := rx; exact SeqAt.EqAt.none_str b t
    | _ => exact absurd (show false = true from fx) Bool.false_ne_true
  | bl a =>
    cases ry
    cases x with
    | non => cases rx; exact SeqAt.EqAt.bool_none a
    | bl b => cases rx; exact SeqAt.EqAt.bool_bool a b
    | int b => obtain ⟨t, rfl⟩ := rx; exact SeqAt.EqAt.bool_int a b t
    | str b => obtain ⟨t, rfl⟩ := rx; exact SeqAt.EqAt.bool_str a b t
    | _ => exact absurd (show false = true from fx) Bool.false_ne_true
  | int a =>
    obtain ⟨t', rfl⟩ := ry
    cases x with
    | non => cases rx; exact SeqAt.EqAt.int_none a t'
    | bl b => cases rx; exact SeqAt.EqAt.int_bool a t' b
    | int b => obtain ⟨t, rfl⟩ := rx; exact SeqAt.EqAt.int_int a t' b t
    | str b => obtain ⟨t, rfl⟩ := rx; exact SeqAt.EqAt.int_str a t' b t
    | _ => exact absurd (show false = true from fx) Bool.false_ne_true
  | str a =>
    obtain ⟨t', rfl⟩ := ry
    cases x with
    | non => cases rx; exact SeqAt.EqAt.str_none a t'
    | bl b => cases rx; exact SeqAt.EqAt.str_bool a t' b
    | int b => obtain ⟨t, rfl⟩ := rx; exact SeqAt.EqAt.str_int a t' b t
    | str b => obtain ⟨t, rfl⟩ := rx; exact SeqAt.EqAt.str_str a t' b t
    | _ => exact absurd (show false = true from fx) Bool.false_ne_true
  | _ => exact absurd (show false = true from fy) Bool.false_ne_true
/-- the items' answers, read off the values (a value's own answer does not lean on its token) -/
def eqU (x : V) (u : Value) : Bool := match u with
  | .none => eqV .non x
  | .bool b => eqV (.bl b) x
  | .int i _ => eqV (.int i) x
  | .str z _ => eqV (.str z) x
  | _ => false
theorem eqU_of {x y : V} {u : Value} (r : RelV y u) (f : flatV y = true) : eqU x u = eqV y x := by
  cases y with
  | non => cases r; rfl
  | bl b => cases r; rfl
  | int i => obtain ⟨t, rfl⟩ := r; rfl
  | str z => obtain ⟨t, rfl⟩ := r; rfl
  | _ => exact absurd (show false = true from f) Bool.false_ne_true
theorem any_eqU {x : V} : ∀ {xs : List V} {us : List Value}, Vals xs us → xs.all flatV = true → us.any (eqU x) = xs.any fun y => eqV y x
  | _, _, .nil, _ => rfl
  | y :: xs, u :: us, .cons r t, f => by
    rw [List.all_cons, Bool.and_eq_true] at f
    rw [List.any_cons, List.any_cons, eqU_of r f.1, any_eqU t f.2]
theorem mem_eqAt {A : Around} {s : Shared} {x : V} {v : Value} (rx : RelV x v) (fx : flatV x = true) : ∀ {xs : List V} {us : List Value}, Vals xs us → xs.all flatV = true → ∀ u ∈ us, SeqAt.EqAt A s u v (eqU x u)
  | _, _, .nil, _ => fun u hu => by cases hu
  | y :: xs, u :: us, .cons r t, f => fun u' hu => by
    rw [List.all_cons, Bool.and_eq_true] at f
    rcases List.mem_cons.mp hu with rfl | hu
    · rw [eqU_of r f.1]; exact eqAt_V r rx f.1 fx
    · exact mem_eqAt rx fx t f.2 u' hu
def inV (x : V) (xs : List V) : Bool := xs.any fun y => eqV y x
/-- x in a list or tuple of flat items -/
def rIn (K : PySem.W.Frag) (neg : Bool) : R2 := fun x y H Q => ∃ p xs, y = .ref p ∧ (SqL K H p xs ∨ SqT K H p xs) ∧ flatV x = true ∧ xs.all flatV = true ∧ Q (.bl (if neg then !inV x xs else inV x xs)) H
theorem op_notIn_seq : OpR X (compareOp .NotIn) (rIn X.K true) := by
  intro pins s σ H x y v u Q I rx ry h
  obtain ⟨p, xs, rfl, hq, fx, fs, q⟩ := h
  cases ry
  rcases hq with hq | hq
  · obtain ⟨its, r, pl, hz⟩ := I.list hq
    refine SeqAt.notIn_listAt (eqU x) pl.isList (fun w hw => mem_eqAt rx fx r fs w (by simpa using hw)) ⟨.bl _, H, I, rfl, ?_⟩
    rw [show its.toArray.any (eqU x) = its.any (eqU x) by simp, any_eqU r fs]
    exact q
  · obtain ⟨its, r, pl, hz⟩ := I.tuple hq
    refine SeqAt.notIn_tupleAt (eqU x) pl (fun w hw => mem_eqAt rx fx r fs w (by simpa using hw)) ⟨.bl _, H, I, rfl, ?_⟩
    rw [show its.toArray.any (eqU x) = its.any (eqU x) by simp, any_eqU r fs]
    exact q

/-! ### len, list(x), tuple(x) of any list or tuple that is read -/

/-! ### the call of a builtin's method: o.m(..) -/
/-- the value is of that builtin type -/
def tyV (K : PySem.W.Frag) (T : String) (x : V) (H : Hp) : Prop := match x with
  | .str _ => T = "str"
  | .int _ => T = "int"
  | .ref p => (T = "list" ∧ ∃ xs, SqL K H p xs) ∨ (T = "tuple" ∧ ∃ o, K.lookup p = some o ∧ o.cls = .type "tuple" ∧ o.dict = none) ∨
      (T = "dict" ∧ ((∃ kvs, H p = some (.dK kvs)) ∨ ∃ kvs, H p = some (.dT kvs))) ∨ (T = "set" ∧ ∃ S n, H p = some (.set S n))
  | _ => False
theorem tyV_is {pins : List (Addr × Obj)} {σ : St} {H : Hp} {s : Shared} {T : String} {x : V} {v : Value} (I : Inv X pins σ H s) (r : RelV x v) (ty : tyV X.K T x H) :
    s.TypeIs v T ∧ ∀ a, v = .ref a → ∃ ob, s.heap.get? a = some ob ∧ ob.dict = none := by
  cases x with
  | str z =>
    obtain ⟨t, rfl⟩ := r
    cases (show T = "str" from ty)
    exact ⟨typeIs_str s z t, fun _ e => nomatch e⟩
  | int i =>
    obtain ⟨t, rfl⟩ := r
    cases (show T = "int" from ty)
    exact ⟨typeIs_int s i t, fun _ e => nomatch e⟩
  | ref p =>
    cases r
    rcases ty with ⟨rfl, xs, hq⟩ | ⟨rfl, o, hk, hc, hd⟩ | ⟨rfl, hk⟩ | ⟨rfl, S, n, hk⟩
    · obtain ⟨its, _, pl, _⟩ := I.list hq
      refine ⟨pl.isList.typeIs, fun a e => ?_⟩
      cases e
      obtain ⟨o, n, e, c, hd, _⟩ := pl
      exact ⟨o, e, hd⟩
    · refine ⟨⟨o, I.kIn p o hk, hc⟩, fun a e => ?_⟩
      cases e
      exact ⟨o, I.kIn _ o hk, hd⟩
    · have z : ∃ o, s.heap.get? p = some o ∧ o.ExactDict := by
        rcases hk with ⟨kvs, hk⟩ | ⟨kvs, hk⟩
        · obtain ⟨_, _, _, _, o, _, _, e, ex, _⟩ := I.hok p _ hk
          exact ⟨o, e, ex⟩
        · obtain ⟨_, _, _, _, o, _, _, e, ex, _⟩ := I.hok p _ hk
          exact ⟨o, e, ex⟩
      obtain ⟨o, e, ex⟩ := z
      refine ⟨⟨o, e, ex.1⟩, fun a e2 => ?_⟩
      cases e2
      exact ⟨o, e, ex.2.1⟩
    · obtain ⟨o, _, _, _, e, ex, _⟩ := I.hok p _ hk
      refine ⟨⟨o, e, ex.1⟩, fun a e2 => ?_⟩
      cases e2
      exact ⟨o, e, ex.2.1⟩
  | _ => exact False.elim ty
def tBM (K : PySem.W.Frag) (T : String) (r : V → List V → Hp → VK → Prop) (to : TE) (t : TA) : TE := fun σ H Q => to σ H fun x H1 => tyV K T x H1 ∧ t σ H1 fun xs H2 => r x xs H2 Q
variable {o e : Expr} {es : List Expr} {to : TE} {t : TA} {name : Str} {apos cpos : Pos} {T id : String} {r : V → List V → Hp → VK → Prop}
theorem pe_bm (pa : PlainAttrs T) (slot : Slot T name id) (hty : typeOf (.builtin id) = pure (.type "method_descriptor")) (hm : MtR X id r) (ho : PE X o to) (ha : PA X (e :: es) t)
    (hbase : attributeBase o name X.env (eval o X.env) = eval o X.env := by rfl)
    (hfew : ((backTo cpos (starEach (e :: es) X.env)).all (fun x => !x.1) && (backToKw cpos (keywordEach [] X.env)).all (fun x => x.1.isSome)
      && decide ((e :: es).length + ([] : List Keyword).length + (if ([] : List Keyword).isEmpty then 0 else 1) < 30)) = true := by rfl)
    (hline : (apos.endLine == cpos.line) = true := by rfl) (hs : starEach (e :: es) X.env = (false, eval e X.env) :: starEach es X.env := by rfl) (hplain : (backTo cpos (starEach es X.env)).any (·.1) = false := by rfl) :
    PE X (.Call (.Attribute o name apos) (e :: es) [] cpos) (tBM X.K T r to t) := by
  intro pins s σ H Q I h
  refine wpAny_Call_method_late hbase hfew hline rfl (thn (ho pins s σ H _ I h) fun v s1 ⟨x, H1, I1, r1, ty, q1⟩ => ?_)
  obtain ⟨h1, h2⟩ := tyV_is I1 r1 ty
  refine ⟨T, id, pa, slot, hty, h1, h2, ?_⟩
  have hA := ha cpos pins s1 σ H1 _ I1 q1
  rw [hs] at hA ⊢
  refine Calls.callWith_builtin (by show (false || (backTo cpos (starEach es X.env)).any (·.1)) = false; rw [hplain] <;> rfl) (Calls.evalArgs_plain ?_)
  exact thn hA fun us s2 ⟨vs, H2, I2, r2, q2⟩ => hm pins s2 σ H2 x vs v us Q I2 r1 r2 q2
/- xs.append(e), list.index on a module's tuple .. are MtR facts of 06m -/
end
end L2

namespace L2
open PySem PySem.Spec PyProof.Rows

def MtM (X : Cx) (id : String) (r : V → List V → Hp → VK → Prop) : Prop :=
  ∀ (pins : List (Addr × Obj)) (s : Shared) (σ : St) (H : Hp) (x : V) (xs : List V) (v : Value) (us : List Value) (Q : VK), Inv X pins σ H s → RelV x v → Vals xs us → r x xs H Q →
    wpAny (model X.prog X.w) X.A (call (.builtin id) (v :: us)) (EP X pins σ Q) X.xe s

/-! ### lists of values -/
theorem Vals.one : ∀ {x : V} {us : List Value}, Vals [x] us → ∃ u, us = [u] ∧ RelV x u
  | _, _, .cons r .nil => ⟨_, rfl, r⟩
theorem Vals.rep {xs : List V} {us : List Value} (h : Vals xs us) : ∀ k : Nat, Vals (List.replicate k xs).flatten (List.replicate k us).flatten
  | 0 => .nil
  | k + 1 => by
    rw [List.replicate_succ, List.replicate_succ, List.flatten_cons, List.flatten_cons]
    exact Vals.append h (Vals.rep h k)
theorem foldl_rep (its : List Value) : ∀ (k : Nat) (acc : List Value),
    List.foldl (fun x1 x2 => x1 ++ x2) acc.toArray (List.replicate k its.toArray) = (acc ++ (List.replicate k its).flatten).toArray
  | 0, acc => by simp
  | k + 1, acc => by
    have e : acc.toArray ++ its.toArray = (acc ++ its).toArray := by simp
    have e2 : (acc ++ its) ++ (List.replicate k its).flatten = acc ++ (List.replicate (k + 1) its).flatten := by
      rw [List.replicate_succ, List.flatten_cons, List.append_assoc]
    rw [← e2, ← foldl_rep its k (acc ++ its), ← e, List.replicate_succ, List.foldl_cons]

section
variable {X : Cx} {pins : List (Addr × Obj)} {σ : St} {H : Hp} {s : Shared} {l b : Addr} {xs ys zs : List V}

/-! ### the two steps: a tracked list is rewritten, a new list is laid -/
theorem Inv.lset {its its' : List Value} {n : Nat} {f : Array Value → Array Value} {t' : Nat} (I : Inv X pins σ H s) (hH : H l = some (.lst xs))
    (e : s.heap.get? l = some { cls := .type "list", data := .seq its.toArray n }) (hf : f its.toArray = its'.toArray) (hv : Vals ys its') (hz : ys.length ≤ sizeLine) :
    Inv X pins σ (upd H l (.lst ys)) { s with heap := s.heap.update l (Obj.mapSeq f), toks := t' } := by
  have q := PySem.IsL.update e f
  rw [hf] at q
  refine I.write (x := l) (e := l) (by rw [hH]; exact trivial) (.inl rfl) (fun b' u hb hu => (Heap.get?_update_other s.heap (Obj.mapSeq f) (Ne.symm hb)).trans hu) ⟨_, q⟩ ?_
  exact ⟨hz, its', _, hv, q⟩
theorem Inv.lnew {its : List Value} {t' : Nat} (I : Inv X pins σ H s) (hv : Vals ys its) (hz : ys.length ≤ sizeLine) :
    Inv X pins σ (upd H s.heap.objs.size (.lst ys)) { s with heap := s.heap.push { cls := .type "list", data := .seq its.toArray }, toks := t' } :=
  I.laid (fun _ _ q => Heap.get?_push_of_some _ q) (Nat.le_refl _) ⟨hz, its, 0, hv, Heap.get?_push_size _ rfl⟩
theorem Inv.fresh (I : Inv X pins σ H s) : H s.heap.objs.size = none := I.hok.fresh (Nat.le_refl _)
theorem Inv.lstM (I : Inv X pins σ H s) (hH : H l = some (.lst xs)) : xs.length ≤ sizeLine ∧ ∃ (its : List Value) (n : Nat), Vals xs its ∧ xs.length = its.length ∧ s.heap.get? l = some { cls := .type "list", data := .seq its.toArray n } := by
  obtain ⟨z, its, n, r, e⟩ := I.hok l _ hH
  exact ⟨z, its, n, r, r.length, e⟩

theorem notLongL {n : Nat} (h : n ≤ sizeLine) : Builtin.List.listTooLong n = false := by
  unfold Builtin.List.listTooLong
  exact decide_eq_false (by omega)
end

section
variable {X : Cx}

/-! ### methods -/
def rAppend : V → List V → Hp → VK → Prop := fun x vs H Q => ∃ l xs y, x = .ref l ∧ vs = [y] ∧ H l = some (.lst xs) ∧ xs.length < sizeLine ∧ Q .non (upd H l (.lst (xs ++ [y])))
theorem mt_append : MtM X "list.append" rAppend := by
  intro pins s σ H x vs v us Q I rx rv h
  obtain ⟨l, xs, y, rfl, rfl, hH, hz, q⟩ := h
  cases rx
  obtain ⟨u, rfl, ru⟩ := rv.one
  obtain ⟨z, its, n, r, hl, e⟩ := I.lstM hH
  refine call_meets F.slot_list_append ⟨_, e, rfl⟩ F.entry_list_append (F.args_list_append_2 _ _) (PySem.list_append l its.toArray n u (by rw [List.size_toArray]; omega)) ⟨e, ?_⟩
  refine ⟨.non, _, I.lset (its' := its ++ [u]) hH e (by simp) (r.append (.cons ru .nil)) ?_, rfl, q⟩
  rw [List.length_append, List.length_singleton]
  omega

def rExtend : V → List V → Hp → VK → Prop := fun x vs H Q => ∃ l b xs zs, x = .ref l ∧ vs = [.ref b] ∧ H l = some (.lst xs) ∧ H b = some (.lst zs) ∧ xs.length + zs.length ≤ sizeLine ∧ Q .non (upd H l (.lst (xs ++ zs)))
theorem mt_extend : MtM X "list.extend" rExtend := by
  intro pins s σ H x vs v us Q I rx rv h
  obtain ⟨l, b, xs, zs, rfl, rfl, hH, hB, hz, q⟩ := h
  cases rx
  obtain ⟨u, rfl, ru⟩ := rv.one
  cases ru
  obtain ⟨z, its, n, r, hl, e⟩ := I.lstM hH
  obtain ⟨z2, its2, n2, r2, hl2, e2⟩ := I.lstM hB
  have hsz : its.toArray.size + its2.toArray.size ≤ sizeLine := by rw [List.size_toArray, List.size_toArray]; omega
  have hlong : ¬ (!its.toArray.isEmpty && Builtin.List.listTooLong (its.toArray.size + its2.toArray.size)) = true := by
    rw [notLongL hsz, Bool.and_false]
    exact Bool.false_ne_true
  refine call_meets F.slot_list_extend ⟨_, e, rfl⟩ F.entry_list_extend (F.args_list_extend_2 _ _)
    (AutoSeq1.list_extend_list_list_0 l its.toArray n b its2.toArray n2 hlong (by rw [List.size_toArray]; omega) (by omega)) ⟨e, e2, ?_⟩
  refine ⟨.non, _, I.lset (its' := its ++ its2) hH e (by simp) (r.append r2) ?_, rfl, q⟩
  rw [List.length_append]
  omega





/-! ### list + list, list += list, list * int -/
def rCat : R2 := fun x y H Q => ∃ l b xs zs, x = .ref l ∧ y = .ref b ∧ H l = some (.lst xs) ∧ H b = some (.lst zs) ∧ xs.length + zs.length ≤ sizeLine ∧ ∀ p, H p = none → Q (.ref p) (upd H p (.lst (xs ++ zs)))
theorem op_cat : OpR X (binaryOp .Add) rCat := by
  intro pins s σ H x y v u Q I rx ry h
  obtain ⟨l, b, xs, zs, rfl, rfl, hH, hB, hz, q⟩ := h
  cases rx
  cases ry
  obtain ⟨z, its, n, r, hl, e⟩ := I.lstM hH
  obtain ⟨z2, its2, n2, r2, hl2, e2⟩ := I.lstM hB
  refine PySem.P.add_list e e2 ?_ (by rw [List.size_toArray, List.size_toArray]; omega)
  have ea : its.toArray ++ its2.toArray = (its ++ its2).toArray := by simp
  rw [ea]
  exact ⟨.ref _, _, I.lnew (t' := s.toks) (r.append r2) (by rw [List.length_append]; omega), rfl, q _ I.fresh⟩
/-- a list times an int (a negative one is nothing) -/
def rRep : R2 := fun x y H Q => ∃ l k xs, x = .ref l ∧ y = .int k ∧ H l = some (.lst xs) ∧ -(2 ^ 63) ≤ k ∧ k < 2 ^ 63 ∧ xs.length * k.toNat ≤ sizeLine ∧
  ∀ p, H p = none → Q (.ref p) (upd H p (.lst (List.replicate k.toNat xs).flatten))
theorem len_rep {α : Type} (xs : List α) (k : Nat) : (List.replicate k xs).flatten.length = k * xs.length := by
  induction k with
  | zero => simp
  | succ k ih => rw [List.replicate_succ, List.flatten_cons, List.length_append, ih, Nat.succ_mul, Nat.add_comm]
theorem op_rep : OpR X (binaryOp .Mult) rRep := by
  intro pins s σ H x y v u Q I rx ry h
  obtain ⟨l, k, xs, rfl, rfl, hH, h1, h2, hz, q⟩ := h
  cases rx
  obtain ⟨t, rfl⟩ := ry
  obtain ⟨z, its, n, r, hl, e⟩ := I.lstM hH
  have hlen : its.toArray.size * k.toNat ≤ sizeLine := by rw [List.size_toArray, ← hl]; exact hz
  have hcap : ¬ its.toArray.size * k.toNat > (2 ^ 63 - 1) / 8 := by
    have : (sizeLine : Nat) ≤ (2 ^ 63 - 1) / 8 := by decide
    omega
  have hfit : ¬ (!Builtin.List.listFitsIndex k) = true := by
    rw [fitsIndex_both h1 h2]
    exact Bool.false_ne_true
  have hlong : ¬ Builtin.List.listTooLong (its.toArray.size * k.toNat) = true := by
    rw [notLongL hlen]
    exact Bool.false_ne_true
  have hnew : List.foldl (fun x1 x2 => x1 ++ x2) #[] (List.replicate (if its.toArray.isEmpty = true then 0 else k.toNat) its.toArray) = (List.replicate k.toNat its).flatten.toArray := by
    have f0 : ∀ m : Nat, List.foldl (fun x1 x2 => x1 ++ x2) #[] (List.replicate m its.toArray) = (List.replicate m its).flatten.toArray := fun m => by
      have := foldl_rep its m []
      rw [List.nil_append] at this
      exact this
    rw [f0]
    cases its with
    | nil => simp
    | cons a r' => rw [if_neg (by simp)]
  refine wpAny_binaryOp_repeat_ref (T := "list") (U := "int") (by decide) ⟨_, e, rfl⟩ (fun s' => typeIs_int s' k t) noFill_list_mul F.fills_int_mul F.slot_int_rmul repeat_list F.slot_int_index.lookup
    (call_meets F.slot_int_rmul (typeIs_int s k t) F.entry_int_rmul (F.args_int_rmul_2 _ _) (int___rmul___int_list k t l its.toArray n)
      ⟨e, rfl, ⟨_, e, rfl⟩, call_meets F.slot_list_mul ⟨_, e, rfl⟩ F.entry_list_mul (F.args_list_mul_2 _ _) (AutoListH.list___mul___list_int_3 l its.toArray n k t hfit hcap hlong) ⟨e, ?_⟩⟩)
  rw [hnew]
  exact ⟨.ref _, _, I.lnew (t' := s.toks) (r.rep k.toNat) (by rw [len_rep, Nat.mul_comm]; exact hz), rfl, q _ I.fresh⟩

/-! ### del xs[i] -/
end

/-! ### xs[a:b] = ys -/
section
variable {prog : Program} {w : World} {A : Around} {E : Value → Shared → Prop} {s : Shared}
set_option maxRecDepth 100000 in
end

section
variable {X : Cx}
end
end L2

namespace L2
open PySem PySem.Spec PyProof.Rows

theorem Vals.ints : ∀ {ns : List Int} {us : List Value}, Vals (ns.map V.int) us → IntsAre us ns
  | [], us, h => by
    rw [List.map_nil] at h
    cases h
    exact IntsAre.nil
  | n :: ns, us, h => by
    rw [List.map_cons] at h
    cases h with
    | cons r t =>
      obtain ⟨k, rfl⟩ := r
      exact IntsAre.cons n k (Vals.ints t)
theorem vals_of_ints : ∀ {us : List Value} {ns : List Int}, IntsAre us ns → Vals (ns.map V.int) us
  | _, _, .nil => by rw [List.map_nil]; exact Paired.nil
  | _, _, .cons n t h => by rw [List.map_cons]; exact Paired.cons (show RelV (V.int n) (Value.int n t) from ⟨t, rfl⟩) (vals_of_ints h)
theorem Vals.ref1 {a : Addr} {us : List Value} (r : Vals [V.ref a] us) : us = [Value.ref a] := by
  cases r with
  | cons r t =>
    cases t
    cases r
    rfl

/-! ### the library's walks over a list of ints, kept objects alone -/
section
variable {prog : Program} {w : World} {A : Around} {E : Value → Shared → Prop} {s : Shared} {l : Addr} {its : List Value} {ns : List Int} {Q : Value → Shared → Prop}
theorem sum_raw (hh : A.handled = none) (hl : s.heap.IsList l its.toArray) (hi : IntsAre its ns)
    (h : ∀ h' tk t', (∀ b o, s.heap.get? b = some o → h'.get? b = some o) → Q (.int ns.sum t') { s with heap := h', toks := tk }) : wpAny (model prog w) A (call (.builtin "sum") [.ref l]) Q E s := by
  obtain ⟨xs, e⟩ := hi.allInts.items
  have hn : numsOf (intItems xs).toList = ns := by rw [← e]; exact hi.numsOf
  rw [nums_intItems] at hn
  rw [e] at hl
  refine PySem.sum_intListG hh hl fun h' tk t' hk => ?_
  have := h h' tk t' hk
  rw [preSum_eq, List.take_of_length_le (by simp), hn]; exact this
end

/-! ### the calls, by values (CallR of 03t; MtR of 06l) -/
section
variable {X : Cx}
/-- sum(xs) of a list of ints -/
def rSum (K : PySem.W.Frag) : List V → Hp → VK → Prop := fun vs H Q => ∃ (a : Addr) (ns : List Int), vs = [V.ref a] ∧ SqL K H a (ns.map V.int) ∧ Q (.int ns.sum) H
theorem cr_sum (hc : X.calm = true) : CallR X (.builtin "sum") (rSum X.K) := by
  intro pins s σ H vs us Q I r h
  obtain ⟨a, ns, rfl, hs, q⟩ := h
  obtain ⟨its, rv, hl, _⟩ := I.list hs
  rw [Vals.ref1 r]
  exact sum_raw (I.ok.hd hc) hl.isList rv.ints fun h' tk t' hk => ⟨.int _, H, I.kept hk, ⟨_, rfl⟩, q⟩

/-! sorted, sort (fewer than 64 items: the library's own bound) -/
end

/-! ### list.index, flat items -/
section
variable {X : Cx}
end

/-! ### type(x) of an own instance; is, is not of a module's class -/
section
variable {X : Cx}
end

/-! ### any(xs), all(xs) of a list of bools -/
section
variable {X : Cx}
end

/-! ### == and != of data at any depth: none, bools, ints, texts, lists, tuples -/
section
variable {X : Cx} {pins : List (Addr × Obj)} {σ : St} {H : Hp} {s : Shared}
end
section
variable {X : Cx}
end
end L2

namespace L2
open PySem PySem.Spec PyProof.Rows
abbrev CellAt (h : Heap) (c : Addr) (v : Option Value) : Prop := h.IsCell c v
def relS (scope sc : Scope) : Scope :=
  { scope with names := scope.names.map fun (n, k) => if (k == .free && sc.kind == .function && sc.names.lookup n == some .cell) then (n, .cell) else (n, k) }

def cloFrom (cells : List (Str × Addr)) : List (Str × NameKind) → List (Str × Addr) → List (Str × Addr)
  | [], acc => acc
  | (n, k) :: r, acc => if k == .free then cloFrom cells r ((n, (cells.lookup n).getD 0) :: acc) else cloFrom cells r acc

theorem closure_loop (env : Env) (f : Str × NameKind → List (Str × Addr) → Sem (ForInStep (List (Str × Addr))))
    (hf : ∀ n k c, f (n, k) c = if k == .free then (do let a ← cellOf env n; pure (.yield ((n, a) :: c))) else pure (.yield c)) :
    ∀ (names : List (Str × NameKind)) (acc : List (Str × Addr)), (∀ y ∈ names, y.2 = .free → ∃ c, env.cells.lookup y.1 = some c) → forIn names acc f = pure (cloFrom env.cells names acc)
  | [], acc, _ => by rw [List.forIn_nil]; rfl
  | (n, k) :: r, acc, h => by
    rw [List.forIn_cons, hf]
    have ih := fun acc => closure_loop env f hf r acc fun y hy => h y (List.mem_cons_of_mem _ hy)
    unfold cloFrom
    by_cases hk : (k == NameKind.free) = true
    · rw [if_pos hk, if_pos hk]
      obtain ⟨c, hc⟩ := h (n, k) List.mem_cons_self (by simpa using hk)
      have e : cellOf env n = pure c := by unfold cellOf; rw [hc]
      rw [e]
      have e2 : (env.cells.lookup n).getD 0 = c := by rw [hc]; rfl
      rw [e2]
      exact ih _
    · rw [if_neg hk, if_neg hk]
      exact ih _
theorem closure_ok {scope : Scope} {env : Env} (h : ∀ y ∈ scope.names, y.2 = .free → ∃ c, env.cells.lookup y.1 = some c) : closureFor scope env = pure (cloFrom env.cells scope.names []) := by
  simp only [closureFor]
  rw [closure_loop env _ (fun n k c => rfl) scope.names [] h]
  rfl

theorem mem_lookup {α : Type} : ∀ {l : List (Str × α)} {n : Str} {c : α}, (n, c) ∈ l → ∃ c', l.lookup n = some c'
  | (k, v) :: r, n, c, h => by
    rw [List.lookup_cons]
    cases hb : n == k with
    | true => exact ⟨_, rfl⟩
    | false =>
      rcases List.mem_cons.mp h with e | h
      · cases e; simp at hb
      · exact mem_lookup h

theorem cloFrom_mem {cells : List (Str × Addr)} : ∀ {names : List (Str × NameKind)} {acc : List (Str × Addr)} {n : Str} {c : Addr}, (n, c) ∈ cloFrom cells names acc → (n, c) ∈ acc ∨ ((n, .free) ∈ names ∧ c = (cells.lookup n).getD 0)
  | [], _, _, _, h => .inl h
  | (m, k) :: r, acc, n, c, h => by
    unfold cloFrom at h
    split at h
    · rename_i hk
      have hk : k = .free := by simpa using hk
      rcases cloFrom_mem h with h | ⟨h1, h2⟩
      · rcases List.mem_cons.mp h with e | h
        · cases e; exact .inr ⟨hk ▸ List.mem_cons_self, rfl⟩
        · exact .inl h
      · exact .inr ⟨List.mem_cons_of_mem _ h1, h2⟩
    · rcases cloFrom_mem h with h | ⟨h1, h2⟩
      · exact .inl h
      · exact .inr ⟨List.mem_cons_of_mem _ h1, h2⟩
theorem cloFrom_acc {cells : List (Str × Addr)} : ∀ {names : List (Str × NameKind)} {acc : List (Str × Addr)} {p : Str × Addr}, p ∈ acc → p ∈ cloFrom cells names acc
  | [], _, _, h => h
  | (m, k) :: r, acc, p, h => by
    unfold cloFrom
    split
    · exact cloFrom_acc (List.mem_cons_of_mem _ h)
    · exact cloFrom_acc h
theorem cloFrom_has {cells : List (Str × Addr)} : ∀ {names : List (Str × NameKind)} {acc : List (Str × Addr)} {n : Str}, (n, .free) ∈ names → (n, (cells.lookup n).getD 0) ∈ cloFrom cells names acc
  | (m, k) :: r, acc, n, h => by
    unfold cloFrom
    rcases List.mem_cons.mp h with e | h
    · cases e
      exact cloFrom_acc List.mem_cons_self
    · split
      · exact cloFrom_has h
      · exact cloFrom_has h

theorem cells_mem : ∀ {names : List (Str × NameKind)} {h : Heap} {acc : List (Str × Addr)} {x : Str} {c : Addr}, (x, c) ∈ cellsFrom h.objs.size names acc →
    (x, c) ∈ acc ∨ ((x, .cell) ∈ names ∧ h.objs.size ≤ c ∧ CellAt (pushCells h names) c none)
  | [], _, _, _, _, h => .inl h
  | (n, k) :: r, h, acc, x, c, hm => by
    unfold cellsFrom at hm
    unfold pushCells
    split at hm
    · rename_i hk
      rw [if_pos hk]
      have hk : k = .cell := by simpa using hk
      rw [← Heap.size_push h { cls := .type "cell", data := .cell none }] at hm
      rcases cells_mem hm with hm | ⟨h1, h2, h3⟩
      · rcases List.mem_cons.mp hm with e | hm
        · cases e
          exact .inr ⟨hk ▸ List.mem_cons_self, Nat.le_refl _, _, pushCells_keeps r _ _ _ (Heap.get?_push_size _ rfl), rfl⟩
        · exact .inl hm
      · rw [Heap.size_push] at h2
        exact .inr ⟨List.mem_cons_of_mem _ h1, Nat.le_of_succ_le h2, h3⟩
    · rename_i hk
      rw [if_neg hk]
      rcases cells_mem hm with hm | ⟨h1, h2, h3⟩
      · exact .inl hm
      · exact .inr ⟨List.mem_cons_of_mem _ h1, h2, h3⟩
theorem cells_acc : ∀ {names : List (Str × NameKind)} {n : Nat} {acc : List (Str × Addr)} {p : Str × Addr}, p ∈ acc → p ∈ cellsFrom n names acc
  | [], _, _, _, h => h
  | (m, k) :: r, n, acc, p, h => by
    unfold cellsFrom
    split
    · exact cells_acc (List.mem_cons_of_mem _ h)
    · exact cells_acc h
theorem cells_has : ∀ {names : List (Str × NameKind)} {n : Nat} {acc : List (Str × Addr)} {x : Str}, (x, .cell) ∈ names → ∃ c, (x, c) ∈ cellsFrom n names acc
  | (m, k) :: r, n, acc, x, h => by
    unfold cellsFrom
    rcases List.mem_cons.mp h with e | h
    · cases e
      exact ⟨n, cells_acc List.mem_cons_self⟩
    · split
      · exact cells_has h
      · exact cells_has h
theorem cells_inj : ∀ {names : List (Str × NameKind)} {h : Heap} {acc : List (Str × Addr)} {x y : Str} {c : Addr}, (∀ p ∈ acc, p.2 < h.objs.size) → (∀ x y c, (x, c) ∈ acc → (y, c) ∈ acc → x = y) →
    (x, c) ∈ cellsFrom h.objs.size names acc → (y, c) ∈ cellsFrom h.objs.size names acc → x = y
  | [], _, _, _, _, _, _, hi, h1, h2 => hi _ _ _ h1 h2
  | (n, k) :: r, h, acc, x, y, c, hl, hi, h1, h2 => by
    unfold cellsFrom at h1 h2
    split at h1
    · rename_i hk
      rw [if_pos hk] at h2
      rw [← Heap.size_push h { cls := .type "cell", data := .cell none }] at h1 h2
      refine cells_inj (h := h.push _) (fun p hp => ?_) (fun x y c a b => ?_) h1 h2
      · rw [Heap.size_push]
        rcases List.mem_cons.mp hp with rfl | hp
        · exact Nat.lt_succ_self _
        · exact Nat.lt_succ_of_lt (hl p hp)
      · rcases List.mem_cons.mp a with e | a <;> rcases List.mem_cons.mp b with e' | b
        · cases e; cases e'; rfl
        · cases e; exact absurd (hl _ b) (Nat.lt_irrefl _)
        · cases e'; exact absurd (hl _ a) (Nat.lt_irrefl _)
        · exact hi _ _ _ a b
    · rename_i hk
      rw [if_neg hk] at h2
      exact cells_inj hl hi h1 h2

theorem newEnv_comp {M : Model} {A : Around} {E : Value → Shared → Prop} {s : Shared} {scope : Scope} {globals : Addr} {closure : List (Str × Addr)} {qual : Str} {func : Option Addr} {code : Value} {around : Env} {builtins : Addr} {Q : Env → Shared → Prop}
    (h : Q (newEnv scope s.heap.objs.size globals (cellsFrom (s.heap.objs.size + 1) scope.names closure) qual func code (some around) builtins)
      { s with heap := pushCells (s.heap.push { cls := .type "dict", data := .dict #[] }) scope.names }) :
    wpAny M A (newFunctionEnv scope globals closure [] qual func code (some around) builtins) Q E s := by
  simp only [newFunctionEnv, Option.isSome_some, if_true]
  refine wpAny_bind (wpAny_alloc ?_)
  refine wpAny_bind (wpAny_layCells _ (fun n k c => rfl) scope.names closure _ _ ?_)
  rw [show ({ s with heap := s.heap.push { cls := .type "dict", data := .dict #[] } } : Shared).heap.objs.size = s.heap.objs.size + 1 from Heap.size_push ..]
  rw [List.forIn_nil]
  exact wpAny_bind (wpAny_pure (wpAny_pure h))

/-- every name of the written scope, in the scope that runs -/
theorem lookup_relS {sc : Scope} : ∀ {names : List (Str × NameKind)} {x : Str} {k : NameKind},
    (names.map fun (n, k) => if (k == NameKind.free && sc.kind == .function && sc.names.lookup n == some .cell) then (n, NameKind.cell) else (n, k)).lookup x = some k →
    ∃ k', names.lookup x = some k' ∧ (k = k' ∨ (k' = .free ∧ k = .cell))
  | [], _, _, h => by simp at h
  | (n, k₀) :: r, x, k, h => by
    have ih := @lookup_relS sc r x k
    have h' : List.lookup x ((if (k₀ == NameKind.free && sc.kind == .function && sc.names.lookup n == some .cell) = true then (n, NameKind.cell) else (n, k₀)) :: (r.map _)) = some k := h
    cases hx : x == n with
    | true =>
      simp only [List.lookup_cons, hx]
      by_cases hc : (k₀ == NameKind.free && sc.kind == .function && sc.names.lookup n == some .cell) = true
      · rw [if_pos hc] at h'
        simp only [List.lookup_cons, hx] at h'
        cases h'
        simp only [Bool.and_eq_true, beq_iff_eq] at hc
        exact ⟨k₀, rfl, .inr ⟨hc.1.1, rfl⟩⟩
      · rw [if_neg hc] at h'
        simp only [List.lookup_cons, hx] at h'
        cases h'
        exact ⟨_, rfl, .inl rfl⟩
    | false =>
      simp only [List.lookup_cons, hx]
      by_cases hc : (k₀ == NameKind.free && sc.kind == .function && sc.names.lookup n == some .cell) = true
      · rw [if_pos hc] at h'
        simp only [List.lookup_cons, hx] at h'
        exact ih h'
      · rw [if_neg hc] at h'
        simp only [List.lookup_cons, hx] at h'
        exact ih h'



/-- the names of a comprehension's block: its own (with their places in N), or captured -/
structure BlkOk (N : List Str) (sc scope : Scope) (own : List (Str × Nat)) : Prop where
  kind : scope.kind = .function
  uniq : ∀ y ∈ scope.names, scope.names.lookup y.1 = some y.2
  ix : ∀ p ∈ own, N[p.2]? = some p.1
  free : ∀ y ∈ scope.names, y.2 = .free → sc.names.lookup y.1 = some .cell ∨ sc.names.lookup y.1 = some .free
  own : ∀ y ∈ scope.names, y.2 = .local ∨ y.2 = .cell → y.1 ∈ own.map (·.1) ∨ y.1 ∉ N
/-- the slots of the block's own names forgotten -/
def wipe (σ : St) : List Nat → St
  | [] => σ
  | v :: vs => (wipe σ vs).set v none
theorem wipe_length (σ : St) : ∀ vs : List Nat, (wipe σ vs).length = σ.length
  | [] => rfl
  | v :: vs => by unfold wipe; rw [List.length_set, wipe_length σ vs]
theorem wipe_some {σ : St} {i : Nat} {x : V} : ∀ {vs : List Nat}, (wipe σ vs)[i]? = some (some x) → σ[i]? = some (some x) ∧ i ∉ vs
  | [], h => ⟨h, by simp⟩
  | v :: vs, h => by
    unfold wipe at h
    by_cases hi : v = i
    · subst hi
      by_cases hv : v < (wipe σ vs).length
      · rw [List.getElem?_set_self hv] at h; cases h
      · rw [List.getElem?_eq_none (by simpa using hv)] at h; cases h
    · rw [List.getElem?_set_ne hi] at h
      obtain ⟨h1, h2⟩ := wipe_some h
      exact ⟨h1, by simp only [List.mem_cons, not_or]; exact ⟨fun e => hi e.symm, h2⟩⟩

/-- the context of a block that starts at s, its iterator's objects at fp -/
abbrev Cx.blk (X : Cx) (s : Shared) (H : Hp) (scope : Scope) (cenv : Env) (fp : List Addr) : Cx := { X with s_0 := s, H_0 := H, env := cenv, outer := X.stack, ex := fp, fn := fun x => scope.names.lookup x == some .cell, pn := [], xe := fun _ _ => False }
section
variable {X : Cx} {pins : List (Addr × Obj)} {σ : St} {H : Hp} {s : Shared}
theorem block_start {scope : Scope} {own : List (Str × Nat)} {fp : List Addr} (I : Inv X pins σ H s) (ok : BlkOk X.N X.env.scope scope own) (hN : X.N.Nodup) (hfp : ∀ b ∈ fp, FpOk X pins H b ∧ b < s.heap.objs.size) :
    Inv (X.blk s H scope (compEnvC scope (cellsFrom (s.heap.objs.size + 1) scope.names (cloFrom X.env.cells scope.names [])) s.heap.objs.size X.env) fp) [] (wipe σ (own.map (·.2))) H { s with heap := pushCells (s.heap.push { cls := .type "dict", data := .dict #[] }) scope.names } := by
  have hfree : ∀ y ∈ scope.names, y.2 = .free → ∃ c, X.env.cells.lookup y.1 = some c := fun y hy e => by
    rcases ok.free y hy e with k | k
    · exact I.ok.has _ (.inl k)
    · exact I.ok.has _ (.inr k)
  generalize hcenv : compEnvC scope (cellsFrom (s.heap.objs.size + 1) scope.names (cloFrom X.env.cells scope.names [])) s.heap.objs.size X.env = cenv
  have kp : ∀ b o, s.heap.get? b = some o → (pushCells (s.heap.push { cls := .type "dict", data := .dict #[] }) scope.names).get? b = some o := fun b o e => pushCells_keeps _ _ _ _ (Heap.get?_push_of_some _ e)
  have hL : cenv.locals = s.heap.objs.size := by rw [← hcenv]; rfl
  have hcl : cenv.cells = cellsFrom (s.heap.objs.size + 1) scope.names (cloFrom X.env.cells scope.names []) := by rw [← hcenv]; rfl
  have hsc : cenv.scope = relS scope X.env.scope := by rw [← hcenv]; rfl
  rw [← Heap.size_push s.heap { cls := .type "dict", data := .dict #[] }] at hcl
  have cm : ∀ {y c}, (y, c) ∈ cloFrom X.env.cells scope.names [] → X.env.cells.lookup y = some c ∧ c < s.heap.objs.size := fun {y c} hm => by
    rcases cloFrom_mem hm with hm | ⟨h1, rfl⟩
    · cases hm
    · obtain ⟨c, hc⟩ := hfree _ h1 rfl
      rw [hc]
      obtain ⟨w, z⟩ := I.cell _ _ hc
      exact ⟨rfl, z.lt⟩
  have mem : ∀ {y c}, cenv.cells.lookup y = some c → (X.env.cells.lookup y = some c ∧ c < s.heap.objs.size) ∨ (s.heap.objs.size + 1 ≤ c ∧ CellAt (pushCells (s.heap.push { cls := .type "dict", data := .dict #[] }) scope.names) c none) := fun {y c} e => by
    rw [hcl] at e
    rcases cells_mem (PySem.mem_of_lookup e) with hm | ⟨_, h2, h3⟩
    · exact .inl (cm hm)
    · rw [Heap.size_push] at h2; exact .inr ⟨h2, h3⟩
  have look : ∀ {y}, scope.names.lookup y = some .free → ∃ c, cenv.cells.lookup y = some c ∧ X.env.cells.lookup y = some c := fun {y} hl => by
    have hy : (y, NameKind.free) ∈ scope.names := PySem.mem_of_lookup hl
    obtain ⟨c', e'⟩ := mem_lookup (cells_acc (names := scope.names) (n := (s.heap.push { cls := .type "dict", data := .dict #[] }).objs.size) (cloFrom_has (cells := X.env.cells) (acc := []) hy))
    rw [← hcl] at e'
    refine ⟨c', e', ?_⟩
    rw [hcl] at e'
    rcases cells_mem (PySem.mem_of_lookup e') with hm | ⟨h1, _, _⟩
    · exact (cm hm).1
    · have := ok.uniq _ h1
      rw [hl] at this; cases this
  have okB : (X.blk s H scope cenv fp).Ok := by
    refine ⟨I.ok.mod, by show cenv.scope.kind = _; rw [hsc]; exact ok.kind, by show cenv.globals = _; rw [← hcenv]; exact I.ok.glob, by show cenv.builtins = _; rw [← hcenv]; exact I.ok.blt, by show s.heap.objs.size ≤ cenv.locals; rw [hL]; exact Nat.le_refl _,
      fun y z c e1 e2 => ?_, fun y hy => ?_, fun y c z e => ?_, I.ok.hd, I.ok.frames, .inl rfl, fun b hb => ⟨?_, fun y c e z => ?_⟩, I.bs, Nat.le_trans I.ok.bsz I.sz, fun b o e hb => ?_, fun b hb z => ?_, I.stack, I.stkFree⟩
    · have e1 : cenv.cells.lookup y = some c := e1
      have e2 : cenv.cells.lookup z = some c := e2
      rw [hcl] at e1 e2
      refine cells_inj (fun p hp => ?_) (fun y z c a b => I.ok.inj y z c (cm a).1 (cm b).1) (PySem.mem_of_lookup e1) (PySem.mem_of_lookup e2)
      rw [Heap.size_push]
      exact Nat.lt_succ_of_lt (cm (y := p.1) (c := p.2) hp).2
    · show ∃ c, cenv.cells.lookup y = some c
      have key : ∀ k, cenv.kindOf y = some k → (k = .cell ∨ k = .free) → ∃ c, cenv.cells.lookup y = some c := fun k hk hk' => by
        unfold Env.kindOf at hk
        rw [hsc] at hk
        obtain ⟨k', e, r⟩ := lookup_relS hk
        have : k' = .cell ∨ k' = .free := by
          rcases r with rfl | ⟨rfl, _⟩
          · exact hk'
          · exact .inr rfl
        rcases this with rfl | rfl
        · obtain ⟨c, hm⟩ := cells_has (n := (s.heap.push { cls := .type "dict", data := .dict #[] }).objs.size) (acc := cloFrom X.env.cells scope.names []) (PySem.mem_of_lookup e)
          obtain ⟨c', e'⟩ := mem_lookup hm
          exact ⟨c', by rw [hcl]; exact e'⟩
        · obtain ⟨c, h1, _⟩ := look e
          exact ⟨c, h1⟩
      rcases hy with hy | hy
      · exact key _ hy (.inl rfl)
      · exact key _ hy (.inr rfl)
    · have z : (scope.names.lookup y == some NameKind.cell) = true := z
      have z : scope.names.lookup y = some .cell := by simpa using z
      have e : cenv.cells.lookup y = some c := e
      rw [hcl] at e
      rcases cells_mem (PySem.mem_of_lookup e) with hm | ⟨_, h2, _⟩
      · rcases cloFrom_mem hm with hm | ⟨h1, _⟩
        · cases hm
        · have q := ok.uniq _ h1
          rw [z] at q; cases q
      · rw [Heap.size_push] at h2
        exact Nat.le_of_succ_le h2
    · show b ≠ cenv.locals
      rw [hL]; exact Nat.ne_of_lt (hfp b hb).2
    · have e : cenv.cells.lookup y = some c := e
      rcases mem e with ⟨h1, _⟩ | ⟨h1, _⟩
      · exact (hfp b hb).1.2.2.2.2.1 y c h1 z
      · have h2 : s.heap.objs.size + 1 ≤ b := by rw [← z]; exact h1
        exact absurd (Nat.lt_of_lt_of_le (hfp b hb).2 (Nat.le_of_succ_le h2)) (Nat.lt_irrefl _)
    · rcases (hfp b hb).1.2.2.2.1 with z | z
      · exact I.ok.noex b o e z
      · exact absurd (Nat.lt_of_lt_of_le (Heap.lt_size e) (Nat.le_trans I.ok.bsz z)) (Nat.lt_irrefl _)
    · rcases List.mem_cons.mp (I.stkSub b z) with z | z
      · exact (hfp b hb).1.2.1 z
      · exact (hfp b hb).1.2.2.1 z
  refine ⟨okB, rfl, I.bare, Un.kept kp, ⟨fun _ => none, ?_, fun i y av e1 e2 e3 => ?_⟩, fun y c e => ?_, ?_, fun y c e => ?_, fun p hp => ?_, I.hok.kept kp, by rw [wipe_length]; exact I.len⟩
  · show Heap.Ns _ cenv.locals _
    rw [hL]
    exact Heap.Ns.keeps (Heap.Ns.new ..) fun b o e => pushCells_keeps _ _ _ _ e
  · obtain ⟨e2, hne⟩ := wipe_some e2
    have hfr : scope.names.lookup y = some .free ∧ (cenv.kindOf y = some .cell ∨ cenv.kindOf y = some .free) := by
      have key : ∀ k, cenv.scope.names.lookup y = some k → k = .local ∨ k = .cell ∨ k = .free → scope.names.lookup y = some .free ∧ (cenv.kindOf y = some .cell ∨ cenv.kindOf y = some .free) := fun k hk hk' => by
        have hk0 := hk
        rw [hsc] at hk
        obtain ⟨k', e, r⟩ := lookup_relS hk
        have no : ¬ (k' = .local ∨ k' = .cell) := fun hh => by
          rcases ok.own _ (PySem.mem_of_lookup e) hh with e' | e'
          · obtain ⟨p, hp, hpy⟩ := List.mem_map.mp e'
            have e3 := ok.ix p hp
            have : p.1 = y := hpy
            rw [this] at e3
            exact hne (List.mem_map.mpr ⟨p, hp, nodup_ix hN e3 e1⟩)
          · exact e' (List.mem_of_getElem? e1)
        rcases r with rfl | ⟨rfl, rfl⟩
        · rcases hk' with rfl | rfl | rfl
          · exact absurd (.inl rfl) no
          · exact absurd (.inr rfl) no
          · exact ⟨e, .inr hk0⟩
        · exact ⟨e, .inl hk0⟩
      have e3 : Vis cenv.scope y := e3
      rcases e3 with e3 | e3 | e3
      · exact key _ e3 (.inl rfl)
      · exact key _ e3 (.inr (.inl rfl))
      · exact key _ e3 (.inr (.inr rfl))
    obtain ⟨m, hn, hl⟩ := I.loc
    have hvis : Vis X.env.scope y := (ok.free _ (PySem.mem_of_lookup hfr.1) rfl).elim (fun k => .inr (.inl k)) (fun k => .inr (.inr k))
    obtain ⟨w, r, q⟩ := hl i y av e1 e2 hvis
    refine ⟨w, r, .inr ⟨hfr.2, ?_⟩⟩
    obtain ⟨c, h1, h2⟩ := look hfr.1
    rcases q with ⟨k, _⟩ | ⟨_, c', e', z⟩
    · have k : X.env.scope.names.lookup y = some .local := k
      rcases ok.free _ (PySem.mem_of_lookup hfr.1) rfl with k' | k' <;> rw [show X.env.scope.names.lookup y = _ from k'] at k <;> cases k
    · rw [h2] at e'; cases e'
      exact ⟨c, h1, z.keeps kp⟩
  · have e : cenv.cells.lookup y = some c := e
    rcases mem e with ⟨h1, _⟩ | ⟨_, z⟩
    · obtain ⟨w, z⟩ := I.cell y c h1
      exact ⟨w, z.keeps kp⟩
    · exact ⟨_, z⟩
  · show H cenv.locals = none
    rw [hL]; exact I.hok.fresh (Nat.le_refl _)
  · have e : cenv.cells.lookup y = some c := e
    rcases mem e with ⟨h1, _⟩ | ⟨h1, _⟩
    · exact I.freeC y c h1
    · exact I.hok.fresh (Nat.le_of_succ_le h1)
  · exact absurd (show p ∈ ([] : List (Addr × Obj)) ++ [] from hp) (by simp)

/-- an item appended to a tracked list -/
theorem app_ok {E : Value → Shared → Prop} {D : Addr} {xs : List V} {y : V} {v : Value} {Q : Value → Shared → Prop} (I : Inv X pins σ H s) (hD : H D = some (.lst xs)) (hz : xs.length < sizeLine) (r : RelV y v)
    (h : ∀ s', Inv X pins σ (upd H D (.lst (xs ++ [y]))) s' → Q .none s') : wpAny (model X.prog X.w) X.A (call (.builtin "list.append") [.ref D, v]) Q E s := by
  obtain ⟨hz', its, n, ri, e⟩ := I.hok D _ hD
  have hl := ri.length
  refine append_at (hsz := by rw [List.size_toArray]; omega) e fun h' sb ho' => ?_
  refine h { s with heap := h' } (I.write (t' := s.toks) (by rw [hD]; trivial) (.inl rfl) (fun b u hb q => (sb.2 b hb).trans q) ⟨_, ho'⟩ ⟨by rw [List.length_append]; exact hz, its ++ [v], n + 1, ri.append (.cons r .nil), ?_⟩)
  rw [ho']
  simp

/-- a clause's tests -/
def PTs (X : Cx) (ifs : List Expr) (t : TT) : Prop :=
  ∀ (pins : List (Addr × Obj)) (s : Shared) (σ : St) (H : Hp) (Q : Bool → Hp → Prop), Inv X pins σ H s → t σ H Q →
    wpAny (model X.prog X.w) X.A (forIn ifs true fun c r => if r = true then do let ok ← isTrue c X.env (eval c X.env); pure (ForInStep.yield ok) else pure (ForInStep.yield r)) (TP X pins σ Q) X.xe s
def tYes : TT := fun _ H Q => Q true H
theorem pts_nil : PTs X [] tYes := fun _ _ _ H _ I h => wpAny_tests_nil ⟨H, I, h⟩
theorem pts_one {c : Expr} {t : TT} (h : PT X c t) : PTs X [c] t := fun pins s σ H Q I hw => wpAny_tests_one (h pins s σ H Q I hw)
end

theorem thnF {α : Type} {t : Sem α} {Q Q' : α → Shared → Prop} {M : Model} {A : Around} {E : Value → Shared → Prop} {s : Shared} (h : wpAny M A t Q (fun _ _ => False) s) (hQ : ∀ a s, Q a s → Q' a s) : wpAny M A t Q' E s := wpAny_mono h hQ fun _ _ z => False.elim z

/-- the loop of a list comprehension's block, the target of any form (codeAny_compLoop_tests asks a target that no tuple goes to; statement and proof follow it, PyProof/CompMap.lean:41-61, with the step letOwnedTupleGo kept) -/
theorem compLoop_any {prog : Program} {w : World} {A : Around} {R : Result → Shared → Prop} {s : Shared} {elt target iter : Expr} {ifs : List Expr} {scope : Scope} {pos : Pos} {it acc : Value} {env : Env} (I : Nat → Shared → Prop)
    (turn : ∀ n s, I n s → wpAny (model prog w) A (pyNext it) (fun r s₁ => match r with
      | none => R (.ok .next) s₁
      | some v => wpAny (model prog w) A (letOwnedTupleGo target it v) (fun _ s₁' => wpAny (model prog w) A (assign target env v) (fun _ s₂ =>
          wpAny (model prog w) A (forIn ifs true fun c r => if r = true then do let ok ← isTrue c env (eval c env); pure (ForInStep.yield ok) else pure (ForInStep.yield r)) (fun ok s₃ =>
            if ok = true then wpAny (model prog w) A (eval elt env) (fun x s₄ =>
              wpAny (model prog w) A (call (.builtin "list.append") [acc, x]) (fun _ s₅ => ∃ m, m < n ∧ I m s₅) (notedBy (model prog w) A env fun e s' => R (.error e) s') s₄) (notedBy (model prog w) A env fun e s' => R (.error e) s') s₃
            else ∃ m, m < n ∧ I m s₃) (notedBy (model prog w) A env fun e s' => R (.error e) s') s₂) (notedBy (model prog w) A env fun e s' => R (.error e) s') s₁') (notedBy (model prog w) A env fun e s' => R (.error e) s') s₁) (notedBy (model prog w) A env fun e s' => R (.error e) s') s)
    (n : Nat) (h : I n s) :
    codeAny (model prog w) A (.compLoop (.ListComp elt [⟨target, iter, ifs, 0⟩] scope pos) 0 it acc env) R s := by
  refine codeAny_loop rfl I (fun n s hI => ?_) n h
  show wpAny _ A ((compTurn (.ListComp elt [⟨target, iter, ifs, 0⟩] scope pos) 0 it acc env).onRaise (fun x => do noteFrame x env; theTreesLotGoes x)) _ _ s
  refine wpAny_noted ?_
  rw [compTurn_list]
  refine wpAny_bind (wpAny_standAt (wpAny_bind (wpAny_mono (turn n s hI) (fun r s₁ h₁ => ?_) fun _ _ h' => h')))
  cases r with
  | none => exact wpAny_pure h₁
  | some v =>
    refine wpAny_bind (wpAny_mono h₁ (fun _ s₁' h₁' => ?_) fun _ _ h' => h')
    refine wpAny_bind (wpAny_mono h₁' (fun _ s₂ h₂ => wpAny_bind (wpAny_mono h₂ (fun ok s₃ h₃ => ?_) fun _ _ h' => h')) fun _ _ h' => h')
    cases ok with
    | false => exact wpAny_pure ⟨rfl, h₃⟩
    | true =>
      exact wpAny_bind (wpAny_bind (wpAny_mono h₃ (fun x s₄ h₄ => wpAny_bind (wpAny_mono h₄ (fun _ s₅ h₅ => wpAny_pure (wpAny_pure ⟨rfl, h₅⟩)) fun _ _ h' => h')) fun _ _ h' => h'))

section
variable {X : Cx}
/-- [elt for target in iter if ..]: D the new list; W by the turn and a measure, Nx what a turn is to reach -/
def tLc (wi : TI) (g : TG) (tt : TT) (te : TE) (vs : List Nat) : TE := fun σ H Q => wi σ H fun J H1 => ∀ D, H1 D = none → ∃ W : Nat → Nat → Hp → Prop, (∃ m, W 0 m (upd H1 D (.lst []))) ∧ ∀ i m H, W i m H →
  (J.stop i H ∧ Q (.ref D) H) ∨ (J.go i H ∧ ∃ Nx : Hp → Prop, (∀ H', Nx H' → ∃ m', m' < m ∧ W (i + 1) m' H') ∧ ∀ x H', J.yld i H x H' → g x (wipe σ vs) H' fun σ2 H2 => wipe σ2 vs = wipe σ vs ∧ tt σ2 H2 fun b H3 =>
    if b = true then te σ2 H3 fun y H4 => ∃ acc, H4 D = some (.lst acc) ∧ acc.length < sizeLine ∧ Nx (upd H4 D (.lst (acc ++ [y]))) else Nx H3)
theorem lc_core {pins : List (Addr × Obj)} {s : Shared} {σ : St} {H : Hp} {Q : VK} {elt tg iter : Expr} {ifs : List Expr} {scope : Scope} {own : List (Str × Nat)} {pos pos' : Pos} {wi : TI} {g : TG} {tt : TT} {te : TE} {use : Option (Value → Sem Unit)} {Qf : Value → Shared → Prop}
    (hc : X.calm = true) (hN : X.N.Nodup) (I : Inv X pins σ H s) (hi : PI X tg iter wi) (ok : BlkOk X.N X.env.scope scope own)
    (hg : ∀ (s : Shared) (H : Hp) (C : Addr) (cl : List (Str × Addr)) (fp : List Addr), PG (X.blk s H scope (compEnvC scope cl C X.env) fp) tg g) (ht : ∀ (s : Shared) (H : Hp) (C : Addr) (cl : List (Str × Addr)) (fp : List Addr), PTs (X.blk s H scope (compEnvC scope cl C X.env) fp) ifs tt)
    (he : ∀ (s : Shared) (H : Hp) (C : Addr) (cl : List (Str × Addr)) (fp : List Addr), PE (X.blk s H scope (compEnvC scope cl C X.env) fp) elt te) (hs : ∀ x, foldedSetIterable iter X.env x = pure x)
    (h : tLc wi g tt te (own.map (·.2)) σ H Q)
    (hRR : ∀ D C s' m H', Inv X pins σ H' s' → Q (.ref D) H' → s'.heap.Ns C m → FpOk X pins H' C → compPost (model X.prog X.w) X.A X.xe use Qf (.ref D) C (.ok .next) s') :
    wpAny (model X.prog X.w) X.A (comprehension (.ListComp elt [⟨tg, iter, ifs, 0⟩] scope pos) scope X.env pos' (newList []) false (eval iter X.env) use) Qf X.xe s := by
  have hfree : ∀ y ∈ scope.names, y.2 = .free → ∃ c, X.env.cells.lookup y.1 = some c := fun y hy e => by
    rcases ok.free y hy e with k | k
    · exact I.ok.has _ (.inl k)
    · exact I.ok.has _ (.inr k)
  refine wpAny_comprehension_free (use := use) rfl hs (closure_ok hfree) ok.kind (fun y hy e => by rw [ok.uniq y hy, e])
    (thn (hi pins s σ H _ I h) fun xv s1 hx => thn hx fun itv s2 h2 => ?_)
  obtain ⟨it, fp, tn, J, H2, e, I2, T, st2, f2, q⟩ := h2
  subst e
  refine wpAny_newObj_type (newEnv_comp ?_) (by show 0 ≤ sizeLine; decide)
  generalize hD : s2.heap.objs.size = D
  have hDn : H2 D = none := I2.hok.fresh (Nat.le_of_eq hD)
  obtain ⟨W, ⟨m0, w0⟩, turn⟩ := q D hDn
  -- the new list
  generalize hs3 : ({ s2 with heap := s2.heap.push { cls := .type "list", data := .seq ([] : List Value).toArray } } : Shared) = s3
  have I3 : Inv X pins σ (upd H2 D (.lst [])) s3 := by
    rw [← hs3]
    refine I2.laid (t' := s2.toks) (fun b o e => Heap.get?_push_of_some _ e) (Nat.le_of_eq hD) ⟨Nat.zero_le _, [], 0, .nil, ?_⟩
    rw [← hD]
    exact Heap.get?_push_size _ rfl
  have h3 : s3.heap = s2.heap.push { cls := .type "list", data := .seq ([] : List Value).toArray } := by rw [← hs3]
  have sz : ∀ b ∈ fp, b < s2.heap.objs.size := fun b hb => by
    obtain ⟨o, e, _⟩ := T.obj _ _ st2 b hb
    exact Heap.lt_size e
  have f3 : ∀ b ∈ fp, FpOk X pins (upd H2 D (.lst [])) b ∧ b < s3.heap.objs.size := fun b hb => by
    have hlt := sz b hb
    refine ⟨⟨?_, (f2 b hb).2⟩, by rw [h3, Heap.size_push]; exact Nat.lt_succ_of_lt hlt⟩
    rw [upd_ne (by rw [← hD]; exact Nat.ne_of_lt hlt)]
    exact (f2 b hb).1
  have st3 : tn 0 s3.heap := T.keep _ _ _ st2 fun b _ o e => by rw [h3]; exact Heap.get?_push_of_some _ e
  have I4 := block_start I3 ok hN f3
  have pg := hg s3 (upd H2 D (.lst [])) s3.heap.objs.size (cellsFrom (s3.heap.objs.size + 1) scope.names (cloFrom X.env.cells scope.names [])) fp
  have pt := ht s3 (upd H2 D (.lst [])) s3.heap.objs.size (cellsFrom (s3.heap.objs.size + 1) scope.names (cloFrom X.env.cells scope.names [])) fp
  have pe := he s3 (upd H2 D (.lst [])) s3.heap.objs.size (cellsFrom (s3.heap.objs.size + 1) scope.names (cloFrom X.env.cells scope.names [])) fp
  show codeAny _ _ (.compStart (.ListComp elt [⟨tg, iter, ifs, 0⟩] scope pos) 0 (.ref it) (.ref D) (compEnvC scope (cellsFrom (s3.heap.objs.size + 1) scope.names (cloFrom X.env.cells scope.names [])) s3.heap.objs.size X.env)) (compPost (model X.prog X.w) X.A X.xe use Qf (.ref D) s3.heap.objs.size) { s3 with heap := pushCells (s3.heap.push { cls := .type "dict", data := .dict #[] }) scope.names }
  have nfp : ∀ b ∈ fp, (upd H2 D (.lst [])) b = none := fun b hb => (f3 b hb).1.1
  generalize hce : compEnvC scope (cellsFrom (s3.heap.objs.size + 1) scope.names (cloFrom X.env.cells scope.names [])) s3.heap.objs.size X.env = ce at I4 pg pt pe ⊢
  have cL : ce.locals = s3.heap.objs.size := by subst hce; rfl
  generalize hH3 : upd H2 D (.lst []) = H3 at I3 I4 pg pt pe w0 nfp f3
  generalize hs4 : ({ s3 with heap := pushCells (s3.heap.push { cls := .type "dict", data := .dict #[] }) scope.names } : Shared) = s4 at I4 ⊢
  have st4 : tn 0 s4.heap := T.keep _ _ _ st3 fun b _ o e => by rw [← hs4]; exact pushCells_keeps _ _ _ _ (Heap.get?_push_of_some _ e)
  have stat : ∀ {σ' : St} {H' : Hp} {s' : Shared}, Inv (X.blk s3 H3 scope ce fp) [] σ' H' s' → (∀ b ∈ fp, H' b = none) → ∀ b ∈ fp, FpOk (X.blk s3 H3 scope ce fp) [] H' b := fun {σ' H' s'} I' hn b hb =>
    ⟨hn b hb, (I'.ok.exf b hb).1, I'.ok.exfs b hb, .inl hb, fun x c e => (I'.ok.exf b hb).2 x c e, fun p hp => absurd (show p ∈ ([] : List (Addr × Obj)) ++ [] from hp) (by simp)⟩
  have loop : codeAny (model X.prog X.w) X.A (.compLoop (.ListComp elt [⟨tg, iter, ifs, 0⟩] scope pos) 0 (.ref it) (.ref D) ce) (compPost (model X.prog X.w) X.A X.xe use Qf (.ref D) s3.heap.objs.size) s4 := by
    refine compLoop_any (fun n s' => ∃ i H', Inv (X.blk s3 H3 scope ce fp) [] (wipe σ (own.map (·.2))) H' s' ∧ tn i s'.heap ∧ (∀ b ∈ fp, H' b = none) ∧ W i n H') ?_ m0 ⟨0, H3, I4, st4, nfp, w0⟩
    rintro n s5 ⟨i, H5, I5, st5, n5, w5⟩
    rcases turn i n H5 w5 with ⟨stop, qq⟩ | ⟨go, Nx, hNx, step⟩
    · have td := T.done (X.blk s3 H3 scope ce fp) rfl rfl rfl hc i [] s5 _ H5 (fun _ _ => False) I5 (stat I5 n5) st5 stop
      refine thnF td fun r s6 ⟨hr, I6⟩ => ?_
      subst hr
      -- back in the def's context
      have I7 : Inv X pins σ H5 s6 := I3.call' (ch := fp) I6.os I6.base I6.hok I6.bare fun b hb => ⟨(f3 b hb).1.2.2.2.1, (f3 b hb).1.2.1, (f3 b hb).1.2.2.2.2.1, (f3 b hb).1.2.2.2.2.2⟩
      have nC : H5 s3.heap.objs.size = none := by
        have z : H5 ce.locals = none := I6.free
        rw [cL] at z
        exact z
      obtain ⟨m, hn, _⟩ := I6.loc
      have hn : s6.heap.Ns ce.locals m := hn
      rw [cL] at hn
      exact hRR D s3.heap.objs.size s6 m H5 I7 qq hn (I3.fpOk (Nat.le_refl _) nC)
    · have ti := T.item (X.blk s3 H3 scope ce fp) rfl rfl rfl hc i [] s5 _ H5 (fun _ _ => False) I5 (stat I5 n5) st5 go
      refine thnF ti fun r s6 ⟨u, hr, h6⟩ => ?_
      subst hr
      refine thnF h6 fun _ s7 ⟨x, H7, I7, r7, y7, st7, n7⟩ => ?_
      have I7' := I7.pinned (stat I7 n7) (T.obj _ _ st7)
      refine thnF (pg _ s7 _ H7 x u _ I7' r7 (step x H7 y7)) fun _ s8 ⟨σ8, H8, I8, hw8, q8⟩ => ?_
      refine thnF (pt _ s8 σ8 H8 _ I8 q8) fun b s9 ⟨H9, I9, q9⟩ => ?_
      -- the turn's end
      have fin : ∀ {s' : Shared} {H' : Hp}, Inv (X.blk s3 H3 scope ce fp) ([] ++ pinsAt fp s7.heap) σ8 H' s' → Nx H' → ∃ m, m < n ∧ ∃ i H', Inv (X.blk s3 H3 scope ce fp) [] (wipe σ (own.map (·.2))) H' s' ∧ tn i s'.heap ∧ (∀ b ∈ fp, H' b = none) ∧ W i m H' := fun {s' H'} I' nx => by
        obtain ⟨m', hm, w'⟩ := hNx H' nx
        have pin' : ∀ b ∈ fp, ∀ o, s7.heap.get? b = some o → s'.heap.get? b = some o ∧ H' b = none := fun b hb o e =>
          let z := I'.pin (b, o) (List.mem_append_right _ (List.mem_append_right _ (mem_pinsAt hb e)))
          ⟨z.1, z.2.1⟩
        have hl : (wipe σ (own.map (·.2))).length = σ8.length := by rw [← hw8, wipe_length]
        refine ⟨m', hm, i + 1, H', (I'.unpinned (pins := [])).weak hl (fun j v e => ?_), T.keep _ _ _ st7 fun b hb o e => (pin' b hb o e).1, fun b hb => ?_, w'⟩
        · rw [← hw8] at e
          exact (wipe_some e).1
        · obtain ⟨o, e, _⟩ := T.obj _ _ st7 b hb
          exact (pin' b hb o e).2
      cases b with
      | false =>
        simp only [Bool.false_eq_true, if_false] at q9 ⊢
        exact fin I9 q9
      | true =>
        simp only [if_true] at q9 ⊢
        refine thnF (pe _ s9 σ8 H9 _ I9 q9) fun z s10 ⟨yv, H10, I10, r10, acc, hD10, hz10, nx⟩ => ?_
        exact app_ok (X := X.blk s3 H3 scope ce fp) I10 hD10 hz10 r10 fun s11 I11 => fin I11 nx
  exact codeAny_compStart_list loop (T.self X.A 0 _ _ _ st4 loop)
/-- as a value -/
theorem pe_lc {elt tg iter : Expr} {ifs : List Expr} {scope : Scope} {own : List (Str × Nat)} {pos : Pos} {wi : TI} {g : TG} {tt : TT} {te : TE} (hc : X.calm = true) (hN : X.N.Nodup) (hi : PI X tg iter wi) (ok : BlkOk X.N X.env.scope scope own)
    (hg : ∀ (s : Shared) (H : Hp) (C : Addr) (cl : List (Str × Addr)) (fp : List Addr), PG (X.blk s H scope (compEnvC scope cl C X.env) fp) tg g) (ht : ∀ (s : Shared) (H : Hp) (C : Addr) (cl : List (Str × Addr)) (fp : List Addr), PTs (X.blk s H scope (compEnvC scope cl C X.env) fp) ifs tt)
    (he : ∀ (s : Shared) (H : Hp) (C : Addr) (cl : List (Str × Addr)) (fp : List Addr), PE (X.blk s H scope (compEnvC scope cl C X.env) fp) elt te) (hs : ∀ x, foldedSetIterable iter X.env x = pure x := by intro _; rfl) :
    PE X (.ListComp elt [⟨tg, iter, ifs, 0⟩] scope pos) (tLc wi g tt te (own.map (·.2))) := by
  intro pins s σ H Q I h
  rw [eval_ListComp]
  refine lc_core hc hN I hi ok hg ht he hs h fun D C s' m H' I' q hn f => ⟨m, hn, fun h'' sb => ?_⟩
  obtain ⟨f0, f1, f2, f3, f4, f5⟩ := f
  exact ⟨.ref D, H', I'.turned (t' := s'.toks) (fun b o hb e => (sb.2 b hb).trans e) f0 f1 f3 f4 f5, rfl, q⟩
/-- name = [..] on one line, the name a local -/
theorem ps_setLc {i : Nat} {y : Str} {py : Pos} {elt tg iter : Expr} {ifs : List Expr} {scope : Scope} {own : List (Str × Nat)} {pos spos : Pos} {wi : TI} {g : TG} {tt : TT} {te : TE} (hc : X.calm = true) (hN : X.N.Nodup) (hy : X.N[i]? = some y) (hyl : X.env.scope.names.lookup y = some .local)
    (hsw : swapsWith (.ListComp elt [⟨tg, iter, ifs, 0⟩] scope pos) (some (.Name y py)) spos.line X.env = pure true) (hi : PI X tg iter wi) (ok : BlkOk X.N X.env.scope scope own)
    (hg : ∀ (s : Shared) (H : Hp) (C : Addr) (cl : List (Str × Addr)) (fp : List Addr), PG (X.blk s H scope (compEnvC scope cl C X.env) fp) tg g) (ht : ∀ (s : Shared) (H : Hp) (C : Addr) (cl : List (Str × Addr)) (fp : List Addr), PTs (X.blk s H scope (compEnvC scope cl C X.env) fp) ifs tt)
    (he : ∀ (s : Shared) (H : Hp) (C : Addr) (cl : List (Str × Addr)) (fp : List Addr), PE (X.blk s H scope (compEnvC scope cl C X.env) fp) elt te) (hs : ∀ x, foldedSetIterable iter X.env x = pure x := by intro _; rfl) :
    PS X (.Assign [.Name y py] (.ListComp elt [⟨tg, iter, ifs, 0⟩] scope pos) spos) (tAsg (tLc wi g tt te (own.map (·.2))) (gName i)) := by
  intro pins s σ H D I h
  rw [exec_Assign_Name_used _ _ _ _ hsw]
  refine wpAny_bind (wpAny_standAt (wpAny_bind ?_))
  show wpAny _ X.A (do let _ ← comprehension (.ListComp elt [⟨tg, iter, ifs, 0⟩] scope pos) scope X.env (firstIterPos [⟨tg, iter, ifs, 0⟩] pos) (newList []) false (eval iter X.env) (some (assign (.Name y py) X.env))) _ _ s
  have h : tLc wi g tt te (own.map (·.2)) σ H (fun x H1 => gName i x σ H1 D.nx) := h
  refine wpAny_bind (thn (lc_core (Qf := fun _ s' => SP X pins D .next s') hc hN I hi ok hg ht he hs h fun L C s' m H' I' q hn f => ?_) fun _ s' hq => wpAny_pure (wpAny_pure hq))
  show wpAny _ _ (assign (.Name y py) X.env (.ref L)) _ _ _
  refine wpAny_assign_Name (store_ok2 (v := V.ref L) I' hN hy (.inl hyl) rfl (fun s2 I2 ⟨a, sb, ha⟩ => ?_) (.inr hyl))
  obtain ⟨f0, f1, f2, f3, f4, f5⟩ := f
  have haC : C ≠ a := by
    rcases ha with z | z
    · rw [z]; exact f1
    · exact fun e => f4 y a z e.symm
  refine ⟨m, hn.sameBut sb haC, fun h3 sb3 => ?_⟩
  exact ⟨_, H', I2.turned (t' := s2.toks) (fun b o hb e => (sb3.2 b hb).trans e) f0 f1 f3 f4 f5, q⟩
theorem sw_true {elt : Expr} {gs : List Comprehension} {scope : Scope} {pos py : Pos} {y : Str} {l : Nat} {env : Env} (hk : env.scope.kind = .function) (hy : env.scope.names.lookup y = some .local) (hl : (py.line == pos.line) = true)
    (ha : (scope.names.any fun (n, k) => n == y && (k == .local || k == .cell)) = false) : swapsWith (.ListComp elt gs scope pos) (some (.Name y py)) l env = pure true := by
  have ky : env.kindOf y = some .local := hy
  have hb : env.blockKind = .function := by unfold Env.blockKind; rw [hk]; rfl
  unfold swapsWith
  simp only [hb, ky, ha, Expr.pos, hl]
  rfl
end

/-! ### the forms one uses -/
/-- over a list that the block leaves as it is -/
theorem lc_list {K : PySem.W.Frag} {a : Addr} {xs : List V} {g : TG} {tt : TT} {te : TE} {vs : List Nat} {σ : St} {H1 : Hp} {D : Addr} {Qd : Hp → Prop} (Pv : Nat → Hp → Prop) (h0 : Pv 0 (upd H1 D (.lst []))) (hl : ∀ i H, i ≤ xs.length → Pv i H → SqL K H a xs)
    (hs : ∀ i x H, xs[i]? = some x → Pv i H → g x (wipe σ vs) H fun σ2 H2 => wipe σ2 vs = wipe σ vs ∧ tt σ2 H2 fun b H3 =>
      if b = true then te σ2 H3 fun y H4 => ∃ acc, H4 D = some (.lst acc) ∧ acc.length < sizeLine ∧ Pv (i + 1) (upd H4 D (.lst (acc ++ [y]))) else Pv (i + 1) H3) (hd : ∀ H, Pv xs.length H → Qd H) :
    ∃ W : Nat → Nat → Hp → Prop, (∃ m, W 0 m (upd H1 D (.lst []))) ∧ ∀ i m H, W i m H →
      ((Itl K a).stop i H ∧ Qd H) ∨ ((Itl K a).go i H ∧ ∃ Nx : Hp → Prop, (∀ H', Nx H' → ∃ m', m' < m ∧ W (i + 1) m' H') ∧ ∀ x H', (Itl K a).yld i H x H' → g x (wipe σ vs) H' fun σ2 H2 => wipe σ2 vs = wipe σ vs ∧ tt σ2 H2 fun b H3 =>
        if b = true then te σ2 H3 fun y H4 => ∃ acc, H4 D = some (.lst acc) ∧ acc.length < sizeLine ∧ Nx (upd H4 D (.lst (acc ++ [y]))) else Nx H3) := by
  refine ⟨fun i m H => m = xs.length - i ∧ i ≤ xs.length ∧ Pv i H, ⟨xs.length, by simp, Nat.zero_le _, h0⟩, ?_⟩
  rintro i m H ⟨rfl, hi, p⟩
  have q := hl i H hi p
  by_cases hlt : i < xs.length
  · refine .inr ⟨⟨xs, xs[i], q, by simp [hlt]⟩, Pv (i + 1), fun H' p' => ⟨xs.length - (i + 1), by omega, rfl, hlt, p'⟩, fun x H' y => ?_⟩
    obtain ⟨e, y⟩ := y
    subst e
    exact hs i x _ (y xs q) p
  · have e : i = xs.length := by omega
    subst e
    exact .inl ⟨⟨xs, q, Nat.le_refl _⟩, hd H p⟩
def blkC (N : List Str) (sc scope : Scope) (own : List (Str × Nat)) : Bool :=
  (match scope.kind with | .function => true | _ => false) && (scope.names.all fun y => decide (scope.names.lookup y.1 = some y.2)) && (own.all fun p => decide (N[p.2]? = some p.1)) &&
    (scope.names.all fun y => match y.2 with
      | .free => (match sc.names.lookup y.1 with | some .cell => true | some .free => true | _ => false)
      | .local => decide (y.1 ∈ own.map (·.1)) || decide (y.1 ∉ N)
      | .cell => decide (y.1 ∈ own.map (·.1)) || decide (y.1 ∉ N)
      | _ => true)
theorem blkOk_by {N : List Str} {sc scope : Scope} {own : List (Str × Nat)} (h : blkC N sc scope own = true) : BlkOk N sc scope own := by
  unfold blkC at h
  simp only [Bool.and_eq_true, List.all_eq_true, decide_eq_true_eq] at h
  obtain ⟨⟨⟨h1, h2⟩, h3⟩, h4⟩ := h
  refine ⟨?_, h2, h3, fun y hy e => ?_, fun y hy e => ?_⟩
  · split at h1
    · assumption
    · cases h1
  · have q := h4 y hy
    simp only [e] at q
    split at q <;> first | exact .inl (by assumption) | exact .inr (by assumption) | cases q
  · have q := h4 y hy
    rcases e with e | e <;> (simp only [e, Bool.or_eq_true, decide_eq_true_eq] at q; exact q)
end L2

namespace L2
open PySem PySem.Spec PyProof.Rows


section
variable {prog : Program} {w : World} {A : Around} {R : Result → Shared → Prop} {s : Shared} {elt t0 i0 t1 i1 : Expr} {ifs0 ifs1 : List Expr} {scope : Scope} {pos : Pos} {it acc : Value} {env : Env}
end

section
variable {X : Cx}
end
end L2

namespace L2
open PySem PySem.Spec PyProof.Rows

/-! ### lists of pairs as tables -/
section
variable {κ : Type} [DecidableEq κ]
def valV (kvs : List (κ × V)) (k : κ) : Option V := (kvs.find? fun kv => decide (kv.1 = k)).map (·.2)
/-- in its place, or at the end -/
def putK (kvs : List (κ × V)) (k : κ) (v : V) : List (κ × V) :=
  if (kvs.any fun kv => decide (kv.1 = k)) = true then kvs.map (fun kv => if kv.1 = k then (kv.1, v) else kv) else kvs ++ [(k, v)]
def dropK (kvs : List (κ × V)) (k : κ) : List (κ × V) := kvs.filter fun kv => decide (kv.1 ≠ k)

theorem valV_nil {k : κ} : valV ([] : List (κ × V)) k = none := rfl
theorem valV_pos {p : κ × V} {r : List (κ × V)} {k : κ} (e : p.1 = k) : valV (p :: r) k = some p.2 := by simp [valV, List.find?_cons, e]
theorem valV_neg {p : κ × V} {r : List (κ × V)} {k : κ} (e : ¬ p.1 = k) : valV (p :: r) k = valV r k := by simp [valV, List.find?_cons, e]
theorem valV_any (k : κ) : ∀ kvs : List (κ × V), (kvs.any fun kv => decide (kv.1 = k)) = (valV kvs k).isSome
  | [] => rfl
  | p :: r => by
    rw [List.any_cons]
    by_cases e : p.1 = k
    · simp only [valV_pos e, decide_eq_true e, Bool.true_or, Option.isSome_some]
    · rw [valV_neg e, decide_eq_false e, Bool.false_or]; exact valV_any k r
theorem valV_map (k j : κ) (y : V) : ∀ kvs : List (κ × V), valV (kvs.map fun kv => if kv.1 = k then (kv.1, y) else kv) j = (valV kvs j).map fun x => if j = k then y else x
  | [] => rfl
  | p :: r => by
    have ih := valV_map k j y r
    rw [List.map_cons]
    by_cases h : p.1 = k
    · rw [if_pos h]
      by_cases e : p.1 = j
      · rw [valV_pos (p := (p.1, y)) e, valV_pos e, Option.map_some, if_pos (e.symm.trans h)]
      · rw [valV_neg (p := (p.1, y)) e, valV_neg e, ih]
    · rw [if_neg h]
      by_cases e : p.1 = j
      · rw [valV_pos (p := p) e, valV_pos e, Option.map_some, if_neg (fun z => h (e.trans z))]
      · rw [valV_neg (p := p) e, valV_neg e, ih]
theorem valV_snoc (k j : κ) (y : V) : ∀ kvs : List (κ × V), valV kvs k = none → valV (kvs ++ [(k, y)]) j = if j = k then some y else valV kvs j
  | [], _ => by
    by_cases e : k = j
    · rw [if_pos e.symm]; exact valV_pos (p := (k, y)) e
    · rw [if_neg (fun z => e z.symm)]; exact valV_neg (p := (k, y)) e
  | p :: r, hn => by
    rw [List.cons_append]
    have hk : ¬ p.1 = k := fun z => by rw [valV_pos z] at hn; cases hn
    rw [valV_neg hk] at hn
    have ih := valV_snoc k j y r hn
    by_cases e : p.1 = j
    · rw [valV_pos e, valV_pos e, if_neg (fun z => hk (e.trans z))]
    · rw [valV_neg e, valV_neg e, ih]
theorem valV_put (kvs : List (κ × V)) (k j : κ) (y : V) : valV (putK kvs k y) j = if j = k then some y else valV kvs j := by
  unfold putK
  by_cases a : (kvs.any fun kv => decide (kv.1 = k)) = true
  · rw [if_pos a, valV_map]
    rw [valV_any] at a
    by_cases e : j = k
    · obtain ⟨x, hx⟩ := Option.isSome_iff_exists.mp a
      rw [if_pos e, e, hx, Option.map_some, if_pos rfl]
    · rw [if_neg e]
      cases valV kvs j with
      | none => rfl
      | some x => rw [Option.map_some, if_neg e]
  · rw [if_neg a]
    refine valV_snoc k j y kvs ?_
    rw [valV_any] at a
    cases q : valV kvs k with
    | none => rfl
    | some x => rw [q] at a; exact (a rfl).elim
theorem length_putK (kvs : List (κ × V)) (k : κ) (v : V) : (putK kvs k v).length ≤ kvs.length + 1 := by
  unfold putK
  split
  · rw [List.length_map]; omega
  · rw [List.length_append, List.length_cons, List.length_nil]; omega
theorem putK_new {kvs : List (κ × V)} {k : κ} (v : V) (h : valV kvs k = none) : putK kvs k v = kvs ++ [(k, v)] := by
  unfold putK
  rw [valV_any, h]
  exact if_neg (by decide)

theorem RelO.isSome_eq {o : Option V} {u : Option Value} (r : RelO o u) : o.isSome = u.isSome := by
  cases o with
  | none => cases u with
    | none => rfl
    | some _ => exact (show False from r).elim
  | some _ => cases u with
    | none => exact (show False from r).elim
    | some _ => rfl
theorem RelO.getD {o : Option V} {u : Option Value} {d : V} {d' : Value} (r : RelO o u) (rd : RelV d d') : RelV (o.getD d) (u.getD d') := by
  cases o with
  | none => cases u with
    | none => exact rd
    | some _ => exact (show False from r).elim
  | some _ => cases u with
    | none => exact (show False from r).elim
    | some _ => exact r

/-- raw tables of the same keys -/
theorem KV.val {kvs : List (κ × V)} {vs : List (κ × Value)} (r : KV kvs vs) (k : κ) : RelO (valV kvs k) (valueAt vs k) := by
  unfold KV at r
  induction r with
  | nil => exact True.intro
  | @cons p q ps qs h t ih =>
    obtain ⟨h1, h2⟩ := h
    by_cases e : p.1 = k
    · have e' : q.1 = k := h1.symm.trans e
      have b : valueAt (q :: qs) k = some q.2 := by simp [valueAt, List.find?_cons, e']
      rw [valV_pos e, b]; exact h2
    · have e' : ¬ q.1 = k := fun z => e (h1.trans z)
      have b : valueAt (q :: qs) k = valueAt qs k := by simp [valueAt, List.find?_cons, e']
      rw [valV_neg e, b]; exact ih
theorem KV.any {kvs : List (κ × V)} {vs : List (κ × Value)} (r : KV kvs vs) (k : κ) : (kvs.any fun kv => decide (kv.1 = k)) = vs.any fun kv => decide (kv.1 = k) := by
  unfold KV at r
  induction r with
  | nil => rfl
  | cons h t ih => rw [List.any_cons, List.any_cons, ih, h.1]
theorem KV.repl {kvs : List (κ × V)} {vs : List (κ × Value)} (r : KV kvs vs) (k : κ) {y : V} {u : Value} (ry : RelV y u) :
    KV (kvs.map fun kv => if kv.1 = k then (kv.1, y) else kv) (vs.map fun kv => if kv.1 = k then (kv.1, u) else kv) := by
  unfold KV at r ⊢
  induction r with
  | nil => exact .nil
  | @cons p q ps qs h t ih =>
    rw [List.map_cons, List.map_cons]
    refine .cons ?_ ih
    obtain ⟨h1, h2⟩ := h
    by_cases e : p.1 = k
    · rw [if_pos e, if_pos (h1.symm.trans e)]; exact ⟨h1, ry⟩
    · rw [if_neg e, if_neg (fun z => e (h1.trans z))]; exact ⟨h1, h2⟩
theorem KV.put {kvs : List (κ × V)} {vs : List (κ × Value)} (r : KV kvs vs) (k : κ) {y : V} {u : Value} (ry : RelV y u) : KV (putK kvs k y) (stored vs k u) := by
  unfold putK stored
  rw [r.any k]
  by_cases e : (vs.any fun kv => decide (kv.1 = k)) = true
  · rw [if_pos e, if_pos e]; exact r.repl k ry
  · rw [if_neg e, if_neg e]; exact Paired.snoc r ⟨rfl, ry⟩
theorem KV.drop {kvs : List (κ × V)} {vs : List (κ × Value)} (r : KV kvs vs) (k : κ) : KV (dropK kvs k) (without vs k) := by
  unfold KV at r ⊢
  unfold dropK without
  induction r with
  | nil => exact .nil
  | @cons p q ps qs h t ih =>
    obtain ⟨h1, h2⟩ := h
    rw [List.filter_cons, List.filter_cons]
    by_cases e : p.1 = k
    · have a : ¬ decide (p.1 ≠ k) = true := by simp [e]
      have b : ¬ decide (q.1 ≠ k) = true := by simp [h1.symm.trans e]
      rw [if_neg a, if_neg b]; exact ih
    · have e' : ¬ q.1 = k := fun z => e (h1.trans z)
      have a : decide (p.1 ≠ k) = true := by simp [e]
      have b : decide (q.1 ≠ k) = true := by simp [e']
      rw [if_pos a, if_pos b]; exact .cons ⟨h1, h2⟩ ih
theorem KV.keys {kvs : List (κ × V)} {vs : List (κ × Value)} (r : KV kvs vs) : kvs.map (·.1) = vs.map (·.1) := by
  unfold KV at r
  induction r with
  | nil => rfl
  | cons h t ih => rw [List.map_cons, List.map_cons, ih, h.1]
theorem KV.length {kvs : List (κ × V)} {vs : List (κ × Value)} (r : KV kvs vs) : kvs.length = vs.length := Paired.length r
theorem dropK_le (kvs : List (κ × V)) (k : κ) : (dropK kvs k).length ≤ kvs.length := List.length_filter_le _ _
end


/-! ### a tracked dict, its keys ints and texts or tuples of these -/
theorem kV_is {P : Program} {w : World} {k : Key} {u : Value} (r : RelV (kV k) u) : (mixKind P w).is k u = true := by
  cases k with
  | inl i => obtain ⟨t, e⟩ := (show ∃ t, u = Value.int i t from r); subst e; exact mixKind_int P w i t
  | inr x => obtain ⟨t, e⟩ := (show ∃ t, u = Value.str x t from r); subst e; exact mixKind_str P w x t
theorem items_are {P : Program} {w : World} : ∀ {ks : List Key} {us : List Value}, Vals (ks.map kV) us → ItemsAre (mixKind P w) ks us
  | [], _, r => by rw [List.map_nil] at r; cases r; exact .nil
  | k :: ks, _, r => by
    rw [List.map_cons] at r
    cases r with
    | cons h t => exact .cons (kV_is h) (items_are t)

/-- raw entries of a dict with tuple keys -/
abbrev KT (H : Hp) : List (List Key × V) → List (List Key × Addr × Value) → Prop := Paired fun p q => p.1 = q.1 ∧ H q.2.1 = some (.tup (p.1.map kV)) ∧ RelV p.2 q.2.2
theorem KT.val {H : Hp} {kvs : List (List Key × V)} {xs : List (List Key × Addr × Value)} (r : KT H kvs xs) (k : List Key) : RelO (valV kvs k) ((atKey xs k).map (·.2)) := by
  induction r with
  | nil => exact True.intro
  | @cons p q ps qs h t ih =>
    obtain ⟨h1, _, h2⟩ := h
    by_cases e : p.1 = k
    · have e' : q.1 = k := h1.symm.trans e
      have b : atKey (q :: qs) k = some q.2 := by simp [atKey, List.find?_cons, e']
      rw [valV_pos e, b]; exact h2
    · have e' : ¬ q.1 = k := fun z => e (h1.trans z)
      have b : atKey (q :: qs) k = atKey qs k := by simp [atKey, List.find?_cons, e']
      rw [valV_neg e, b]; exact ih
theorem KT.repl {H : Hp} {kvs : List (List Key × V)} {xs : List (List Key × Addr × Value)} (r : KT H kvs xs) (k : List Key) {y : V} {u : Value} (ry : RelV y u) :
    KT H (kvs.map fun kv => if kv.1 = k then (kv.1, y) else kv) (xs.map (putAt k u)) := by
  induction r with
  | nil => exact .nil
  | @cons p q ps qs h t ih =>
    rw [List.map_cons, List.map_cons]
    refine .cons ?_ ih
    obtain ⟨h1, h2, h3⟩ := h
    unfold putAt
    by_cases e : p.1 = k
    · rw [if_pos e, if_pos (h1.symm.trans e)]; exact ⟨h1, h2, ry⟩
    · rw [if_neg e, if_neg (fun z => e (h1.trans z))]; exact ⟨h1, h2, h3⟩
theorem KT.put {H : Hp} {kvs : List (List Key × V)} {xs : List (List Key × Addr × Value)} (r : KT H kvs xs) (k : List Key) {b : Addr} {y : V} {u : Value} (hb : H b = some (.tup (k.map kV))) (ry : RelV y u) :
    KT H (putK kvs k y) (storedH xs k b u) := by
  have e : (kvs.any fun kv => decide (kv.1 = k)) = (atKey xs k).isSome := by
    rw [valV_any, (r.val k).isSome_eq, Option.isSome_map]
  unfold putK storedH
  rw [e]
  by_cases q : (atKey xs k).isSome = true
  · rw [if_pos q, if_pos q]; exact r.repl k ry
  · rw [if_neg q, if_neg q]; exact Paired.snoc r ⟨rfl, hb, ry⟩
theorem KT.keeps {H H' : Hp} {kvs : List (List Key × V)} {xs : List (List Key × Addr × Value)} (r : KT H kvs xs) (ht : ∀ b ys, H b = some (.tup ys) → H' b = some (.tup ys)) : KT H' kvs xs :=
  Paired.mapP r fun _ _ z => ⟨z.1, ht _ _ z.2.1, z.2.2⟩

section
variable {P : Program} {w : World} {H : Hp} {h : Heap} {a : Addr}
theorem rd_of {u : HO} (ok : HOk P w H h) (e : Rd H a u) : ObjOk P w H h a u := e.ok ok
theorem dk_rd {kvs : List (Key × V)} (ok : HOk P w H h) (e : Rd H a (.dK kvs)) : kvs.length ≤ sizeLine ∧ (a == sysModules) = false ∧ ∃ vs, KV kvs vs ∧ h.DictOf (mixKind P w) a vs :=
  show ObjOk P w H h a (.dK kvs) from rd_of ok e
theorem dk_of {kvs : List (Key × V)} (ok : HOk P w H h) (e : H a = some (.dK kvs)) : kvs.length ≤ sizeLine ∧ (a == sysModules) = false ∧ ∃ vs, KV kvs vs ∧ h.DictOf (mixKind P w) a vs := dk_rd ok (.inl e)
/-- a tracked tuple of ints and texts is a key -/
theorem key_of {ks : List Key} (ok : HOk P w H h) (e : H a = some (.tup (ks.map kV))) : (tupleKind (mixKind P w)).is h ks a := by
  obtain ⟨_, its, r, o, h1, h2, n, h3⟩ := (show ObjOk P w H h a (.tup (ks.map kV)) from ok a _ e)
  exact ⟨o, its.toArray, n, h1, h2, h3, by simpa using items_are r⟩
theorem dt_rd {kvs : List (List Key × V)} (ok : HOk P w H h) (e : Rd H a (.dT kvs)) : kvs.length ≤ sizeLine ∧ (a == sysModules) = false ∧
    ∃ xs, KT H kvs xs ∧ h.DictOfH (tupleKind (mixKind P w)) a xs := by
  obtain ⟨z, y, xs, r, o, es, ep, h1, h2, h3, h4, h5⟩ := (show ObjOk P w H h a (.dT kvs) from rd_of ok e)
  refine ⟨z, y, xs, r, o, es, ep, h1, h2, h3, h4, fun x hx => ?_, h5⟩
  have all : ∀ {l : List (List Key × V)} {m : List (List Key × Addr × Value)}, KT H l m → ∀ x ∈ m, (tupleKind (mixKind P w)).is h x.1 x.2.1 := by
    intro l m q
    induction q with
    | nil => intro x hx; exact nomatch hx
    | @cons p q ps qs hq t ih =>
      intro x hx
      rcases List.mem_cons.mp hx with e | hx
      · subst e
        exact key_of ok (by rw [← hq.1]; exact hq.2.1)
      · exact ih x hx
  exact all r x hx
theorem dt_of {kvs : List (List Key × V)} (ok : HOk P w H h) (e : H a = some (.dT kvs)) : kvs.length ≤ sizeLine ∧ (a == sysModules) = false ∧
    ∃ xs, KT H kvs xs ∧ h.DictOfH (tupleKind (mixKind P w)) a xs := dt_rd ok (.inl e)
end

/-- what the dict at a holds at the key y -/
def DGet (H : Hp) (a : Addr) (y : V) (r : Option V) : Prop :=
  (∃ kvs k, Rd H a (.dK kvs) ∧ y = kV k ∧ r = valV kvs k) ∨ ∃ kvs k b, Rd H a (.dT kvs) ∧ y = .ref b ∧ H b = some (.tup (k.map kV)) ∧ r = valV kvs k
/-- the heap behind a[y] = v -/
def DPut (H : Hp) (a : Addr) (y v : V) (H' : Hp) : Prop :=
  (∃ kvs k, H a = some (.dK kvs) ∧ y = kV k ∧ kvs.length < sizeLine ∧ H' = upd H a (.dK (putK kvs k v))) ∨
  ∃ kvs k b, H a = some (.dT kvs) ∧ y = .ref b ∧ H b = some (.tup (k.map kV)) ∧ kvs.length < sizeLine ∧ H' = upd H a (.dT (putK kvs k v))
theorem DPut.k {H : Hp} {a : Addr} {kvs : List (Key × V)} {k : Key} {v : V} (e : H a = some (.dK kvs)) (hl : kvs.length < sizeLine) : DPut H a (kV k) v (upd H a (.dK (putK kvs k v))) := .inl ⟨kvs, k, e, rfl, hl, rfl⟩


section
variable {X : Cx} {pins : List (Addr × Obj)} {σ : St} {H : Hp} {s : Shared} {a : Addr} {y v : V} {u r : Value} {o : Option V} {A : Around} {E : Value → Shared → Prop}

theorem Inv.big (I : Inv X pins σ H s) : sysModules < s.heap.objs.size := by
  have h : mainGlobals < s.heap.objs.size := (I.mod.glob.keeps I.bk).lt
  exact Nat.lt_trans (by decide) h

/-- d[y], there -/
theorem d_getItem {Q : Value → Shared → Prop} (hu : A.units + 1 < cLine) (I : Inv X pins σ H s) (g : DGet H a y (some v)) (ry : RelV y u) (h : ∀ w' s', Inv X pins σ H s' → RelV v w' → Q w' s') :
    wpAny (model X.prog X.w) A (getItem (.ref a) u) Q E s := by
  rcases g with ⟨kvs, k, e, ey, l⟩ | ⟨kvs, k, b, e, ey, eb, l⟩
  · subst ey
    obtain ⟨z, hd, vs, rel, dd⟩ := dk_rd I.hok e
    obtain ⟨w', hw, rw'⟩ := RelO.some_of (v := v) (o := valueAt vs k) (by rw [l]; exact rel.val k)
    exact wpAny_getItem_of (kV_is ry) dd.mapOf hw (h w' _ (I.tok _) rw')
  · subst ey
    cases (show u = Value.ref b from ry)
    obtain ⟨z, hd, xs, rel, dd⟩ := dt_rd I.hok e
    obtain ⟨w', hw, rw'⟩ := RelO.some_of (v := v) (o := (atKey xs k).map (·.2)) (by rw [l]; exact rel.val k)
    obtain ⟨p, hp, hp2⟩ := Option.map_eq_some_iff.mp hw
    refine wpAny_getItem_heap (tupleKind_room_in1 hu) (key_of I.hok eb) dd hp ?_
    rw [hp2]
    exact h w' _ (I.tok _) rw'
theorem d_notIn {Q : Value → Shared → Prop} (hu : A.units + 1 < cLine) (I : Inv X pins σ H s) (g : DGet H a y o) (ry : RelV y u) (h : ∀ s', Inv X pins σ H s' → Q (.bool (!o.isSome)) s') :
    wpAny (model X.prog X.w) A (compareOp .NotIn u (.ref a)) Q E s := by
  rcases g with ⟨kvs, k, e, ey, l⟩ | ⟨kvs, k, b, e, ey, eb, l⟩
  · subst ey
    obtain ⟨z, hd, vs, rel, dd⟩ := dk_rd I.hok e
    refine wpAny_notIn_of (kV_is ry) hd dd.mapOf ?_
    rw [← (rel.val k).isSome_eq, ← l]
    exact h _ (I.tok _)
  · subst ey
    cases (show u = Value.ref b from ry)
    obtain ⟨z, hd, xs, rel, dd⟩ := dt_rd I.hok e
    refine wpAny_notIn_heap (tupleKind_room_in1 hu) (key_of I.hok eb) hd dd ?_
    have q := (rel.val k).isSome_eq
    rw [Option.isSome_map] at q
    rw [← q, ← l]
    exact h _ (I.tok _)
/-- a dict's object is replaced -/
theorem d_write {h' : Heap} {t' : Nat} {ob : HO} (I : Inv X pins σ H s) (mu : Mut (H a)) (hs : Heap.SameBut a s.heap h') (he : ∃ q, h'.get? a = some q) (new : ObjOk X.prog X.w (upd H a ob) h' a ob) :
    Inv X pins σ (upd H a ob) { s with heap := h', toks := t' } :=
  I.write (x := a) (e := a) mu (.inl rfl) (fun b q hb z => (hs.2 b hb).trans z) he new
theorem dk_new {P : Program} {w : World} {H' : Hp} {h' : Heap} {kvs : List (Key × V)} {vs : List (Key × Value)} (z : kvs.length ≤ sizeLine) (hd : (a == sysModules) = false) (rel : KV kvs vs) (dd : h'.DictOf (mixKind P w) a vs) :
    ObjOk P w H' h' a (.dK kvs) := ⟨z, hd, vs, rel, dd⟩
/-- d[y] = v -/
theorem d_setItem {H' : Hp} {Q : Unit → Shared → Prop} (hu : A.units + 1 < cLine) (I : Inv X pins σ H s) (g : DPut H a y v H') (ry : RelV y u) (rv : RelV v r) (h : ∀ s', Inv X pins σ H' s' → Q () s') :
    wpAny (model X.prog X.w) A (setItem (.ref a) u r) Q E s := by
  rcases g with ⟨kvs, k, e, ey, l, eH⟩ | ⟨kvs, k, b, e, ey, eb, l, eH⟩
  · subst ey eH
    obtain ⟨z, hd, vs, rel, dd⟩ := dk_of I.hok e
    have hz : vs.length ≤ sizeLine := by rw [← rel.length]; exact z
    have hl : (putK kvs k v).length ≤ sizeLine := by have := length_putK kvs k v; omega
    refine wpAny_setItem_pairs (hsz := hz) (kV_is ry) dd fun h' dd' hs => h _ ?_
    have he : ∃ q, h'.get? a = some q := let ⟨q, _, _, hq, _⟩ := dd'; ⟨q, hq⟩
    exact d_write I (by rw [e]; exact True.intro) hs he (dk_new hl hd (rel.put k rv) dd')
  · subst ey eH
    cases (show u = Value.ref b from ry)
    obtain ⟨z, hd, xs, rel, dd⟩ := dt_of I.hok e
    have hz : xs.length ≤ sizeLine := by rw [← Paired.length rel]; exact z
    have hl : (putK kvs k v).length ≤ sizeLine := by have := length_putK kvs k v; omega
    refine wpAny_setItem_heap (hsz := hz) (tupleKind_room_in1 hu) (key_of I.hok eb) dd fun h' dd' hs => h _ ?_
    obtain ⟨q, es, ep, hq, h2, h3, h4, _, h5⟩ := dd'
    refine d_write I (by rw [e]; exact True.intro) hs ⟨q, hq⟩ ⟨hl, hd, _, (rel.put k eb rv).keeps fun c ys ec => ?_, q, es, ep, hq, h2, h3, h4, h5⟩
    rw [upd_ne (ne_of ec e (fun z => nomatch z))]
    exact ec
end

section
variable {X : Cx} {pins : List (Addr × Obj)} {σ : St} {H : Hp} {s : Shared} {a : Addr} {kvs : List (Key × V)} {k : Key} {u : Value} {A : Around} {E : Value → Shared → Prop}
/-- d.pop(k[, x]), there -/
theorem d_pop {v : V} {more : List Value} {Q : Value → Shared → Prop} (I : Inv X pins σ H s) (e : H a = some (.dK kvs)) (ry : RelV (kV k) u) (l : valV kvs k = some v) (hm : more = [] ∨ ∃ x, more = [x])
    (h : ∀ w' s', Inv X pins σ (upd H a (.dK (dropK kvs k))) s' → RelV v w' → Q w' s') : wpAny (model X.prog X.w) A (call (.builtin "dict.pop") (.ref a :: u :: more)) Q E s := by
  obtain ⟨z, hd, vs, rel, dd⟩ := dk_of I.hok e
  obtain ⟨w', hw, rw'⟩ := RelO.some_of (v := v) (o := valueAt vs k) (by rw [← l]; exact rel.val k)
  have hp : (keyPart u).isSome = true := by
    cases k with
    | inl i => obtain ⟨t, q⟩ := (show ∃ t, u = Value.int i t from ry); subst q; rfl
    | inr x => obtain ⟨t, q⟩ := (show ∃ t, u = Value.str x t from ry); subst q; rfl
  have ha : argsOk "dict.pop" ⟨.ref a :: u :: more, []⟩ := by
    rcases hm with q | ⟨x, q⟩
    · subst q; exact PySem.F.args_dict_pop_2 _ _
    · subst q; exact PySem.F.args_dict_pop_3 _ _ _
  refine call_meetsIn PySem.F.slot_dict_pop dd.typeIs PySem.F.entry_dict_pop ha (meets_dict_pop_there (mixKind X.prog X.w) a (kV_is ry) more hm hp)
    ⟨vs, w', dd, by rw [← rel.length]; exact z, hw, fun h' dd' hs => h w' _ ?_ rw'⟩
  have he : ∃ q, h'.get? a = some q := let ⟨q, _, _, hq, _⟩ := dd'; ⟨q, hq⟩
  exact d_write I (by rw [e]; exact True.intro) hs he (dk_new (Nat.le_trans (dropK_le kvs k) z) hd (rel.drop k) dd')
/-- len(d) -/
theorem d_len {Q : Value → Shared → Prop} (I : Inv X pins σ H s) (e : Rd H a (.dK kvs)) (h : ∀ t s', Inv X pins σ H s' → Q (.int kvs.length t) s') : wpAny (model X.prog X.w) A (call (.builtin "len") [.ref a]) Q E s := by
  obtain ⟨z, hd, vs, rel, dd⟩ := dk_rd I.hok e
  refine call_len_dict hd dd (by rw [← rel.length]; rw [sizeLine_eq] at z; omega) ?_
  rw [← rel.length]
  exact h _ _ (I.tok _)
end


/-! ### readings and rules -/
/-- the element of a subscription, not a slice -/
def NoSl (i : Expr) : Prop := ∀ ov iv, subscripted i false ov iv = operate [ov, iv] (getItem ov iv)
theorem subD_of {prog : Program} {w : World} {A : Around} {E : Value → Shared → Prop} {s : Shared} {env : Env} {value slice : Expr} {pos : Pos} {T id : String} {Q : Value → Shared → Prop}
    (hl : typeLookup (.type T) "__getitem__" = pure (some (.builtin id))) (hs : NoSl slice)
    (h : wpAny (model prog w) A (eval value env) (fun o s₁ => wpAny (model prog w) A (eval slice env) (fun i s₂ => s₂.TypeIs o T ∧ wpAny (model prog w) A (getItem o i) Q E s₂) E s₁) E s) :
    wpAny (model prog w) A (eval (.Subscript value slice pos) env) Q E s := by
  refine Subscript_ (wpAny_mono h (fun o s₁ h₁ => wpAny_mono h₁ (fun i s₂ h₂ => ?_) fun _ _ x => x) fun _ _ x => x)
  obtain ⟨hT, h₂⟩ := h₂
  unfold subscriptTail
  refine wpAny_bind ?_
  rw [getitemInPython_of_ne hT.not_modules]
  refine wpAny_bind (wpAny_specialOf hT hl ?_)
  have fin : wpAny (model prog w) A (subscripted slice false o i) (fun r s₃ => wpAny (model prog w) A (letTemporaryGo value o r >>= fun _ => pure r) Q E s₃) E s₂ := by
    rw [hs o i]
    exact wpAny_operating (wpAny_mono h₂ (fun r s₃ h₃ => wpAny_bind (wpAny_letTemporaryGo (wpAny_pure h₃))) fun _ _ x => x)
  first
    | exact wpAny_pure (wpAny_bind fin)
    | exact wpAny_bind (wpAny_pure (wpAny_bind fin))
    | exact wpAny_bind fin

theorem dict_typeIs {X : Cx} {pins : List (Addr × Obj)} {σ : St} {H : Hp} {s : Shared} {a : Addr} {y : V} {o : Option V} (I : Inv X pins σ H s) (g : DGet H a y o) : s.TypeIs (.ref a) "dict" := by
  rcases g with ⟨kvs, k, e, _, _⟩ | ⟨kvs, k, b, e, _, _, _⟩
  · obtain ⟨_, _, vs, _, dd⟩ := dk_rd I.hok e
    exact dd.typeIs
  · obtain ⟨_, _, xs, _, dd⟩ := dt_rd I.hok e
    exact dd.typeIs

/-- d[y] -/
def tDGet (td ty : TE) : TE := fun σ H Q => td σ H fun x H1 => ty σ H1 fun y H2 => ∃ a v, x = .ref a ∧ DGet H2 a y (some v) ∧ Q v H2
def tDNotIn (ty td : TE) : TE := fun σ H Q => ty σ H fun y H1 => td σ H1 fun x H2 => ∃ a o, x = .ref a ∧ DGet H2 a y o ∧ Q (.bl (!o.isSome)) H2
/-- d[y] = v -/
def sDPut (td ty tv : TE) : TS := fun D σ H => tv σ H fun v H1 => td σ H1 fun x H2 => ty σ H2 fun y H3 => ∃ a H4, x = .ref a ∧ DPut H3 a y v H4 ∧ D.nx σ H4

section
variable {X : Cx} {o i e value : Expr} {pos pos' tpos : Pos} {td ty tv : TE}
theorem pe_dget (hu : X.A.units + 1 < cLine) (ho : PE X o td) (hi : PE X i ty) (hs : NoSl i) : PE X (.Subscript o i pos) (tDGet td ty) := by
  intro pins s σ H Q I h
  refine subD_of PySem.F.slot_dict_getitem.lookup hs (thn (ho pins s σ H _ I h) fun u s1 ⟨x, H1, I1, rx, q1⟩ => thn (hi pins s1 σ H1 _ I1 q1) fun iv s2 ⟨y, H2, I2, ry, a, v, ex, g, q2⟩ => ?_)
  subst ex
  obtain rfl : u = Value.ref a := rx
  exact ⟨dict_typeIs I2 g, d_getItem hu I2 g ry fun w' s3 I3 rw' => ⟨v, H2, I3, rw', q2⟩⟩
theorem pc_dnotin (hu : X.A.units + 1 < cLine) (hi : PE X i ty) (ho : PE X o td) : PC X .NotIn i o (tDNotIn ty td) := by
  intro pins s σ H Q I h
  refine thn (hi pins s σ H _ I h) fun iv s1 ⟨y, H1, I1, ry, q1⟩ => thn (ho pins s1 σ H1 _ I1 q1) fun u s2 ⟨x, H2, I2, rx, a, ov, ex, g, q2⟩ => ?_
  subst ex
  obtain rfl : u = Value.ref a := rx
  exact d_notIn hu I2 g ry fun s3 I3 => ⟨.bl (!ov.isSome), H2, I3, rfl, q2⟩
theorem ps_dput (hu : X.A.units + 1 < cLine) (ho : PE X o td) (hi : PE X i ty) (hv : PE X value tv) (hs : swapsWith value (some (.Subscript o i pos')) pos.line X.env = pure false) :
    PS X (.Assign [.Subscript o i pos'] value pos) (sDPut td ty tv) := by
  intro pins s σ H D I h
  refine wpAny_Assign_Subscript (thn (hv pins s σ H _ I h) fun r s1 ⟨v, H1, I1, rv, q1⟩ => thn (ho pins s1 σ H1 _ I1 q1) fun u s2 ⟨x, H2, I2, rx, q2⟩ => thn (hi pins s2 σ H2 _ I2 q2) fun iv s3 ⟨y, H3, I3, ry, a, H4, ex, g, q3⟩ => ?_) hs
  subst ex
  obtain rfl : u = Value.ref a := rx
  exact d_setItem hu I3 g ry rv fun s4 I4 => ⟨σ, H4, I4, q3⟩
end


/-! ### displays -/
theorem dk_empty {P : Program} {w : World} {H : Hp} (h : Heap) (hb : sysModules < h.objs.size) : ObjOk P w H (h.push { cls := .type "dict", data := .dict #[] }) h.objs.size (.dK []) :=
  ⟨Nat.zero_le _, beq_eq_false_iff_ne.mpr (Ne.symm (Nat.ne_of_lt hb)), [], .nil, Heap.DictOf.new h⟩
/-- {}, to be a dict of the kind that is wanted -/
def tDNewK : TE := fun _ H Q => ∀ p, H p = none → Q (.ref p) (upd H p (.dK []))
section
variable {X : Cx} {pos : Pos}
theorem pe_dnewK : PE X (.Dict [] [] pos) tDNewK := fun pins s σ H Q I h =>
  wpAny_Dict_empty ⟨.ref s.heap.objs.size, _, I.laid (a := s.heap.objs.size) (o := .dK []) (t' := s.toks) (fun _ _ q => Heap.get?_push_of_some _ q) (Nat.le_refl _) (dk_empty s.heap I.big), rfl, h _ (I.hok.fresh (Nat.le_refl _))⟩
end




/-! ### methods -/
/-- a method call o.m(e) of a built-in, with one argument: what must be seen of the text -/
structure M1 (X : Cx) (o : Expr) (m : Str) (apos : Pos) (e : Expr) (cpos : Pos) : Prop where
  base : attributeBase o m X.env (eval o X.env) = eval o X.env
  few : ((backTo cpos (starEach [e] X.env)).all (fun x => !x.1) && (backToKw cpos (keywordEach [] X.env)).all (fun x => x.1.isSome)
    && decide (([e] : List Expr).length + ([] : List Keyword).length + (if ([] : List Keyword).isEmpty then 0 else 1) < 30)) = true
  line : (apos.endLine == cpos.line) = true
  trees : backTo cpos (starEach [e] X.env) = [(false, eval e X.env)]

/-- a is a dict, whatever its keys -/
def IsD (H : Hp) (a : Addr) : Prop := (∃ kvs, Rd H a (.dK kvs)) ∨ ∃ kvs, Rd H a (.dT kvs)
theorem isD_at {X : Cx} {pins : List (Addr × Obj)} {σ : St} {H : Hp} {s : Shared} {a : Addr} (I : Inv X pins σ H s) (d : IsD H a) :
    s.TypeIs (.ref a) "dict" ∧ (∀ b, Value.ref a = .ref b → ∃ ob, s.heap.get? b = some ob ∧ ob.dict = none) ∧ (a == sysModules) = false := by
  rcases d with ⟨kvs, e⟩ | ⟨kvs, e⟩
  · obtain ⟨_, hd, vs, _, dd⟩ := dk_rd I.hok e
    refine ⟨dd.typeIs, fun b q => ?_, hd⟩
    cases q
    obtain ⟨ob, _, _, h1, h2, _⟩ := dd
    exact ⟨ob, h1, h2.2.1⟩
  · obtain ⟨_, hd, xs, _, dd⟩ := dt_rd I.hok e
    refine ⟨dd.typeIs, fun b q => ?_, hd⟩
    cases q
    obtain ⟨ob, _, _, h1, h2, _⟩ := dd
    exact ⟨ob, h1, h2.2.1⟩

section
variable {X : Cx} {pins : List (Addr × Obj)} {σ : St} {H : Hp} {s : Shared} {a : Addr} {y d : V} {u r : Value} {o : Option V} {A : Around} {E : Value → Shared → Prop}
/-- d.get(y) -/
theorem d_get1 {Q : Value → Shared → Prop} (hu : A.units + 1 < cLine) (I : Inv X pins σ H s) (g : DGet H a y o) (ry : RelV y u) (h : ∀ w' s', Inv X pins σ H s' → RelV (o.getD .non) w' → Q w' s') :
    wpAny (model X.prog X.w) A (call (.builtin "dict.get") [.ref a, u]) Q E s := by
  rcases g with ⟨kvs, k, e, ey, l⟩ | ⟨kvs, k, b, e, ey, eb, l⟩
  · subst ey
    obtain ⟨z, hd, vs, rel, dd⟩ := dk_rd I.hok e
    refine call_meetsIn PySem.F.slot_dict_get dd.typeIs PySem.F.entry_dict_get (PySem.F.args_dict_get_2 _ _) (meets_dict_get (mixKind X.prog X.w) a (kV_is ry) hd) ⟨_, dd.mapOf, h _ _ (I.tok _) ?_⟩
    rw [l]
    exact (rel.val k).getD rfl
  · subst ey
    cases (show u = Value.ref b from ry)
    obtain ⟨z, hd, xs, rel, dd⟩ := dt_rd I.hok e
    refine call_meetsIn PySem.F.slot_dict_get dd.typeIs PySem.F.entry_dict_get (PySem.F.args_dict_get_2 _ _) (meetsH_dict_get (tupleKind (mixKind X.prog X.w)) a b hd) ⟨tupleKind_room_in1 hu, k, xs, key_of I.hok eb, dd, h _ _ (I.tok _) ?_⟩
    rw [l]
    exact (rel.val k).getD rfl
end

def tDGet1 (td ty : TE) : TE := fun σ H Q => td σ H fun x H1 => ∃ a, x = .ref a ∧ IsD H1 a ∧ ty σ H1 fun y H2 => ∃ o, DGet H2 a y o ∧ Q (o.getD .non) H2
/-- d.pop(k): there; d.pop(k, x): there or not -/
def tDPop1 (td ty : TE) : TE := fun σ H Q => td σ H fun x H1 => ∃ a, x = .ref a ∧ IsD H1 a ∧ ty σ H1 fun y H2 => ∃ kvs k v, H2 a = some (.dK kvs) ∧ y = kV k ∧ valV kvs k = some v ∧ Q v (upd H2 a (.dK (dropK kvs k)))
section
variable {X : Cx} {o e f : Expr} {apos cpos : Pos} {td ty tx : TE}
theorem pe_dget1 (hu : X.A.units + 1 < cLine) (ho : PE X o td) (he : PE X e ty) (m : M1 X o "get" apos e cpos) : PE X (.Call (.Attribute o "get" apos) [e] [] cpos) (tDGet1 td ty) := by
  intro pins s σ H Q I h
  refine wpAny_Call_method m.base m.few m.line PySem.F.plainAttrs_dict PySem.F.slot_dict_get PySem.F.type_dict_get (thn (ho pins s σ H _ I h) fun u s1 ⟨x, H1, I1, rx, a, ex, d, q1⟩ => ?_)
  subst ex
  obtain rfl : u = Value.ref a := rx
  obtain ⟨t1, t2, _⟩ := isD_at I1 d
  refine ⟨t1, t2, ?_⟩
  rw [m.trees]
  refine Calls.callWith_builtin rfl (Calls.evalArgs_plain (Calls.spliced_cons (thn (he pins s1 σ H1 _ I1 q1) fun iv s2 ⟨y, H2, I2, ry, ov, g, q2⟩ => Calls.spliced_nil ?_)))
  exact d_get1 hu I2 g ry fun w' s3 I3 rw' => ⟨_, H2, I3, rw', q2⟩
theorem pe_dpop1 (ho : PE X o td) (he : PE X e ty) (m : M1 X o "pop" apos e cpos) : PE X (.Call (.Attribute o "pop" apos) [e] [] cpos) (tDPop1 td ty) := by
  intro pins s σ H Q I h
  refine wpAny_Call_method m.base m.few m.line PySem.F.plainAttrs_dict PySem.F.slot_dict_pop PySem.F.type_dict_pop (thn (ho pins s σ H _ I h) fun u s1 ⟨x, H1, I1, rx, a, ex, d, q1⟩ => ?_)
  subst ex
  obtain rfl : u = Value.ref a := rx
  obtain ⟨t1, t2, _⟩ := isD_at I1 d
  refine ⟨t1, t2, ?_⟩
  rw [m.trees]
  refine Calls.callWith_builtin rfl (Calls.evalArgs_plain (Calls.spliced_cons (thn (he pins s1 σ H1 _ I1 q1) fun iv s2 ⟨y, H2, I2, ry, kvs, k, v, ea, ey, l, q2⟩ => Calls.spliced_nil ?_)))
  subst ey
  exact d_pop I2 ea ry l (.inl rfl) fun w' s3 I3 rw' => ⟨v, _, I3, rw', q2⟩
end

/-! ### dict(d): a copy -/
section
variable {X : Cx} {pins : List (Addr × Obj)} {σ : St} {H : Hp} {s : Shared} {a : Addr} {kvs : List (Key × V)} {A : Around} {E : Value → Shared → Prop}
end


section
variable {X : Cx} {pins : List (Addr × Obj)} {σ : St} {H : Hp} {s : Shared} {a : Addr} {y : V} {u : Value} {A : Around} {E : Value → Shared → Prop}
end
end L2

namespace L2
open PySem PySem.Spec PyProof.Rows


section
variable {prog : Program} {w : World} {A : Around} {E : Value → Shared → Prop}


end

section
variable {X : Cx}
end
end L2

namespace L2
open PySem PySem.Spec PyProof.Rows

theorem boot_reversed5 : bootBuiltins "reversed" = some (.type "reversed") := by decide +kernel

section
variable {X : Cx} {pins : List (Addr × Obj)} {σ : St} {H : Hp} {s : Shared} {h' : Heap}
/-- .. and one new object is laid -/
theorem Inv.turnedNew {t' : Nat} {ch : List Addr} {T : Addr} {ob : HO} (I : Inv X pins σ H s) (k : ∀ b o, b ∉ ch → s.heap.get? b = some o → h'.get? b = some o) (hf : ∀ b ∈ ch, FpOk X pins H b) (hT : s.heap.objs.size ≤ T)
    (new : ObjOk X.prog X.w (upd H T ob) h' T ob) : Inv X pins σ (upd H T ob) { s with heap := h', toks := t' } := by
  have hn : H T = none := I.hok.fresh hT
  have nit : ∀ b u, H b = some u → b ∉ ch := fun b u e z => by
    have q := (hf b z).1
    rw [q] at e; cases e
  refine I.step (g' := s.gens) (d' := s.drawn) (ch := ch) (fun b hb => ⟨(hf b hb).2.2.2.1, (hf b hb).2.1, (hf b hb).2.2.2.2.1, (hf b hb).2.2.2.2.2⟩) (fun b o _ _ hc e _ => k b o hc e) (fun b o _ _ hc e _ => ⟨o.slots, k b o hc e⟩)
    (fun b o _ e n => ?_) (fun b o hc e => ⟨o, k b o hc e⟩) (fun b xs e => ?_) (fun b o u e => ?_) (fun b ps e => ⟨#[], ?_⟩) (fun m hm => ?_) (fun b u e => ?_) I.bare
  · rw [upd_ne (Nat.ne_of_lt (Nat.lt_of_lt_of_le (Heap.lt_size e) hT))]; exact n
  · rw [upd_ne (ne_of_none e hn)]; exact e
  · rw [upd_ne (ne_of_none e hn)]; exact e
  · rw [upd_ne (ne_of_none e hn), e]; simp
  · obtain ⟨o, es, ep, ho, r⟩ := hm
    exact ⟨o, es, ep, k _ o (fun z => (hf _ z).2.1 rfl) ho, r⟩
  · by_cases hb : b = T
    · subst hb
      rw [upd_same] at e
      cases e
      exact new
    · rw [upd_ne hb] at e
      refine (I.hok b u e).stay (fun c v hc q => k c v ?_ q) (fun c q => by rw [upd_ne (ne_of_none q hn)]; exact q) fun c xs q => by rw [upd_ne (ne_of_none q hn)]; exact q
      rcases hc with z | z
      · rw [z]; exact nit b u e
      · exact nit c _ z

/-! ### locking a thing while a statement runs -/
end
section
variable {X : Cx}

/-! ### one iterator just laid -/
theorem pi_one {tg : Expr} {pins : List (Addr × Obj)} {σ : St} {H : Hp} {s : Shared} {R : It → Hp → Prop} {J : It} {tn : Nat → Heap → Prop} {tk : Nat} (I : Inv X pins σ H s) (o : Obj)
    (T : Turn X.prog X.w X.K tg J [s.heap.objs.size] s.heap.objs.size tn) (st : tn 0 (s.heap.push o)) (q : R J H) : PIE X pins σ tg R (.ref s.heap.objs.size) { s with heap := s.heap.push o, toks := tk } := by
  refine ⟨s.heap.objs.size, [s.heap.objs.size], tn, J, H, rfl, I.kept fun b ob e => Heap.get?_push_of_some _ e, T, st, fun b hb => ?_, q⟩
  have e : b = s.heap.objs.size := by simpa using hb
  subst e
  exact I.fpOk (Nat.le_refl _) (I.hok.fresh (Nat.le_refl _))
end

/-! ### range with a step -/
section
variable {X : Cx} {tg : Expr}
end

/-! ### reversed(list) -/
/-- the list at a (n items at the start, which the loop leaves there), from its end -/
def Itv (K : PySem.W.Frag) (a : Addr) (n : Nat) : It :=
  ⟨fun i H => i < n ∧ ∃ (xs : List V) (x : V), SqL K H a xs ∧ xs[n - 1 - i]? = some x, fun i H x H' => H' = H ∧ ∀ xs, SqL K H a xs → xs[n - 1 - i]? = some x, fun i _ => n ≤ i⟩
theorem turn_rev {P : Program} {w : World} {K : PySem.W.Frag} {tg : Expr} (a it : Addr) (n : Nat) : Turn P w K tg (Itv K a n) [it] it (fun i h => i ≤ n ∧ h.IsRevIter it a ((n : Int) - 1 - (i : Nat))) where
  mem := by simp
  obj := fun i h st b hb => by
    have e : b = it := by simpa using hb
    subst e
    obtain ⟨_, o, e, c, d⟩ := st
    exact ⟨o, e, fun v z => by rw [d] at z; cases z⟩
  keep := fun i h h' st k => ⟨st.1, st.2.at fun o e => k it (by simp) o e⟩
  item := by
    intro X hP hw hK hc i pins s σ H E I hf st hg
    subst hP hw hK
    obtain ⟨hin, xs, x, hq, hx⟩ := hg
    obtain ⟨its, rv, p, hz⟩ := I.list hq
    obtain ⟨u, hu, ru⟩ := rv.get hx
    obtain ⟨f0, f1, f2, f3, f4, f5⟩ := hf it (by simp)
    obtain ⟨_, hit⟩ := st
    have e1 : (n : Int) - 1 - ((i : Nat) : Int) = ((n - 1 - i : Nat) : Int) := by omega
    rw [e1] at hit
    refine wpAny_pyNext_rev_item hit p.isList (x := u) (by simpa using hu) fun h' st' sb => ?_
    have e2 : ((n - 1 - i : Nat) : Int) - 1 = (n : Int) - 1 - ((i + 1 : Nat) : Int) := by omega
    rw [e2] at st'
    have I1 : Inv X pins σ H { s with heap := h' } := I.turned (t' := s.toks) (fun b o hb e => (sb.2 b hb).trans e) f0 f1 f3 f4 f5
    obtain ⟨o, e, c, d⟩ := id st'
    exact ⟨u, rfl, go_of (s := { s with heap := h' }) e c d (by decide) ⟨x, H, I1, ru, ⟨rfl, fun ys hy => by rw [I.list_inj hy hq]; exact hx⟩, ⟨hin, st'⟩, fun b hb => (hf b hb).1⟩⟩
  done := by
    intro X hP hw hK hc i pins s σ H E I hf st hg
    subst hP hw hK
    obtain ⟨f0, f1, f2, f3, f4, f5⟩ := hf it (by simp)
    obtain ⟨hin, hit⟩ := st
    have hge : n ≤ i := hg
    have e1 : (n : Int) - 1 - ((i : Nat) : Int) = -1 := by omega
    rw [e1] at hit
    exact wpAny_pyNext_rev_end (I.ok.hd hc) hit fun h' eb => ⟨rfl, I.turned (t' := s.toks) (fun b o hb e => eb b o hb e) f0 f1 f3 f4 f5⟩
  self := fun A i s Q E st h => wpAny_pyIter_revIter st.2 h
def iRev (K : PySem.W.Frag) (ta : TA) : TI := fun σ H R => ta σ H fun vs H1 => ∃ (a : Addr) (xs : List V), vs = [.ref a] ∧ SqL K H1 a xs ∧ R (Itv K a xs.length) H1
section
variable {X : Cx} {tg : Expr}
theorem pi_reversed {e : Expr} {ta : TA} {p pos : Pos} (hg : Gl X "reversed") (hm : X.mg "reversed" = none) (ha : PA X [e] ta) (hs : starEach [e] X.env = [(false, eval e X.env)] := by rfl) : PI X tg (.Call (.Name "reversed" p) [e] [] pos) (iRev X.K ta) := by
  intro pins s σ H R I h
  refine Call_ (ld_blt I hg hm boot_reversed5 (PyProof.Rows.callWith_type1 (thn (ha pos pins s σ H _ I h) fun us s1 ⟨vs, H1, I1, r1, q1⟩ => ?_) hs rfl))
  obtain ⟨a, xs, e, hq, q⟩ := q1
  subst e
  cases r1 with
  | cons r rr =>
    cases rr
    cases r
    obtain ⟨its, rv, p', hz⟩ := I1.list hq
    have hl := rv.length
    have e1 : ((its.toArray.size : Nat) : Int) - 1 = (xs.length : Int) - 1 - ((0 : Nat) : Int) := by simp only [List.size_toArray]; omega
    refine call_reversed_list p'.isList (wpAny_pyIter_revIter (l := a) (i := ((its.toArray.size : Nat) : Int) - 1) ⟨_, Heap.get?_push_size _ rfl, rfl, rfl⟩ ?_)
    refine pi_one (tk := s1.toks) I1 _ (turn_rev a _ xs.length) ⟨Nat.zero_le _, ?_⟩ q
    rw [← e1]
    exact ⟨_, Heap.get?_push_size _ rfl, rfl, rfl⟩
end

/-! ### a str -/

/-! ### a dict's keys: any dict's entries -/
section
variable {prog : Program} {w : World} {A : Around} {E : Value → Shared → Prop} {s : Shared}
end

/-! ### a locked dict -/
section
variable {X : Cx} {pins : List (Addr × Obj)} {σ : St} {H : Hp} {s : Shared} {d : Addr} {o : Obj}
end

section
variable {P : Program} {w : World} {K : PySem.W.Frag} {tg : Expr} {d : Addr} {o : Obj} {es : Array DictEntry} {ep : Nat}
end

/-! ### for k in d, d.keys(), d.values(), d.items() -/
section
variable {X : Cx} {tg e : Expr} {td : TE} {apos cpos : Pos}
end

/-! ### enumerate(list) -/
/-- the list at a as it stands at each turn, each item in a new pair -/
def Ite (K : PySem.W.Frag) (a : Addr) : It :=
  ⟨fun i H => ∃ (xs : List V) (x : V), SqL K H a xs ∧ xs[i]? = some x, fun i H v H' => ∃ T x, v = .ref T ∧ H T = none ∧ H' = upd H T (.tup [.int (i : Nat), x]) ∧ ∀ xs, SqL K H a xs → xs[i]? = some x, fun i H => ∃ xs : List V, SqL K H a xs ∧ xs.length ≤ i⟩
theorem turn_enum {P : Program} {w : World} {K : PySem.W.Frag} {elts : List Expr} {kk : Nat} {tpos : Pos} (a e it : Addr) :
    Turn P w K (.Tuple elts kk tpos) (Ite K a) [e, it] e (fun i h => (∃ old, IsEnum h e it ((i : Nat) : Int) old) ∧ h.IsListIter it a i ∧ e ≠ it) where
  mem := by simp
  obj := fun i h st b hb => by
    obtain ⟨⟨old, he⟩, ⟨o, ho, hc, hd⟩, _⟩ := st
    have e' : b = e ∨ b = it := by simpa using hb
    rcases e' with z | z
    · rw [z]; exact ⟨_, he, fun v q => nomatch q⟩
    · rw [z]; exact ⟨o, ho, fun v q => by rw [hd] at q; cases q⟩
  keep := fun i h h' st k => let ⟨⟨old, he⟩, hi, hne⟩ := st; ⟨⟨old, k e (by simp) _ he⟩, hi.at fun o q => k it (by simp) o q, hne⟩
  item := by
    intro X hP hw hK hc i pins s σ H E I hf st hg
    subst hP hw hK
    obtain ⟨⟨old, he⟩, hit, hne⟩ := st
    obtain ⟨xs, x, hq, hx⟩ := hg
    obtain ⟨its, rv, p, hz⟩ := I.list hq
    obtain ⟨u, hu, ru⟩ := rv.get hx
    have hel : e < s.heap.objs.size := Heap.lt_size he
    have hil : it < s.heap.objs.size := by obtain ⟨_, q, _⟩ := hit; exact Heap.lt_size q
    refine wpAny_pyNext_enum_item he hit p.isList (x := u) (by simpa using hu) hne fun h' ho hit' hT hsz hk => ?_
    refine ⟨_, rfl, wpAny_letOwnedTupleGo_enum (s := { s with heap := h', toks := s.toks + 1 }) ho fun h'' he' sb => ?_⟩
    have hT2 : h''.get? s.heap.objs.size = some { cls := .type "tuple", data := .seq #[.int i s.toks, u] } := (sb.2 _ (Nat.ne_of_gt hel)).trans hT
    have new : ObjOk X.prog X.w (upd H s.heap.objs.size (.tup [.int (i : Nat), x])) h'' s.heap.objs.size (.tup [.int (i : Nat), x]) :=
      ⟨by show 2 ≤ sizeLine; decide, [.int i s.toks, u], .cons ⟨_, rfl⟩ (.cons ru .nil), ⟨_, hT2, rfl, _, rfl⟩⟩
    have I1 : Inv X pins σ (upd H s.heap.objs.size (.tup [.int (i : Nat), x])) { s with heap := h'', toks := s.toks + 1 } :=
      I.turnedNew (ch := [e, it]) (fun b ob hb q => (sb.2 b (fun z => hb (by simp [z]))).trans (hk b ob (fun z => hb (by simp [z])) (fun z => hb (by simp [z])) q)) hf (Nat.le_refl _) new
    refine ⟨.ref s.heap.objs.size, _, I1, rfl, ⟨_, x, rfl, I.hok.fresh (Nat.le_refl _), rfl, fun ys hy => by rw [I.list_inj hy hq]; exact hx⟩, ⟨⟨u, ?_⟩, hit'.at fun o q => (sb.2 it (Ne.symm hne)).trans q, hne⟩, fun b hb => ?_⟩
    · have e1 : ((i + 1 : Nat) : Int) = (i : Int) + 1 := by omega
      rw [e1]; exact he'
    · have hb' : b < s.heap.objs.size := by
        have e' : b = e ∨ b = it := by simpa using hb
        rcases e' with z | z
        · rw [z]; exact hel
        · rw [z]; exact hil
      rw [upd_ne (Nat.ne_of_lt hb')]
      exact (hf b hb).1
  done := by
    intro X hP hw hK hc i pins s σ H E I hf st hg
    subst hP hw hK
    obtain ⟨⟨old, he⟩, hit, hne⟩ := st
    obtain ⟨xs, hq, hx⟩ := hg
    obtain ⟨its, rv, p, hz⟩ := I.list hq
    obtain ⟨f0, f1, f2, f3, f4, f5⟩ := hf it (by simp)
    have hl := rv.length
    exact wpAny_pyNext_enum_end (I.ok.hd hc) he hit p.isList (by simp; omega) fun h' eb => ⟨rfl, I.turned (t' := s.toks) (fun b o hb q => eb b o hb q) f0 f1 f3 f4 f5⟩
  self := fun A i s Q E st h => let ⟨⟨_, he⟩, _⟩ := st; wpAny_pyIter_enum he h
def iEnum (K : PySem.W.Frag) (ta : TA) : TI := fun σ H R => ta σ H fun vs H1 => ∃ a xs, vs = [.ref a] ∧ SqL K H1 a xs ∧ R (Ite K a) H1
theorem pi_enum {X : Cx} {e : Expr} {ta : TA} {p pos tpos : Pos} {elts : List Expr} {kk : Nat} (hg : Gl X "enumerate") (hm : X.mg "enumerate" = none) (ha : PA X [e] ta) (hs : starEach [e] X.env = [(false, eval e X.env)] := by rfl) :
    PI X (.Tuple elts kk tpos) (.Call (.Name "enumerate" p) [e] [] pos) (iEnum X.K ta) := by
  intro pins s σ H R I h
  refine Call_ (ld_blt I hg hm boot_enumerate (PyProof.Rows.callWith_type1 (thn (ha pos pins s σ H _ I h) fun us s1 ⟨vs, H1, I1, r1, q1⟩ => ?_) hs rfl))
  obtain ⟨a, xs, ex, hq, q⟩ := q1
  subst ex
  cases r1 with
  | cons r rr =>
    cases rr
    cases r
    obtain ⟨its, rv, p', hz⟩ := I1.list hq
    refine call_enumerate_list p'.isList fun h' he hit hsz hk => wpAny_pyIter_enum he ?_
    have I2 : Inv X pins σ H1 { s1 with heap := h' } := I1.kept (t' := s1.toks) hk
    refine ⟨s1.heap.objs.size + 1, [s1.heap.objs.size + 1, s1.heap.objs.size], _, _, H1, rfl, I2, turn_enum a (s1.heap.objs.size + 1) s1.heap.objs.size, ⟨⟨.none, he⟩, hit, Nat.succ_ne_self _⟩, fun b hb => ?_, q⟩
    have e' : b = s1.heap.objs.size + 1 ∨ b = s1.heap.objs.size := by simpa using hb
    have hle : s1.heap.objs.size ≤ b := by
      rcases e' with z | z
      · rw [z]; exact Nat.le_add_right _ _
      · rw [z]; exact Nat.le_refl _
    exact I1.fpOk hle (I1.hok.fresh hle)
/-! ### zip(list, list) -/
end L2

section 
namespace Bits
open PySem PyProof.Rows








end Bits
end 

section 
namespace TL
open PySem PySem.Builtin PySem.Builtin.Str PySem.StrLaws


/-! ### the list functions -/




/-! ### the model's split and partition are these -/




/-! ### computing spl and par -/


/-! ### digits -/

/-! ### words: x.split() -/
end TL
end 

namespace L2
open PySem PySem.Spec PyProof.Rows




section
variable {X : Cx} {pins : List (Addr × Obj)} {σ : St} {H : Hp} {s : Shared} {Q : VK}
end

section
variable {X : Cx}





/-! ### of a text alone -/

/-! ### of a text and a text -/

end

section
variable {X : Cx} {o e : Expr} {to te : TE}

end
end L2

namespace L2
open PySem PySem.Spec PyProof.Rows

section
variable {X : Cx}
end

/-! ### slices of a text -/


end L2

namespace Att
open PySem PySem.W PySem.Calls PyProof.Rows

/-! ### the script -/



/-! ### the attachment: holds_open's last premise (the goal 'hc' behind k_head) from a wpAny of the law's body -/



/-! ### rules over ANY heap (no ledger) from facts about the written part K: the library's own take a ledger (News) for what they write -/
section
variable {prog : Program} {w : World} {A : Around} {E : Value → Shared → Prop} {s : Shared} {K : Frag}





/-! the whole heap as the ledger: makes every rule that writes through a ledger a rule over any heap -/

end
end Att

namespace L2
open PySem PySem.Spec PyProof.Rows



end L2

namespace L2
open PySem PySem.Spec PyProof.Rows


end L2

/- THE LAST THEOREM (shape; LID, My.* are yours):
   My.Adr: a structure of the addresses that your layer names (classes, functions); My.Txt K t: a structure (Prop) of the equations over K;
   My.txt_mk : {K} {implicit addresses ..} (e1 : nsIn K mainGlobals "law" = some (some (.ref f))) (e2 : K.lookup f = some ⟨oc, od, .func (fnOf "law" "law" params body scope dV kV doc pm an cdv ct), sl⟩) (e3 : codeIn K cdv "law" = true) .. : ∃ t, My.Txt K t

set_option maxRecDepth 100000 in
set_option maxHeartbeats 0 in
theorem PySem.Challenge.cw_LID_holds : PySem.Challenge.rw_LID.Holds := by
  w_on; o_law; k_head; (case hw => w_witness2)
  k_fill
  refine L2.walk_of (l := PySem.Challenge.rw_LID) (n := 63) (k := 40) (x := "script") (CX := fun w => ..) (sp := fun _ => My.sp_law) rfl (by decide) rfl ⟨rfl, by decide, by decide⟩ (fun w h Y => PySem.W.kIn_of Y) ?F ?S ?C
  case F =>
    intro w mg fa h KX G hmg
    have T : ∃ t, My.Txt (L2.KOf KX) t := by
      dsimp only [L2.KOf]                          -- K must stand as «<heap const> w.params» for k_is
      refine' My.txt_mk ?e1 ?e2 ?e3 ..
      (case e1 => PySem.W.k_is)                    -- in the order: a name -> its address -> its object -> its parts
      (case e2 => PySem.W.k_is)
      ..
    obtain ⟨t, T⟩ := T
    have e0 := hmg.symm.trans (PySem.W.mg_of KX G T.law)
    cases e0                                       -- fa is the law's own address
    exact ⟨_, fun s u => .of_eq rfl, fun base kb nb => My.law_fn T kb nb⟩     -- if «.of_eq rfl» comes too early: refine' ⟨_, ?b, fun base kb nb => My.law_fn T kb nb⟩; exact fun s u => .of_eq rfl
  case S => exact fun w H a ns hl hO hS => ..
  case C => exact ..
(the tactic k_is has no namespace: write k_is) -/

/-! SHORT WORDS over the layer: a def of the text, its body, what a loop and a test want. -/
namespace L2
open PySem PySem.Spec PyProof.Rows

/-! ### the text by places -/
/-- the j-th statement of a class's body -/
def inClass (s : Stmt) (j : Nat) : Stmt := match s with
  | .ClassDef _ _ _ body _ _ _ _ _ _ _ => body.getD j (.Pass ⟨0, 0, 0, 0⟩)
  | _ => .Pass ⟨0, 0, 0, 0⟩
def defArgs (s : Stmt) : Arguments := match s with
  | .FunctionDef _ a _ _ _ _ _ _ _ _ => a
  | _ => { posonlyargs := [], args := [], vararg := none, kwonlyargs := [], kw_defaults := [], kwarg := none, defaults := [] }
def defBody (s : Stmt) : List Stmt := match s with
  | .FunctionDef _ _ b _ _ _ _ _ _ _ => b
  | _ => []
def defScope (s : Stmt) : Scope := match s with
  | .FunctionDef _ _ _ _ _ _ sc _ _ _ => sc
  | _ => { kind := .function, names := [], isGenerator := false, isCoroutine := false }

/-! ### no exception leaves a def -/
abbrev CX0 : CXT := fun _ _ _ _ _ _ => False
abbrev E0 : XK := fun _ _ _ => False
theorem pass0 {X : Cx} : Passes CX0 X E0 := fun _ _ _ _ _ _ _ h => h.elim

/-! ### a def (or method) of the text as it stands behind the top -/
structure Fun (K : PySem.W.Frag) (x qual : Str) (st : Stmt) (f : Addr) (fd : FuncData) : Prop where
  ex : ∃ (oc : Value) (od : Option Addr) (kV doc pm : Value) (an : Option Addr) (cdv ct : Value) (osl : Array (Option Value)),
    fd = PySem.W.fnOf x qual (defArgs st) (defBody st) (defScope st) .none kV doc pm an cdv ct ∧ K.lookup f = some ⟨oc, od, .func fd, osl⟩ ∧ PySem.W.codeIn K cdv qual = true
  kp : PySem.W.keepIn K (.ref f) = true
section
variable {P : Program} {w : World} {K : PySem.W.Frag} {mg : Str → Option Value} {base : Heap}
/-- THE RULE for a def: its body as a term of rules, and the reading of that term -/
theorem Fun.ok {x qual : Str} {st : Stmt} {f : Addr} {fd : FuncData} {N ps : List Str} {k : Nat} {sp : Sp} (F : Fun K x qual st f fd) (S : FnScope N ps (defScope st)) (len : ∀ vs H Q E, sp vs H Q E → vs.length = ps.length)
    (hbody : ∀ (cdv : Value) (A : Around) (outer : List Env) (s : Shared) (H : Hp) (vs : List V) (Q : VK) (E : XK), Room k (A.deeper (envOfC qual (defScope st) s.heap.objs.size f cdv)) → sp vs H Q E →
      ∃ t, PSs (cxOf CX0 P w K mg base N qual (defScope st) f cdv A outer s H E).nox (defBody st) t ∧ t { nx := fun _ H' => Q .non H', rt := Q } (start N vs) H) : FnOk P w K mg base CX0 (k + 1) f fd ps sp := by
  obtain ⟨oc, od, kV, doc, pm, an, cdv, ct, osl, rfl, lk, hcd⟩ := F.ex
  refine fn_of lk hcd S len fun A outer s H vs Q E hr hsp => ?_
  obtain ⟨t, h, q⟩ := hbody cdv A outer s H vs Q E hr hsp
  exact ⟨t, h.nox, q⟩
/-- how its arguments bind (no defaults): h is «fun _ _ _ _ _ _ us hl => match us, hl with | [_, _], _ => rfl», one _ a parameter -/
theorem Fun.binds {x qual : Str} {st : Stmt} {f : Addr} {fd : FuncData} {ps : List Str} (F : Fun K x qual st f fd)
    (h : ∀ (kV doc pm : Value) (an : Option Addr) (cdv ct : Value) (us : List Value), us.length = ps.length → bindArgs (PySem.W.fnOf x qual (defArgs st) (defBody st) (defScope st) .none kV doc pm an cdv ct) ⟨us, []⟩ = pure (ps.zip us)) : Binds K fd ps [] := by
  obtain ⟨oc, od, kV, doc, pm, an, cdv, ct, osl, rfl, lk, hcd⟩ := F.ex
  exact .all (h kV doc pm an cdv ct)
theorem fun_mk {x qual : Str} {st : Stmt} {f : Addr} {oc : Value} {od an : Option Addr} {osl : Array (Option Value)} {kV doc pm cdv ct : Value} (l : K.lookup f = some ⟨oc, od, .func (PySem.W.fnOf x qual (defArgs st) (defBody st) (defScope st) .none kV doc pm an cdv ct), osl⟩)
    (c : PySem.W.codeIn K cdv qual = true) (k : PySem.W.keepIn K (.ref f) = true) : Fun K x qual st f (PySem.W.fnOf x qual (defArgs st) (defBody st) (defScope st) .none kV doc pm an cdv ct) := ⟨⟨oc, od, kV, doc, pm, an, cdv, ct, osl, rfl, l, c⟩, k⟩
end
theorem hu_of {A : Around} {k : Nat} (hr : Room k A) : A.units + 1 < cLine := Nat.lt_of_le_of_lt (Nat.add_le_add_left (by decide : 1 ≤ 64) _) hr.units

/-! ### expressions in short: the name that stands in the i-th slot -/
section
variable {X : Cx}
theorem pv (i : Nat) {x : Str} {pos : Pos} (hN : X.N[i]? = some x := by rfl) (hv : Vis X.env.scope x := by first | exact Or.inl rfl | exact Or.inr (Or.inl rfl) | exact Or.inr (Or.inr rfl)) (hd : (x == ("__debug__" : Str)) = false := by decide)
    (hcd : (x == ("__classdict__" : Str)) = false := by decide) : PE X (.Name x pos) (tVar i) := pe_var hN hv hd hcd
/-- len of a dict -/
theorem call_lenD : CallR X (.builtin "len") (fun xs H Q => ∃ a kvs, xs = [V.ref a] ∧ H a = some (.dK kvs) ∧ Q (.int kvs.length) H) := by
  intro pins s σ H xs us Q I r h
  obtain ⟨a, kvs, rfl, ha, q⟩ := h
  obtain ⟨u, rfl, ru⟩ := vals1 r
  cases ru
  exact d_len I (.inl ha) fun t s' I' => ⟨.int kvs.length, H, I', ⟨t, rfl⟩, q⟩
end

/-! ### tests -/
theorem iteF {A B : Prop} (h : B) : if false = true then A else B := by
  rw [if_neg Bool.false_ne_true]
  exact h
theorem iteT {A B : Prop} (h : A) : if true = true then A else B := by
  rw [if_pos rfl]
  exact h
theorem ite2 {c A B : Prop} [Decidable c] (h1 : c → A) (h2 : ¬ c → B) : if c then A else B := by
  by_cases h : c
  · rw [if_pos h]
    exact h1 h
  · rw [if_neg h]
    exact h2 h
theorem iteNS {c A B : Prop} [Decidable c] (hc : c) (h : B) : if (!decide c) = true then A else B := by
  rw [decide_eq_true hc]
  exact iteF h

/-! ### heaps -/
/-- all that was tracked is as it was -/
def Same (H H' : Hp) : Prop := ∀ b o, H b = some o → H' b = some o
theorem Same.refl (H : Hp) : Same H H := fun _ _ h => h
theorem Same.trans {H H1 H2 : Hp} (a : Same H H1) (b : Same H1 H2) : Same H H2 := fun c o h => b c o (a c o h)
theorem Same.free {H H' : Hp} (e : Same H H') {l : Addr} (h : H' l = Option.none) : H l = Option.none := by
  cases q : H l with
  | none => rfl
  | some o =>
    rw [e l o q] at h
    cases h
theorem Same.seq {K : PySem.W.Frag} {H H' : Hp} {a : Addr} {xs : List V} (e : Same H H') (h : SqL K H a xs) : SqL K H' a xs := by
  rcases h with (h | ⟨o, h⟩) | h
  · exact .inl (.inl (e _ _ h))
  · exact .inl (.inr ⟨o, e _ _ h⟩)
  · exact .inr h

/-! ### a dict's pairs: keys that differ -/
section
variable {κ : Type} [DecidableEq κ]
theorem valV_not {kvs : List (κ × V)} {k : κ} (h : valV kvs k = none) : ¬ k ∈ kvs.map (·.1) := by
  intro m
  obtain ⟨p, hp, e⟩ := List.mem_map.mp m
  have q : (kvs.any fun kv => decide (kv.1 = k)) = true := List.any_eq_true.mpr ⟨p, hp, decide_eq_true e⟩
  rw [valV_any, h] at q
  exact absurd q (by simp)
theorem valV_in {kvs : List (κ × V)} {k : κ} {v : V} (h : valV kvs k = some v) : k ∈ kvs.map (·.1) := by
  have q : (kvs.any fun kv => decide (kv.1 = k)) = true := by
    rw [valV_any, h]
    all_goals rfl
  obtain ⟨p, hp, e⟩ := List.any_eq_true.mp q
  exact List.mem_map.mpr ⟨p, hp, of_decide_eq_true e⟩
theorem nd_snoc : ∀ {l : List κ} {k : κ}, l.Nodup → ¬ k ∈ l → (l ++ [k]).Nodup
  | [], k, _, _ => by simp
  | a :: r, k, h, hk => by
    obtain ⟨h1, h2⟩ := List.nodup_cons.mp h
    show (a :: (r ++ [k])).Nodup
    refine List.nodup_cons.mpr ⟨fun m => ?_, nd_snoc h2 fun m => hk (List.mem_cons.mpr (Or.inr m))⟩
    rcases List.mem_append.mp m with q | q
    · exact h1 q
    · exact hk (List.mem_cons.mpr (Or.inl (List.mem_singleton.mp q).symm))
theorem nd_putK {kvs : List (κ × V)} {k : κ} (v : V) (hn : (kvs.map (·.1)).Nodup) (h : valV kvs k = none) : ((putK kvs k v).map (·.1)).Nodup := by
  rw [putK_new v h, List.map_append]
  exact nd_snoc hn (valV_not h)
theorem dropK_pos {p : κ × V} {r : List (κ × V)} {k : κ} (e : p.1 = k) : dropK (p :: r) k = dropK r k := by
  unfold dropK
  rw [List.filter_cons, if_neg (by simp [e])]
theorem dropK_neg {p : κ × V} {r : List (κ × V)} {k : κ} (e : ¬ p.1 = k) : dropK (p :: r) k = p :: dropK r k := by
  unfold dropK
  rw [List.filter_cons, if_pos (by simp [e])]
theorem dropK_no : ∀ {kvs : List (κ × V)} {k : κ}, ¬ k ∈ kvs.map (·.1) → dropK kvs k = kvs
  | [], _, _ => rfl
  | p :: r, k, h => by
    have h' : ¬ k ∈ r.map (·.1) := fun m => by
      obtain ⟨q, hq, e⟩ := List.mem_map.mp m
      exact h (List.mem_map.mpr ⟨q, List.mem_cons.mpr (Or.inr hq), e⟩)
    rw [dropK_neg fun e => h (List.mem_map.mpr ⟨p, List.mem_cons.mpr (Or.inl rfl), e⟩), dropK_no h']
theorem dropK_mem {kvs : List (κ × V)} {k : κ} {p : κ × V} (h : p ∈ dropK kvs k) : p ∈ kvs := (List.mem_filter.mp h).1
theorem nd_dropK : ∀ {kvs : List (κ × V)} {k : κ}, (kvs.map (·.1)).Nodup → ((dropK kvs k).map (·.1)).Nodup
  | [], _, _ => List.nodup_nil
  | p :: r, k, h => by
    have h : (p.1 :: r.map (·.1)).Nodup := h
    obtain ⟨h1, h2⟩ := List.nodup_cons.mp h
    by_cases e : p.1 = k
    · rw [dropK_pos e]
      exact nd_dropK h2
    · rw [dropK_neg e]
      show (p.1 :: (dropK r k).map (·.1)).Nodup
      refine List.nodup_cons.mpr ⟨fun m => h1 ?_, nd_dropK h2⟩
      obtain ⟨q, hq, eq⟩ := List.mem_map.mp m
      exact List.mem_map.mpr ⟨q, dropK_mem hq, eq⟩
theorem dropK_len : ∀ {kvs : List (κ × V)} {k : κ}, (kvs.map (·.1)).Nodup → k ∈ kvs.map (·.1) → (dropK kvs k).length + 1 = kvs.length
  | [], _, _, m => by simp at m
  | p :: r, k, h, m => by
    have h : (p.1 :: r.map (·.1)).Nodup := h
    have m : k = p.1 ∨ k ∈ r.map (·.1) := List.mem_cons.mp m
    obtain ⟨h1, h2⟩ := List.nodup_cons.mp h
    by_cases e : p.1 = k
    · subst e
      rw [dropK_pos rfl, dropK_no h1]
      all_goals rfl
    · have m' : k ∈ r.map (·.1) := m.resolve_left fun z => e z.symm
      have q := dropK_len h2 m'
      rw [dropK_neg e, List.length_cons, List.length_cons]
      omega
end
/-! ### lists -/
theorem at_of {xs : List V} {z : Int} {j : Nat} {v : V} (e : z = (j : Int)) (h : xs[j]? = some v) : atI xs z = some v := by
  rw [e]
  exact atI_nat h
theorem nd_ix {α : Type} {l : List α} (hN : l.Nodup) {i j : Nat} {x : α} (a : l[i]? = some x) (b : l[j]? = some x) : i = j := by
  obtain ⟨h1, e1⟩ := List.getElem?_eq_some_iff.mp a
  obtain ⟨h2, e2⟩ := List.getElem?_eq_some_iff.mp b
  exact (List.getElem_inj hN).mp (e1.trans e2.symm)
/-- a new instance and its __init__ leave all that was tracked as it was -/
theorem Same.made {H H1 : Hp} {x dx C : Addr} (nx : H x = Option.none) (nd : H dx = Option.none) (k : ∀ b o, (upd (upd H dx (.own x)) x (.ins C dx [])) b = some o → b ≠ x → H1 b = some o) : Same H H1 := fun b o e =>
  k b o (by rw [upd_ne (ne_of_none e nx), upd_ne (ne_of_none e nd)]; exact e) (ne_of_none e nx)
end L2

section
set_option Elab.async false
set_option linter.all false
set_option maxRecDepth 100000
set_option maxHeartbeats 2000000
namespace L2
open PySem PySem.Spec PyProof.Rows
open PySem.W (WData Codec OpenSpec Well WellAll ReadsW ReadsAllW)
/-! ### an answer as data -/
mutual
/-- x stands for the datum d, lists and tuples all the way -/
inductive Dw (K : PySem.W.Frag) (H : Hp) : V → WData → Prop
  | non : Dw K H .non .none
  | bl (b : Bool) : Dw K H (.bl b) (.bool b)
  | int (i : Int) : Dw K H (.int i) (.int i)
  | str (x : Str) : Dw K H (.str x) (.str x)
  | byt (b : Array UInt8) : Dw K H (.byt b) (.bytes b.toList)
  | lst {a : Addr} {xs : List V} {ds : List WData} : SqL K H a xs → DwAll K H xs ds → Dw K H (.ref a) (.list ds)
  | tup {a : Addr} {xs : List V} {ds : List WData} : SqT K H a xs → DwAll K H xs ds → Dw K H (.ref a) (.tuple ds)
inductive DwAll (K : PySem.W.Frag) (H : Hp) : List V → List WData → Prop
  | nil : DwAll K H [] []
  | cons {v : V} {vs : List V} {d : WData} {ds : List WData} : Dw K H v d → DwAll K H vs ds → DwAll K H (v :: vs) (d :: ds)
end
theorem dw_ints {K : PySem.W.Frag} {H : Hp} : ∀ ns : List Int, DwAll K H (ns.map V.int) (ns.map WData.int)
  | [] => .nil
  | n :: r => .cons (.int n) (dw_ints r)
theorem ints_dw {K : PySem.W.Frag} {H : Hp} : ∀ (ns : List Int) (xs : List V), DwAll K H xs (ns.map WData.int) → xs = ns.map V.int
  | [], xs, h => by
    cases h
    rfl
  | n :: r, xs, h => by
    cases h with
    | cons h1 h2 =>
      cases h1
      rw [ints_dw r _ h2] <;> rfl
section
variable {P : Program} {w : World} {K : PySem.W.Frag} {H : Hp} {h : Heap} {R : PySem.W.WRecords} {cl : Str → Option Addr}
theorem sqL_at {a : Addr} {xs : List V} (hok : HOk P w H h) (KX : K.In h) (q : SqL K H a xs) : ∃ (its : List Value) (o : Obj) (n : Nat), Vals xs its ∧ h.get? a = some o ∧ o.cls = .type "list" ∧ o.data = .seq its.toArray n := by
  rcases q with q | ⟨o, its, n, e, hc, _, hd, _, hv⟩
  · obtain ⟨_, its, n, hv, e⟩ := (show ObjOk P w H h a (.lst xs) from q.ok hok)
    exact ⟨its, _, n, hv, e, rfl, rfl⟩
  · exact ⟨its.toList, o, n, hv, KX _ _ e, hc, by simp [hd]⟩
theorem sqT_at {a : Addr} {xs : List V} (hok : HOk P w H h) (KX : K.In h) (q : SqT K H a xs) : ∃ (its : List Value) (o : Obj) (n : Nat), Vals xs its ∧ h.get? a = some o ∧ o.cls = .type "tuple" ∧ o.data = .seq its.toArray n := by
  rcases q with q | ⟨o, its, n, e, hc, hd, _, hv⟩
  · obtain ⟨_, its, hv, o, e, hc, n, hd⟩ := (show ObjOk P w H h a (.tup xs) from q.ok hok)
    exact ⟨its, o, n, hv, e, hc, hd⟩
  · exact ⟨its.toList, o, n, hv, KX _ _ e, hc, by simp [hd]⟩
mutual
theorem Dw.reads (hok : HOk P w H h) (KX : K.In h) : ∀ (d : WData) (v : V) (u : Value), Dw K H v d → RelV v u → ∃ as, ReadsW R cl h u d as
  | .none, _, _, x, r => by
    cases x
    cases r
    exact ⟨_, ReadsW.none⟩
  | .bool b, _, _, x, r => by
    cases x
    cases r
    exact ⟨_, ReadsW.bool b⟩
  | .int i, _, _, x, r => by
    cases x
    obtain ⟨t, rfl⟩ := r
    exact ⟨_, ReadsW.int i t⟩
  | .str s, _, _, x, r => by
    cases x
    obtain ⟨t, rfl⟩ := r
    exact ⟨_, ReadsW.str s t⟩
  | .bytes b, _, _, x, r => by
    cases x
    obtain ⟨t, rfl⟩ := r
    exact ⟨_, ReadsW.bytes _ t⟩
  | .list ds, _, _, x, r => by
    cases x with
    | lst hs ha =>
      cases r
      obtain ⟨its, o, n, rv, ho, hc, hd⟩ := sqL_at hok KX hs
      obtain ⟨as, hr⟩ := Dw.readsAll hok KX ds _ its ha rv
      exact ⟨_, ReadsW.list ho hc hd hr⟩
  | .tuple ds, _, _, x, r => by
    cases x with
    | tup hs ha =>
      cases r
      obtain ⟨its, o, n, rv, ho, hc, hd⟩ := sqT_at hok KX hs
      obtain ⟨as, hr⟩ := Dw.readsAll hok KX ds _ its ha rv
      exact ⟨_, ReadsW.tuple ho hc hd hr⟩
  | .float _, _, _, x, _ => by cases x
  | .dict _, _, _, x, _ => by cases x
  | .bytearray _, _, _, x, _ => by cases x
  | .set _, _, _, x, _ => by cases x
  | .frozenset _, _, _, x, _ => by cases x
  | .obj _ _, _, _, x, _ => by cases x
theorem Dw.readsAll (hok : HOk P w H h) (KX : K.In h) : ∀ (ds : List WData) (vs : List V) (us : List Value), DwAll K H vs ds → Vals vs us → ∃ as, ReadsAllW R cl h us ds as
  | [], _, _, x, r => by
    cases x
    cases r
    exact ⟨_, ReadsAllW.nil⟩
  | d :: ds, _, _, x, r => by
    cases x with
    | cons h1 h2 =>
      cases r with
      | cons r1 r2 =>
        obtain ⟨as, q1⟩ := Dw.reads hok KX d _ _ h1 r1
        obtain ⟨bs, q2⟩ := Dw.readsAll hok KX ds _ _ h2 r2
        exact ⟨_, ReadsAllW.cons q1 q2⟩
end
end
/-! ### the arguments -/
mutual
/-- data that a codec tells -/
def plW : WData → Bool
  | .none => true
  | .bool _ => true
  | .int _ => true
  | .str _ => true
  | .bytes _ => true
  | .list xs => plWs xs
  | .tuple xs => plWs xs
  | _ => false
def plWs : List WData → Bool
  | [] => true
  | x :: r => plW x && plWs r
end
theorem plWs_map {α : Type} {f : α → WData} (h : ∀ a, plW (f a) = true) : ∀ l : List α, plWs (l.map f) = true
  | [] => rfl
  | x :: r => by
    show (plW (f x) && plWs (r.map f)) = true
    rw [h x, plWs_map h r] <;> rfl
theorem pl_enc : ∀ (c : Codec) (a : c.denote), plW (c.enc a) = true
  | .unit, _ => rfl
  | .bool, _ => rfl
  | .int _ _, _ => rfl
  | .nat _ _, _ => rfl
  | .u8, _ => rfl
  | .bytes _ _, _ => rfl
  | .text _ _ _ _, _ => rfl
  | .list _ _ c, a => plWs_map (fun x => pl_enc c x) a
  | .pair c d, a => by
    show (plW (c.enc a.1) && (plW (d.enc a.2) && true)) = true
    rw [pl_enc c a.1, pl_enc d a.2] <;> rfl
  | .triple c d e, a => by
    show (plW (c.enc a.1) && (plW (d.enc a.2.1) && (plW (e.enc a.2.2) && true))) = true
    rw [pl_enc c a.1, pl_enc d a.2.1, pl_enc e a.2.2] <;> rfl
  | .option c, none => rfl
  | .option c, some x => pl_enc c x
theorem pl_encAll : ∀ (cs : List Codec) (a : Codec.denoteAll cs), plWs (Codec.encAll cs a) = true
  | [], _ => rfl
  | c :: cs, a => by
    show (plW (c.enc a.1) && plWs (Codec.encAll cs a.2)) = true
    rw [pl_enc c a.1, pl_encAll cs a.2] <;> rfl
theorem weight_mem : ∀ {xs : List WData} {d : WData}, d ∈ xs → d.weight ≤ WData.weightAll xs
  | [], d, h => absurd h (by simp)
  | x :: r, d, h => by
    show d.weight ≤ x.weight + 1 + WData.weightAll r
    rcases List.mem_cons.mp h with e | m
    · rw [e]
      omega
    · have z := weight_mem m
      omega
def toV : Value → V
  | .none => .non
  | .bool b => .bl b
  | .int i _ => .int i
  | .str x _ => .str x
  | .bytes b _ => .byt b
  | .ref a => .ref a
  | _ => .non
/-- a value of the arguments, its objects among A -/
def OkU (A : List Addr) : Value → Prop
  | .none => True
  | .bool _ => True
  | .int _ _ => True
  | .str _ _ => True
  | .bytes _ _ => True
  | .ref a => a ∈ A
  | _ => False
theorem OkU.mono {A B : List Addr} (h : ∀ a ∈ A, a ∈ B) : ∀ {u : Value}, OkU A u → OkU B u := fun {u} x => by
  cases u with
  | ref a => exact h a x
  | none => trivial
  | bool b => trivial
  | int i t => trivial
  | str s t => trivial
  | bytes b t => trivial
  | _ => exact False.elim x
theorem relV_toV {A : List Addr} {u : Value} (x : OkU A u) : RelV (toV u) u := by
  cases u with
  | ref a => rfl
  | none => rfl
  | bool b => rfl
  | int i t => exact ⟨t, rfl⟩
  | str s t => exact ⟨t, rfl⟩
  | bytes b t => exact ⟨t, rfl⟩
  | _ => exact False.elim x
theorem vals_toV {A : List Addr} : ∀ {vs : List Value}, (∀ u ∈ vs, OkU A u) → Vals (vs.map toV) vs
  | [], _ => .nil
  | u :: r, h => .cons (relV_toV (h u (List.mem_cons_self ..))) (vals_toV fun x hx => h x (List.mem_cons_of_mem _ hx))
/-- an object of the arguments -/
def ArgOb (h : Heap) (A : List Addr) (a : Addr) : Prop := ∃ vs : List Value, vs.length ≤ sizeLine ∧ (∀ u ∈ vs, OkU A u) ∧
  (h.get? a = some { cls := .type "list", data := .seq vs.toArray } ∨ h.get? a = some { cls := .type "tuple", data := .seq vs.toArray })
theorem ArgOb.mono {h : Heap} {A B : List Addr} {a : Addr} (k : ∀ a ∈ A, a ∈ B) (x : ArgOb h A a) : ArgOb h B a := by
  obtain ⟨vs, h1, h2, h3⟩ := x
  exact ⟨vs, h1, fun u hu => (h2 u hu).mono k, h3⟩
theorem wellAll_len {P : Params} {h : Heap} : ∀ {vs : List Value} {ds : List WData}, WellAll P h vs ds → vs.length = ds.length
  | _, _, .nil => rfl
  | _, _, .cons _ b => by
    show _ + 1 = _ + 1
    rw [wellAll_len b]
theorem well_list {P : Params} {h : Heap} {v : Value} {ds : List WData} (x : Well P h v (.list ds)) : ∃ (a : Addr) (vs : List Value), v = .ref a ∧ h.get? a = some { cls := .type "list", data := .seq vs.toArray } ∧ WellAll P h vs ds := by
  cases x with
  | list ho hall => exact ⟨_, _, rfl, ho, hall⟩
theorem well_tuple {P : Params} {h : Heap} {v : Value} {ds : List WData} (x : Well P h v (.tuple ds)) : ∃ (a : Addr) (vs : List Value), v = .ref a ∧ h.get? a = some { cls := .type "tuple", data := .seq vs.toArray } ∧ WellAll P h vs ds := by
  cases x with
  | tuple ho hall => exact ⟨_, _, rfl, ho, hall⟩
theorem well_cons {P : Params} {h : Heap} {us : List Value} {d : WData} {ds : List WData} (x : WellAll P h us (d :: ds)) : ∃ (v : Value) (vs : List Value), us = v :: vs ∧ Well P h v d ∧ WellAll P h vs ds := by
  cases x with
  | cons a b => exact ⟨_, _, rfl, a, b⟩
theorem line_of {n : Nat} (h : n ≤ 1048576) : n ≤ sizeLine := Nat.le_trans h (by decide)
section
variable {P : Params} {h : Heap}
mutual
theorem area_one : ∀ (d : WData) (v : Value), Well P h v d → plW d = true → d.weight ≤ 1048576 → ∃ A : List Addr, OkU A v ∧ ∀ a ∈ A, ArgOb h A a
  | .none, _, x, _, _ => by
    cases x
    exact ⟨[], trivial, fun a m => absurd m (by simp)⟩
  | .bool b, _, x, _, _ => by
    cases x
    exact ⟨[], trivial, fun a m => absurd m (by simp)⟩
  | .int i, _, x, _, _ => by
    cases x
    exact ⟨[], trivial, fun a m => absurd m (by simp)⟩
  | .str s, _, x, _, _ => by
    cases x
    exact ⟨[], trivial, fun a m => absurd m (by simp)⟩
  | .bytes b, _, x, _, _ => by
    cases x
    exact ⟨[], trivial, fun a m => absurd m (by simp)⟩
  | .list ds, _, x, p, z => by
    obtain ⟨a, vs, rfl, ho, hall⟩ := well_list x
    have z2 : WData.weightAll ds ≤ 1048576 := z
    obtain ⟨A, h1, h2⟩ := area_all ds _ hall p fun d hd => Nat.le_trans (weight_mem hd) z2
    have k : ∀ b ∈ A, b ∈ a :: A := fun b hb => List.mem_cons_of_mem _ hb
    refine ⟨a :: A, List.mem_cons_self .., fun b hb => ?_⟩
    rcases List.mem_cons.mp hb with e | m
    · rw [e]
      exact ⟨vs, line_of (by rw [wellAll_len hall]; exact Nat.le_trans (PySem.W.length_le_weightAllW ds) z2), fun u hu => (h1 u hu).mono k, .inl ho⟩
    · exact (h2 b m).mono k
  | .tuple ds, _, x, p, z => by
    obtain ⟨a, vs, rfl, ho, hall⟩ := well_tuple x
    have z2 : WData.weightAll ds ≤ 1048576 := z
    obtain ⟨A, h1, h2⟩ := area_all ds _ hall p fun d hd => Nat.le_trans (weight_mem hd) z2
    have k : ∀ b ∈ A, b ∈ a :: A := fun b hb => List.mem_cons_of_mem _ hb
    refine ⟨a :: A, List.mem_cons_self .., fun b hb => ?_⟩
    rcases List.mem_cons.mp hb with e | m
    · rw [e]
      exact ⟨vs, line_of (by rw [wellAll_len hall]; exact Nat.le_trans (PySem.W.length_le_weightAllW ds) z2), fun u hu => (h1 u hu).mono k, .inr ho⟩
    · exact (h2 b m).mono k
  | .float _, _, _, p, _ => Bool.noConfusion (show false = true from p)
  | .dict _, _, _, p, _ => Bool.noConfusion (show false = true from p)
  | .bytearray _, _, _, p, _ => Bool.noConfusion (show false = true from p)
  | .set _, _, _, p, _ => Bool.noConfusion (show false = true from p)
  | .frozenset _, _, _, p, _ => Bool.noConfusion (show false = true from p)
  | .obj _ _, _, _, p, _ => Bool.noConfusion (show false = true from p)
theorem area_all : ∀ (ds : List WData) (vs : List Value), WellAll P h vs ds → plWs ds = true → (∀ d ∈ ds, d.weight ≤ 1048576) → ∃ A : List Addr, (∀ u ∈ vs, OkU A u) ∧ ∀ a ∈ A, ArgOb h A a
  | [], _, x, _, _ => by
    cases x
    exact ⟨[], fun u m => absurd m (by simp), fun a m => absurd m (by simp)⟩
  | d :: ds, _, x, p, z => by
    obtain ⟨v, vs, rfl, x1, x2⟩ := well_cons x
    have q : plW d = true ∧ plWs ds = true := Bool.and_eq_true_iff.mp p
    obtain ⟨A, a1, a2⟩ := area_one d v x1 q.1 (z d (List.mem_cons_self ..))
    obtain ⟨B, b1, b2⟩ := area_all ds vs x2 q.2 fun e he => z e (List.mem_cons_of_mem _ he)
    have kA : ∀ b ∈ A, b ∈ A ++ B := fun b hb => List.mem_append.mpr (.inl hb)
    have kB : ∀ b ∈ B, b ∈ A ++ B := fun b hb => List.mem_append.mpr (.inr hb)
    refine ⟨A ++ B, fun u hu => ?_, fun b hb => ?_⟩
    · rcases List.mem_cons.mp hu with e | m
      · rw [e]
        exact a1.mono kA
      · exact (b1 u m).mono kB
    · rcases List.mem_append.mp hb with m | m
      · exact (a2 b m).mono kA
      · exact (b2 b m).mono kB
end
end
/-- what is tracked of an argument's object -/
def hoOf (o : Obj) : Option HO := match o.data with
  | .seq vs _ => if (o.cls == Value.type "list") = true then some (.frz o (.lst (vs.toList.map toV))) else some (.frz o (.tup (vs.toList.map toV)))
  | _ => none
def argH (K : PySem.W.Frag) (h : Heap) (A : List Addr) : Hp := fun b => if b ∈ A then (if (K.lookup b).isNone = true then (h.get? b).bind hoOf else none) else none
/-- nothing is tracked but what is known to the object -/
def OnlyF (H : Hp) : Prop := ∀ b, H b = none ∨ ∃ o u, H b = some (.frz o u)
theorem hoOf_lst (vs : List Value) : hoOf { cls := .type "list", data := .seq vs.toArray } = some (.frz { cls := .type "list", data := .seq vs.toArray } (.lst (vs.map toV))) := by
  show (if (Value.type "list" == Value.type "list") = true then some (HO.frz { cls := .type "list", data := .seq vs.toArray } (.lst (vs.toArray.toList.map toV))) else some (HO.frz { cls := .type "list", data := .seq vs.toArray } (.tup (vs.toArray.toList.map toV)))) = _
  rw [if_pos (beq_self_eq_true _)]
theorem hoOf_tup (vs : List Value) : hoOf { cls := .type "tuple", data := .seq vs.toArray } = some (.frz { cls := .type "tuple", data := .seq vs.toArray } (.tup (vs.map toV))) := by
  show (if (Value.type "tuple" == Value.type "list") = true then some (HO.frz { cls := .type "tuple", data := .seq vs.toArray } (.lst (vs.toArray.toList.map toV))) else some (HO.frz { cls := .type "tuple", data := .seq vs.toArray } (.tup (vs.toArray.toList.map toV)))) = _
  rw [if_neg (by decide)]
section
variable {P : Program} {w : World} {K : PySem.W.Frag} {h : Heap} {A : List Addr}
theorem argH_at {b : Addr} {o : Obj} (hb : b ∈ A) (hk : K.lookup b = none) (e : h.get? b = some o) : argH K h A b = hoOf o := by
  unfold argH
  rw [if_pos hb, hk, if_pos (show (none : Option Obj).isNone = true from rfl), e] <;> rfl
theorem of_argH {b : Addr} {u : HO} (q : argH K h A b = some u) : b ∈ A ∧ K.lookup b = none := by
  unfold argH at q
  by_cases hb : b ∈ A
  · rw [if_pos hb] at q
    cases hk : K.lookup b with
    | none => exact ⟨hb, rfl⟩
    | some o =>
      rw [hk, if_neg (by simp)] at q
      cases q
  · rw [if_neg hb] at q
    cases q
/-- what stands tracked -/
theorem argH_is (ar : ∀ a ∈ A, ArgOb h A a) {b : Addr} {u : HO} (q : argH K h A b = some u) : K.lookup b = none ∧ ∃ vs : List Value, vs.length ≤ sizeLine ∧ (∀ u ∈ vs, OkU A u) ∧
    ((h.get? b = some { cls := .type "list", data := .seq vs.toArray } ∧ u = .frz { cls := .type "list", data := .seq vs.toArray } (.lst (vs.map toV))) ∨
     (h.get? b = some { cls := .type "tuple", data := .seq vs.toArray } ∧ u = .frz { cls := .type "tuple", data := .seq vs.toArray } (.tup (vs.map toV)))) := by
  obtain ⟨hb, hk⟩ := of_argH q
  obtain ⟨vs, h1, h2, h3⟩ := ar b hb
  refine ⟨hk, vs, h1, h2, ?_⟩
  rcases h3 with e | e
  · rw [argH_at hb hk e, hoOf_lst] at q
    exact .inl ⟨e, (Option.some.inj q).symm⟩
  · rw [argH_at hb hk e, hoOf_tup] at q
    exact .inr ⟨e, (Option.some.inj q).symm⟩
theorem argH_only (ar : ∀ a ∈ A, ArgOb h A a) : OnlyF (argH K h A) := fun b => by
  cases q : argH K h A b with
  | none => exact .inl rfl
  | some u =>
    obtain ⟨_, vs, _, _, ⟨_, e⟩ | ⟨_, e⟩⟩ := argH_is ar q
    · exact .inr ⟨_, _, by rw [e]⟩
    · exact .inr ⟨_, _, by rw [e]⟩
theorem argH_ok (ar : ∀ a ∈ A, ArgOb h A a) : HOk P w (argH K h A) h := fun b u q => by
  obtain ⟨_, vs, h1, h2, ⟨e, rfl⟩ | ⟨e, rfl⟩⟩ := argH_is ar q
  · exact ⟨e, by rw [List.length_map]; exact h1, vs, _, vals_toV h2, e⟩
  · exact ⟨e, by rw [List.length_map]; exact h1, vs, vals_toV h2, _, e, rfl, _, rfl⟩
theorem seq_inj {c c' : Value} {vs us : List Value} (e : (some { cls := c, data := .seq vs.toArray } : Option Obj) = some { cls := c', data := .seq us.toArray }) : c = c' ∧ vs = us := by
  have e1 := Option.some.inj e
  have e2 : c = c' := congrArg Obj.cls e1
  have e3 : Data.seq vs.toArray = Data.seq us.toArray := congrArg Obj.data e1
  injection e3 with e4
  refine ⟨e2, ?_⟩
  have e5 := congrArg Array.toList e4
  simpa using e5
/-- a list argument -/
theorem argL (KX : K.In h) (ar : ∀ a ∈ A, ArgOb h A a) {a : Addr} {vs : List Value} (ha : a ∈ A) (e : h.get? a = some { cls := .type "list", data := .seq vs.toArray }) : (∀ u ∈ vs, OkU A u) ∧ SqL K (argH K h A) a (vs.map toV) := by
  obtain ⟨us, h1, h2, h3⟩ := ar a ha
  have hu : us = vs := by
    rcases h3 with q | q
    · rw [e] at q
      exact (seq_inj q).2.symm
    · rw [e] at q
      exact absurd (Value.type.inj (seq_inj q).1) (by decide)
  subst hu
  refine ⟨h2, ?_⟩
  cases hk : K.lookup a with
  | none => exact .inl (.inr ⟨_, by rw [argH_at ha hk e, hoOf_lst]⟩)
  | some o =>
    have e2 := KX a o hk
    rw [e] at e2
    obtain rfl := Option.some.inj e2
    exact .inr ⟨_, us.toArray, _, hk, rfl, rfl, rfl, by rw [List.size_toArray]; exact h1, by simpa using vals_toV h2⟩
theorem argT (KX : K.In h) (ar : ∀ a ∈ A, ArgOb h A a) {a : Addr} {vs : List Value} (ha : a ∈ A) (e : h.get? a = some { cls := .type "tuple", data := .seq vs.toArray }) : (∀ u ∈ vs, OkU A u) ∧ SqT K (argH K h A) a (vs.map toV) := by
  obtain ⟨us, h1, h2, h3⟩ := ar a ha
  have hu : us = vs := by
    rcases h3 with q | q
    · rw [e] at q
      exact absurd (Value.type.inj (seq_inj q).1) (by decide)
    · rw [e] at q
      exact (seq_inj q).2.symm
  subst hu
  refine ⟨h2, ?_⟩
  cases hk : K.lookup a with
  | none => exact .inl (.inr ⟨_, by rw [argH_at ha hk e, hoOf_tup]⟩)
  | some o =>
    have e2 := KX a o hk
    rw [e] at e2
    obtain rfl := Option.some.inj e2
    exact .inr ⟨_, us.toArray, _, hk, rfl, rfl, by rw [List.size_toArray]; exact h1, by simpa using vals_toV h2⟩
mutual
theorem dw_one {Pm : Params} (KX : K.In h) (ar : ∀ a ∈ A, ArgOb h A a) : ∀ (d : WData) (v : Value), Well Pm h v d → plW d = true → OkU A v → Dw K (argH K h A) (toV v) d
  | .none, _, x, _, _ => by
    cases x
    exact .non
  | .bool b, _, x, _, _ => by
    cases x
    exact .bl b
  | .int i, _, x, _, _ => by
    cases x
    exact .int i
  | .str s, _, x, _, _ => by
    cases x
    exact .str s
  | .bytes b, _, x, _, _ => by
    cases x
    have z := Dw.byt (K := K) (H := argH K h A) b.toArray
    exact z
  | .list ds, _, x, p, hu => by
    obtain ⟨a, vs, rfl, ho, hall⟩ := well_list x
    obtain ⟨h2, hs⟩ := argL KX ar hu ho
    exact .lst hs (dw_all KX ar ds _ hall p h2)
  | .tuple ds, _, x, p, hu => by
    obtain ⟨a, vs, rfl, ho, hall⟩ := well_tuple x
    obtain ⟨h2, hs⟩ := argT KX ar hu ho
    exact .tup hs (dw_all KX ar ds _ hall p h2)
  | .float _, _, _, p, _ => Bool.noConfusion (show false = true from p)
  | .dict _, _, _, p, _ => Bool.noConfusion (show false = true from p)
  | .bytearray _, _, _, p, _ => Bool.noConfusion (show false = true from p)
  | .set _, _, _, p, _ => Bool.noConfusion (show false = true from p)
  | .frozenset _, _, _, p, _ => Bool.noConfusion (show false = true from p)
  | .obj _ _, _, _, p, _ => Bool.noConfusion (show false = true from p)
theorem dw_all {Pm : Params} (KX : K.In h) (ar : ∀ a ∈ A, ArgOb h A a) : ∀ (ds : List WData) (vs : List Value), WellAll Pm h vs ds → plWs ds = true → (∀ u ∈ vs, OkU A u) → DwAll K (argH K h A) (vs.map toV) ds
  | [], _, x, _, _ => by
    cases x
    exact .nil
  | d :: ds, _, x, p, hu => by
    obtain ⟨v, vs, rfl, x1, x2⟩ := well_cons x
    have q : plW d = true ∧ plWs ds = true := Bool.and_eq_true_iff.mp p
    exact .cons (dw_one KX ar d v x1 q.1 (hu _ (List.mem_cons_self ..))) (dw_all KX ar ds vs x2 q.2 fun u m => hu u (List.mem_cons_of_mem _ m))
end
end
/-! ### the call -/
theorem spec_call {P : Program} {w : World} {K : PySem.W.Frag} {mg mb : Str → Option Value} {CX : CXT} {k : Nat} {fa : Addr} {fd : FuncData} {ps : List Str} {sp : Sp} {s₁ : Shared} {vals : List Value} {ds : List WData} {R : PySem.W.WRecords} {cl : Str → Option Addr} {d0 : WData}
    (KX : K.In s₁.heap) (hns : s₁.heap.Ns mainGlobals mg) (hb : s₁.heap.Ns builtinsNs mb) (hbb : ∀ x : Str, x ≠ "__name__" → mb x = bootBuiltins x) (hlim : s₁.heap.NoLimit) (hg : s₁.gens = #[])
    (hwl : WellAll w.params s₁.heap vals ds) (hpl : plWs ds = true) (hwt : ∀ d ∈ ds, d.weight ≤ 1048576) (hr : Room k callerA)
    (F : ∀ base : Heap, K.In base → base.Ns mainGlobals mg → FnOk P w K mg base CX k fa fd ps sp) (hbind : ∀ (s : Shared) (us : List Value), us.length = ps.length → BindsTo s fd ⟨us, []⟩ (ps.zip us)) (hlen : ds.length = ps.length)
    (hsp : ∀ (H : Hp) (xs : List V), OnlyF H → DwAll K H xs ds → sp xs H (fun v H' => Dw K H' v d0) fun _ _ _ => False)
    (hCX : ∀ H e s', CX [] H s₁ (fun _ _ _ => False) e s' → False) :
    codeAny (model P w) callerA (.call (.ref fa) ⟨vals, []⟩) (fun r s' => ∃ u as, r = .ok (.ret u) ∧ ReadsW R cl s'.heap u d0 as ∧ OldK s₁.heap s'.heap ∧ s'.os = s₁.os ∧ AllBare s'.gens) s₁ := by
  obtain ⟨A, ho, ar⟩ := area_all ds vals hwl hpl hwt
  have hO : OnlyF (argH K s₁.heap A) := argH_only ar
  have hok : HOk P w (argH K s₁.heap A) s₁.heap := argH_ok ar
  have hS := dw_all KX ar ds vals hwl hpl ho
  have hV := vals_toV ho
  have hK : ∀ b u, argH K s₁.heap A b = some u → K.lookup b = none := fun b u q => (argH_is ar q).1
  have noA : ∀ {b : Addr} {o : Obj} {es : Array DictEntry} {ep : Nat}, s₁.heap.get? b = some o → o.data = .dict es ep → argH K s₁.heap A b = none := fun {b o es ep} e d => by
    cases q : argH K s₁.heap A b with
    | none => rfl
    | some u =>
      obtain ⟨_, vs, _, _, ⟨e2, _⟩ | ⟨e2, _⟩⟩ := argH_is ar q
      · rw [e2] at e
        cases e
        have d' : Data.seq vs.toArray _ = Data.dict es ep := d
        cases d'
      · rw [e2] at e
        cases e
        have d' : Data.seq vs.toArray _ = Data.dict es ep := d
        cases d'
  generalize argH K s₁.heap A = H at hO hok hS hK noA
  have base_of : ∀ {b : Addr} {o : Obj}, s₁.heap.get? b = some o → H b = none → (hidT s₁.heap H).get? b = some o := fun e n => hidT_get e n
  have nsK : ∀ {b : Addr} {m : Str → Option Value}, s₁.heap.Ns b m → (hidT s₁.heap H).Ns b m := fun {b m} ⟨o, es, ep, e, d, r⟩ => ⟨o, es, ep, base_of e (noA e d), d, r⟩
  have nK : ∀ b o, K.lookup b = some o → H b = none := fun b o e => by
    cases q : H b with
    | none => rfl
    | some u =>
      rw [hK b u q] at e
      cases e
  have hKb : K.In (hidT s₁.heap H) := fun b o e => base_of (KX b o e) (nK b o e)
  have hM : Mod K mg (hidT s₁.heap H) := ⟨hKb, nsK hns, ⟨mb, nsK hb, hbb⟩, let ⟨mc, h1, h2⟩ := hlim; ⟨mc, nsK h1, h2⟩⟩
  have e0 : Env0 P w K mg (hidT s₁.heap H) callerA [] s₁ H := ⟨rfl, hM, fun b o e => of_hidT e, Nat.le_of_eq (hidT_size _ _), trivial, fun b hb => absurd (show b ∈ ([] : List Addr) from hb) (by simp), hok, .of_eq hg⟩
  have hl : vals.length = ps.length := by rw [wellAll_len hwl]; exact hlen
  refine codeAny_mono ((F _ hKb (nsK hns)).run callerA [] s₁ H ⟨vals, []⟩ vals (vals.map toV) _ _ hr e0 (hbind s₁ vals hl) hV (hsp H _ hO hS)) fun r s' x => ?_
  cases r with
  | error e => exact (hCX H e s' x).elim
  | ok fl =>
    cases fl with
    | next => exact False.elim x
    | brk => exact False.elim x
    | cont => exact False.elim x
    | ret u =>
      obtain ⟨v, H', os, bare, un, hok', r', q⟩ := x
      have kept : ∀ b o, s₁.heap.get? b = some o → s'.heap.get? b = some o := fun b o e => by
        cases q2 : H b with
        | none => exact un.keep b o e q2 (by intro z; exact absurd (show b ∈ ([] : List Addr) from z) (by simp)) (by simp)
        | some u2 =>
          rcases hO b with z | ⟨ob, u3, z⟩
          · rw [q2] at z
            cases z
          · have z2 := un.frzs b ob _ z
            obtain ⟨e1, _⟩ := hok b _ z
            obtain ⟨e2, _⟩ := hok' b _ z2
            rw [e] at e1
            cases e1
            exact e2
      have KX' : K.In s'.heap := fun b o e => kept b o (KX b o e)
      obtain ⟨as, hrd⟩ := Dw.reads (R := R) (cl := cl) hok' KX' d0 v u q r'
      exact ⟨u, as, rfl, hrd, OldK.of_keep kept, os, bare⟩
/-! ### the row -/
theorem layable_weight {ds : List WData} (h : WData.layableAll ds = true) : ∀ d ∈ ds, d.weight ≤ 1048576 := fun d hd =>
  (PySem.W.layableW_iff.mp (List.all_eq_true.mp h d hd)).2.2
theorem encAll_len : ∀ (cs : List Codec) (a : Codec.denoteAll cs), (Codec.encAll cs a).length = cs.length
  | [], _ => rfl
  | c :: cs, a => by
    show (Codec.encAll cs a.2).length + 1 = cs.length + 1
    rw [encAll_len cs a.2]
/-- the goal that k_headS leaves (case hc), from the promise of the row's def: whatever the arguments that the codecs let and the row asks for, the def gives what stands for enc (f ..) -/
theorem walk_spec {r : OpenSpec} {k : Nat} {q : Program} {loose : List Str} {XP : (Str → Option Value) → Heap → Prop} {YP : World → Heap → Prop} {d : DefRec} {K : Params → PySem.W.Frag} {CX : World → CXT} {ps : List Str} {sp : World → Sp}
    (hwell : r.wellSaid = true) (hdf : d.params.defaults = []) (hlen : r.args.length = ps.length) (hr : Room k callerA)
    (hY : ∀ (w : World) (h : Heap), YP w h → (K w.params).In h)
    (F : ∀ (w : World) (mg : Str → Option Value) (fa : Addr) (h : Heap), YP w h → (K w.params).In h → h.Ns mainGlobals mg → mg d.name = some (.ref fa) →
      ∃ fd : FuncData, (∀ (s : Shared) (us : List Value), us.length = ps.length → BindsTo s fd ⟨us, []⟩ (ps.zip us)) ∧
        ∀ base : Heap, (K w.params).In base → base.Ns mainGlobals mg → FnOk r.prog w (K w.params) mg base (CX w) k fa fd ps (sp w))
    (hsp : ∀ (w : World) (H : Hp) (xs : List V) (a : Codec.denoteAll r.args), OnlyF H → Codec.withinAll r.args a = true → Codec.app r.args r.asked a = true → DwAll (K w.params) H xs (Codec.encAll r.args a) →
      sp w xs H (fun v H' => Dw (K w.params) H' v (r.ret.enc (Codec.app r.args r.f a))) fun _ _ _ => False)
    (hCX : ∀ (w : World) (H : Hp) (s : Shared) (e : Value) (s' : Shared), CX w [] H s (fun _ _ _ => False) e s' → False) :
    PySem.W.WalkOS q loose XP YP r d [] (fun f vs => PySem.call f vs) := by
  intro w s_0 s₁ mg mb G Y fa o pm cd doc dV kV ho hd hcd hD hmg hg args vals as hpre hlay hrd hwl hlo
  obtain ⟨a, e1, e2⟩ := PySem.W.os_pre_some hpre
  obtain ⟨e3, hwi⟩ := Codec.encAll_of_decAll r.args args a e1
  subst e3
  have KX := hY w _ Y
  obtain ⟨fd, hb, hF⟩ := F w mg fa _ Y KX G.T.g hmg
  refine PySem.W.enter_call (codeAny_mono (spec_call (R := []) (cl := classAt s_0.heap) (d0 := r.ret.enc (Codec.app r.args r.f a)) KX G.T.g G.T.b G.T.builtins G.T.nolimit hg hwl (pl_encAll _ _) (layable_weight hlay) hr hF hb (by rw [encAll_len]; exact hlen)
    (fun H xs hO hS => hsp w H xs a hO hwi e2 hS) fun H e s' => hCX w H s₁ e s') fun r' s' hq => ?_)
  obtain ⟨u, as', rfl, h1, h2, h3, h4⟩ := hq
  exact ⟨.inl ⟨u, _, as', rfl, fun _ => rfl, h1, (OpenSpec.post_iff hwell hwi _ _).mpr rfl, fun z => Bool.noConfusion (show false = true from z)⟩, h2, h3, h4⟩
/-- the same where the promise hangs on the written part alone -/
theorem walk_specK {r : OpenSpec} {k : Nat} {q : Program} {loose : List Str} {XP : (Str → Option Value) → Heap → Prop} {YP : World → Heap → Prop} {d : DefRec} {K : Params → PySem.W.Frag} {CX : CXT} {ps : List Str} {sp : PySem.W.Frag → Sp}
    (hwell : r.wellSaid = true) (hdf : d.params.defaults = []) (hlen : r.args.length = ps.length) (hr : Room k callerA)
    (hY : ∀ (w : World) (h : Heap), YP w h → (K w.params).In h)
    (F : ∀ (w : World) (mg : Str → Option Value) (fa : Addr) (h : Heap), YP w h → (K w.params).In h → h.Ns mainGlobals mg → mg d.name = some (.ref fa) →
      ∃ fd : FuncData, (∀ (s : Shared) (us : List Value), us.length = ps.length → BindsTo s fd ⟨us, []⟩ (ps.zip us)) ∧
        ∀ base : Heap, (K w.params).In base → base.Ns mainGlobals mg → FnOk r.prog w (K w.params) mg base CX k fa fd ps (sp (K w.params)))
    (hsp : ∀ (K : PySem.W.Frag) (H : Hp) (xs : List V) (a : Codec.denoteAll r.args), OnlyF H → Codec.withinAll r.args a = true → Codec.app r.args r.asked a = true → DwAll K H xs (Codec.encAll r.args a) →
      sp K xs H (fun v H' => Dw K H' v (r.ret.enc (Codec.app r.args r.f a))) fun _ _ _ => False)
    (hCX : ∀ (H : Hp) (s : Shared) (e : Value) (s' : Shared), CX [] H s (fun _ _ _ => False) e s' → False) :
    PySem.W.WalkOS q loose XP YP r d [] (fun f vs => PySem.call f vs) :=
  walk_spec (K := K) (CX := fun _ => CX) (sp := fun w => sp (K w.params)) hwell hdf hlen hr hY F (fun w H xs a h1 h2 h3 h4 => hsp (K w.params) H xs a h1 h2 h3 h4) fun _ H s e s' => hCX H s e s'
end L2
-- rests on (row put in by the clerk, for the bench that shows a file only what it spells): KE.SpHead KE.OsShapes
end

set_option Elab.async false
set_option linter.all false
set_option maxRecDepth 100000
set_option maxHeartbeats 2000000
/-! Rules besides the layer's: a call of a function that an expression gives, a table of the module, sorted of a dict and of a list of any length, min and max by a def as key. -/
namespace L2
open PySem PySem.Spec PyProof.Rows

/-! ### a call whose function is an expression's value -/
def tCallV (X : Cx) (tf : TE) (t : TA) : TE := fun σ H Q => tf σ H fun v H1 => ∃ (f : Addr) (fd : FuncData) (ps : List Str) (sp : Sp) (k : Nat), v = .ref f ∧ FnOk X.prog X.w X.K X.mg X.base CX0 k f fd ps sp ∧ Room k X.A ∧
  PySem.W.keepIn X.K (.ref f) = true ∧ Binds X.K fd ps [] ∧ t σ H1 fun vs H2 => sp vs H2 Q E0
theorem pe_callV {X : Cx} {func e : Expr} {es : List Expr} {tf : TE} {t : TA} {pos : Pos} (hf : PE X func tf) (ha : PA X (e :: es) t)
    (hev : eval (.Call func (e :: es) [] pos) X.env = (do callWith pos (← eval func X.env) [] (backTo pos (starEach (e :: es) X.env)) (backToKw pos (keywordEach [] X.env))) := by rfl)
    (hst : starEach (e :: es) X.env = (false, eval e X.env) :: starEach es X.env := by rfl) (hpl : (backTo pos (starEach es X.env)).any (·.1) = false := by rfl) :
    PE X (.Call func (e :: es) [] pos) (tCallV X tf t) := by
  intro pins s σ H Q I h
  refine PyProof.Rows.Call_ (thn (hf pins s σ H _ I h) fun fv s1 ⟨x, H1, I1, rx, f, fd, ps, sp, k, ex, F, hr, hk, hb, q⟩ => ?_) hev
  subst ex
  obtain rfl : fv = Value.ref f := rx
  refine PySem.W.callWith_K (h₀ := X.base) I.ok.mod.kin hk (thn (ha pos pins s1 σ H1 _ I1 q) fun us s2 ⟨vs, H2, I2, r, q2⟩ => ⟨I2.kIn, ?_⟩) hst hpl
  exact run_fn (ds := []) (dvs := []) F hr hb .nil pass0 I2 r (by rw [List.append_nil]; exact q2)

/-! ### a table of the module: a dict that the top has made -/
def KTab (P : Program) (w : World) (K : PySem.W.Frag) (a : Addr) (kvs : List (Key × V)) : Prop :=
  ∃ (o : Obj) (es : Array DictEntry) (ep : Nat) (vs : List (Key × Value)), K.lookup a = some o ∧ o.ExactDict ∧ o.data = .dict es ep ∧ PySem.KeysOf (mixKind P w) es ∧ Pairs (mixKind P w) es.toList vs ∧ (vs.map (·.1)).Nodup ∧ KV kvs vs
def tKGet (P : Program) (w : World) (K : PySem.W.Frag) (td ty : TE) : TE := fun σ H Q => td σ H fun x H1 => ty σ H1 fun y H2 => ∃ (a : Addr) (kvs : List (Key × V)) (k : Key) (v : V), x = .ref a ∧ KTab P w K a kvs ∧ y = kV k ∧ valV kvs k = some v ∧ Q v H2
theorem KTab.dict {X : Cx} {pins : List (Addr × Obj)} {σ : St} {H : Hp} {s : Shared} {a : Addr} {kvs : List (Key × V)} (I : Inv X pins σ H s) (T : KTab X.prog X.w X.K a kvs) : ∃ vs, KV kvs vs ∧ s.heap.DictOf (mixKind X.prog X.w) a vs := by
  obtain ⟨o, es, ep, vs, lk, ex, hd, hk, hp, nd, kv⟩ := T
  exact ⟨vs, kv, o, es, ep, I.kIn a o lk, ex, hd, hk, hp, nd⟩
theorem pe_kget {X : Cx} {o i : Expr} {td ty : TE} {pos : Pos} (ho : PE X o td) (hi : PE X i ty) (hs : NoSl i) : PE X (.Subscript o i pos) (tKGet X.prog X.w X.K td ty) := by
  intro pins s σ H Q I h
  refine subD_of PySem.F.slot_dict_getitem.lookup hs (thn (ho pins s σ H _ I h) fun ov s1 ⟨x, H1, I1, rx, q1⟩ => thn (hi pins s1 σ H1 _ I1 q1) fun iv s2 ⟨y, H2, I2, ry, a, kvs, k, v, ex, T, ey, l, q2⟩ => ?_)
  subst ex ey
  obtain rfl : ov = Value.ref a := rx
  obtain ⟨vs, kv, dd⟩ := T.dict I2
  obtain ⟨w', hw, rw'⟩ := RelO.some_of (v := v) (o := valueAt vs k) (by rw [← l]; exact kv.val k)
  exact ⟨dd.typeIs, wpAny_getItem_of (kV_is ry) dd.mapOf hw ⟨v, H2, I2.tok _, rw', q2⟩⟩

/-! ### sorted -/
section
variable {X : Cx} {prog : Program} {w : World} {A : Around} {E : Value → Shared → Prop} {s : Shared}
theorem collect_keys {d : Addr} {kvs : List (Key × Value)} {Q : List Value → Shared → Prop} (hh : A.handled = none) (lo : (d == sysModules) = false) (hd : s.heap.DictOf (mixKind prog w) d kvs) (hz : kvs.length ≤ sizeLine)
    (h : ∀ us h' tk, us.length = kvs.length → (∀ (i : Nat) (u : Value), us[i]? = some u → ∃ k x, kvs[i]? = some (k, x) ∧ keyIs k u = true) → (∀ b o, s.heap.get? b = some o → h'.get? b = some o) → s.heap.objs.size ≤ h'.objs.size → Q us { s with heap := h', toks := tk }) :
    wpAny (model prog w) A (collect (.ref d)) Q E s := by
  obtain ⟨ep, hat⟩ := hd.dictAt
  have hlt := hat.lt_size
  unfold collect
  refine wpAny_bind (wpAny_runValue (codeAny_builtin entry_proto_collect' ?_))
  rw [Around.under_plainId (by decide +kernel) _]
  show wpAny _ _ (do again (.builtin "list.__iadd__" ⟨[← newList [], .ref d], []⟩)) _ _ s
  refine wpAny_bind (wpAny_newList (wpAny_pure ⟨Code.quiet_builtin _ (by decide +kernel), codeAny_builtin entry_list_iadd' ?_⟩) (Nat.zero_le _))
  rw [Around.under_plainId (by decide +kernel) _]
  show wpAny _ _ (Builtin.List.listExtendWith (.ref s.heap.objs.size) (.ref d) (.ref s.heap.objs.size)) _ _ { s with heap := s.heap.push (seqObj "list" #[] 0) }
  refine PySem.W.kdl_extend (R := fun r s' => match r with
    | .ok (.ret v) => wpAny (model prog w) A (match v with
      | .ref a => (do
        let o ← load a
        match o.data with
        | .seq xs _ => pure xs.toList
        | _ => unsupported "internal:collect")
      | _ => unsupported "internal:collect") Q E s'
    | .ok _ => False
    | .error e => E e s') (s := { s with heap := s.heap.push (seqObj "list" #[] 0) }) (PySem.W.kdl_dict (knd := mixKind prog w) (kvs := kvs) (ep := ep) lo) hh (hat.push _) s.heap.objs.size (Nat.ne_of_gt hlt) (Nat.ne_of_gt hlt) _ 0 (Heap.get?_push_size _ rfl) (fun h' tk acc' c' hk hS hacc => ?_) hz
  show wpAny (model prog w) A (do
      let o ← load s.heap.objs.size
      match o.data with
      | .seq xs _ => pure xs.toList
      | _ => unsupported "internal:collect") Q E { s with heap := h', toks := tk }
  refine wpAny_bind (wpAny_load hS ?_)
  refine wpAny_pure (h acc'.toList h' tk (by rw [Array.length_toList]; exact hacc.1) (fun i u e => hacc.2 i u (by rw [← Array.getElem?_toList]; exact e)) (fun b o e => ?_) (Nat.le_of_lt (Heap.lt_size hS)))
  exact hk b o (Nat.ne_of_lt (Heap.lt_size e)) (Heap.get?_push_of_some _ e)
theorem keys_ints : ∀ {us : List Value} {ns : List Int} {kvs : List (Key × Value)}, kvs.map (·.1) = ns.map Sum.inl → us.length = kvs.length → (∀ (i : Nat) (u : Value), us[i]? = some u → ∃ k x, kvs[i]? = some (k, x) ∧ keyIs k u = true) → IntsAre us ns
  | [], [], _, _, _, _ => .nil
  | [], _ :: _, [], e, _, _ => by simp at e
  | [], _ :: _, _ :: _, _, l, _ => by simp at l
  | u :: us, ns, [], _, l, _ => by simp at l
  | u :: us, [], p :: kvs, e, _, _ => by simp at e
  | u :: us, n :: ns, p :: kvs, e, l, h => by
    obtain ⟨e1, e2⟩ := List.cons.inj (show p.1 :: kvs.map (·.1) = Sum.inl n :: ns.map Sum.inl from e)
    obtain ⟨k, x, q, hk⟩ := h 0 u rfl
    have q' : p = (k, x) := Option.some.inj q
    subst q'
    have e3 : k = Sum.inl n := e1
    subst e3
    obtain ⟨t, rfl⟩ := Value.isInt_shape (k := n) (v := u) hk
    exact .cons n t (keys_ints e2 (by simpa using l) fun i v q => by simpa using h (i + 1) v (by simpa using q))
/-- sorted(d): the keys, ints, in order -/
def rSortedD : List V → Hp → VK → Prop := fun vs H Q => ∃ (a : Addr) (kvs : List (Key × V)) (ns : List Int), vs = [V.ref a] ∧ H a = some (.dK kvs) ∧ kvs.map (·.1) = ns.map Sum.inl ∧
  ∀ (ns' : List Int) (p : Addr), ns'.Perm ns → ns'.Pairwise (· ≤ ·) → H p = none → Q (.ref p) (upd H p (.lst (ns'.map V.int)))
theorem cr_sortedD (hc : X.calm = true) : CallR X (.builtin "sorted") rSortedD := by
  intro pins s σ H vs us Q I r h
  obtain ⟨a, kvs, ns, rfl, ha, hn, q⟩ := h
  obtain ⟨hz, lo, ws, kv, dd⟩ := dk_of I.hok ha
  rw [Vals.ref1 r]
  have el : kvs.length = ws.length := Paired.length kv
  have ek : ws.map (·.1) = ns.map Sum.inl := by rw [← hn]; exact (KV.keys kv).symm
  refine Calls.call_function_entry kind_sorted plain_sorted entry_sorted (args_sorted1 _) ?_
  unfold Builtin.«sorted»
  refine wpAny_bind (m := checkCount "sorted" 1 1 _) (wpAny_pure ?_)
  refine wpAny_bind (collect_keys (I.ok.hd hc) lo dd (by omega) fun ks h' tk kl kh kk sz => ?_)
  have hi : IntsAre ks ns := keys_ints ek kl kh
  refine wpAny_bind (wpAny_newList ?_ (by omega))
  have hoL : (h'.push (seqObj "list" ks.toArray 0)).get? h'.objs.size = some (seqObj "list" ks.toArray 0) := Heap.get?_push_size _ rfl
  refine wpAny_bind (wpAny_holding (wpAny_call_entry slot_list_sort ⟨_, hoL, rfl⟩ entry_list_sort (list_sort_treeAny hoL hi (by omega) fun out ns' h1 h2 h3 => ⟨_, rfl, ?_⟩) (args_list_sort _)))
  obtain ⟨ep, he⟩ := PyProof.Rows.sortedHeap_at (out := out) hoL
  have k2 : ∀ b o, s.heap.get? b = some o → (sortedHeap (h'.push (seqObj "list" ks.toArray 0)) h'.objs.size ks out).get? b = some o := fun b o e => by
    have e1 := kk b o e
    have e2 := Heap.lt_size e1
    rw [PyProof.Rows.sortedHeap_old (Nat.ne_of_lt e2) (by rw [size_push']; exact Nat.lt_succ_of_lt e2)]
    exact Heap.get?_push_of_some _ e1
  have nl : (ns'.map V.int).length ≤ sizeLine := by rw [List.length_map, h2.length_eq, ← hi.length]; omega
  exact wpAny_pure ⟨_, rfl, .ref _, upd H h'.objs.size (.lst (ns'.map V.int)), I.laid (t' := tk) k2 sz ⟨nl, out.toList, ep, vals_of_ints h1, he⟩, rfl, q ns' _ h2 h3 (I.hok.fresh sz)⟩
end

/-! ### min, max by a def as key -/
/-- the body as a built-in's code sees it -/
abbrev Cx.inB (X : Cx) : Cx := { X with A := X.A.in1, xe := fun _ _ => False }
section
variable {X : Cx} {pins : List (Addr × Obj)} {σ : St} {H : Hp} {s : Shared}
theorem Inv.inB (I : Inv X pins σ H s) : Inv X.inB pins σ H s :=
  ⟨⟨I.ok.mod, I.ok.kind, I.ok.glob, I.ok.blt, I.ok.above, I.ok.inj, I.ok.has, I.ok.cab, I.ok.hd, I.ok.frames, I.ok.stk, I.ok.exf, I.ok.bs, I.ok.bsz, I.ok.noex, I.ok.exfs, I.ok.funs, I.ok.frf⟩, I.os, I.bare, I.base, I.loc, I.cell, I.free, I.freeC, I.pin, I.hok, I.len⟩
theorem Inv.outB (I : Inv X.inB pins σ H s) : Inv X pins σ H s :=
  ⟨⟨I.ok.mod, I.ok.kind, I.ok.glob, I.ok.blt, I.ok.above, I.ok.inj, I.ok.has, I.ok.cab, I.ok.hd, I.ok.frames, I.ok.stk, I.ok.exf, I.ok.bs, I.ok.bsz, I.ok.noex, I.ok.exfs, I.ok.funs, I.ok.frf⟩, I.os, I.bare, I.base, I.loc, I.cell, I.free, I.freeC, I.pin, I.hok, I.len⟩
/-- an untracked record of ours is changed -/
theorem Inv.rcd {h' : Heap} {a : Addr} (I : Inv X pins σ H s) (fa : FpOk X pins H a) (k : ∀ b o, b ≠ a → s.heap.get? b = some o → h'.get? b = some o) : Inv X pins σ H { s with heap := h' } :=
  I.turned (t' := s.toks) k fa.1 fa.2.1 fa.2.2.2.1 fa.2.2.2.2.1 fa.2.2.2.2.2
end
theorem FpOk.heap {X : Cx} {pins : List (Addr × Obj)} {H H' : Hp} {a : Addr} (f : FpOk X pins H a) (h : H' a = none) : FpOk X pins H' a := ⟨h, f.2⟩

section
variable {X : Cx} {pins : List (Addr × Obj)} {σ : St} {k : Nat} {f l J S : Addr} {fd : FuncData} {ps : List Str} {sp : Sp} {xs : List V} {kf : Nat → Int} {Pv : Hp → Prop} {R : Result → Shared → Prop}
theorem min_go (hc : X.calm = true) (F : FnOk X.prog X.w X.K X.mg X.base CX0 k f fd ps sp) (hr : Room k X.A.in1) (hb : Binds X.K fd ps []) (hl : ∀ H, Pv H → SqL X.K H l xs)
    (key : ∀ (j : Nat) (x : V) (H : Hp), xs[j]? = some x → Pv H → sp [x] H (fun u H' => u = .int (kf j) ∧ Pv H') E0) (hJS : S ≠ J)
    (hR : ∀ (i : Nat) (x : V) (u : Value) (H : Hp) (s : Shared), xs[i]? = some x → RelV x u → (∀ j, j < xs.length → ¬ kf j < kf i ∧ (j < i → kf i < kf j)) → Inv X pins σ H s → Pv H → R (.ok (.ret u)) s) :
    ∀ (r j i : Nat) (H : Hp) (s : Shared) (x : V) (u : Value) (tb : Tok) (c : Nat), xs.length - j = r → j ≤ xs.length → Inv X pins σ H s → Pv H → FpOk X pins H J → FpOk X pins H S → s.heap.IsListIter J l j →
      s.heap.get? S = some (seqObj "list" #[u, .int (kf i) tb] c) → xs[i]? = some x → RelV x u → i < j → (∀ j', j' < j → ¬ kf j' < kf i ∧ (j' < i → kf i < kf j')) →
      codeAny (model X.prog X.w) X.A (.builtin "min.loop" ⟨[.ref J, .ref f, .ref S], []⟩) R s := by
  have nm : (toString "min" ++ toString ".loop" : String) = "min.loop" := by decide
  intro r
  induction r with
  | zero =>
    intro j i H s x u tb c er hj I P fJ fS it gS hx ru hij best
    obtain ⟨its, rv, pl, _⟩ := I.list (hl H P)
    have ln := rv.length
    refine codeAny_builtin PySem.F.entry_min_loop ?_
    rw [Around.under_plainId PySem.F.plain_min_loop _]
    show wpAny _ X.A.in1 (seqItems? (.ref S) >>= _) _ _ _
    refine wpAny_bind (wpAny_seqItems gS rfl ?_)
    show wpAny _ X.A.in1 (tryCatch (pyNext (.ref J)) _ >>= _) _ _ _
    refine wpAny_bind (wpAny_tryCatch (wpAny_pyNext_list_end (I.ok.hd hc) it pl.isList (by simp; omega) fun h1 eb => ?_))
    have I1 : Inv X pins σ H { s with heap := h1 } := I.rcd fJ fun b o hb e => eb b o hb e
    have g1 := eb S _ hJS gS
    have sb := Heap.SameBut.update h1 S (Obj.mapSeq fun _ => (#[] : Array Value))
    show wpAny _ X.A.in1 (updateSeq S (fun _ => #[]) >>= _) _ _ _
    refine wpAny_bind (wpAny_updateSeq g1 rfl (wpAny_bind (wpAny_letGo (wpAny_pure ?_))))
    exact hR i x u H _ hx ru (fun j' hj' => best j' (by omega)) (I1.rcd fS fun b o hb e => (sb.2 b hb).trans e) P
  | succ r ih =>
    intro j i H s x u tb c er hj I P fJ fS it gS hx ru hij best
    obtain ⟨its, rv, pl, _⟩ := I.list (hl H P)
    have ln := rv.length
    have hlt : j < xs.length := by omega
    obtain ⟨y, hy⟩ : ∃ y, xs[j]? = some y := ⟨_, List.getElem?_eq_getElem hlt⟩
    obtain ⟨v, hv, rvy⟩ := rv.get hy
    refine codeAny_builtin PySem.F.entry_min_loop ?_
    rw [Around.under_plainId PySem.F.plain_min_loop _]
    show wpAny _ X.A.in1 (seqItems? (.ref S) >>= _) _ _ _
    refine wpAny_bind (wpAny_seqItems gS rfl ?_)
    show wpAny _ X.A.in1 (tryCatch (pyNext (.ref J)) _ >>= _) _ _ _
    refine wpAny_bind (wpAny_tryCatch (wpAny_pyNext_list_item it pl.isList (x := v) (by simpa using hv) fun h1 it1 sb1 => ?_))
    have I1 : Inv X pins σ H { s with heap := h1 } := I.rcd fJ fun b o hb e => (sb1.2 b hb).trans e
    have g1 : h1.get? S = some (seqObj "list" #[u, .int (kf i) tb] c) := (sb1.2 S hJS).trans gS
    have I2 := I1.pinned (fp := [J, S]) (fun b hb => by
      rcases List.mem_cons.mp hb with e | hb
      · rw [e]; exact fJ
      · rw [List.mem_singleton.mp hb]; exact fS) (fun b hb => by
      rcases List.mem_cons.mp hb with e | hb
      · obtain ⟨oJ, e1, e2, e3⟩ := it1
        rw [e]; exact ⟨oJ, e1, fun z q => by rw [e3] at q; cases q⟩
      · rw [List.mem_singleton.mp hb]
        exact ⟨_, g1, fun z q => by cases (show (Data.seq _ _ : Data) = Data.cell z from q)⟩)
    show wpAny _ X.A.in1 (tryCatch (holding [v] (call (.ref f) [v])) _ >>= _) _ _ _
    refine wpAny_bind (wpAny_tryCatch (wpAny_holding (wpAny_mono (run_fn (X := X.inB) (ds := []) (dvs := []) (us := [v]) (vs := [y]) F hr hb .nil pass0 I2.inB (.cons rvy .nil) (key j y H hy P)) (fun z s2 hz => ?_) fun _ _ z => z.elim)))
    obtain ⟨zv, H2, I3, rz, ez, P2⟩ := hz
    subst ez
    obtain ⟨t2, rfl⟩ := rz
    have I3 := I3.outB
    have pJ : ∀ o, h1.get? J = some o → s2.heap.get? J = some o ∧ H2 J = none := fun o e => by
      have q := I3.pin (J, o) (List.mem_append_right _ (List.mem_append_right _ (mem_pinsAt (by simp) e)))
      exact ⟨q.1, q.2.1⟩
    obtain ⟨oJ, e1, e2, e3⟩ := it1
    have gS2 := I3.pin (S, _) (List.mem_append_right _ (List.mem_append_right _ (mem_pinsAt (by simp) g1)))
    have g2 : s2.heap.get? S = some (seqObj "list" #[u, .int (kf i) tb] c) := gS2.1
    have it2 : s2.heap.IsListIter J l (j + 1) := ⟨oJ, (pJ oJ e1).1, e2, e3⟩
    have I4 : Inv X pins σ H2 s2 := I3.unpinned
    have fJ2 : FpOk X pins H2 J := fJ.heap (pJ oJ e1).2
    have fS2 : FpOk X pins H2 S := fS.heap gS2.2.1
    show wpAny _ X.A.in1 (tryCatch (holding [v, .int (kf j) t2] (richCompare .Lt (.int (kf j) t2) (.int (kf i) tb) >>= _)) _ >>= _) _ _ _
    refine wpAny_bind (wpAny_tryCatch (wpAny_holding (wpAny_bind (CmpOf.ints_lt (prog := X.prog) (w := X.w) (A := X.A.in1) (P := fun n z => ∃ t, z = Value.int (kf n) t) kf (fun _ _ q => q) j i _ _ _ _ _ ⟨t2, rfl⟩ ⟨tb, rfl⟩ ?_))))
    refine wpAny_bind (wpAny_holding (wpAny_truthy_bool (wpAny_bind (wpAny_letGo (wpAny_pure ?_)))))
    by_cases hlt2 : kf j < kf i
    · have sb2 := Heap.SameBut.update s2.heap S (Obj.mapSeq fun _ => #[v, Value.int (kf j) t2])
      obtain ⟨c2, g3⟩ : ∃ c2, (s2.heap.update S (Obj.mapSeq fun _ => #[v, Value.int (kf j) t2])).get? S = some (seqObj "list" #[v, .int (kf j) t2] c2) := ⟨_, get?_update_seq g2 _⟩
      simp only [hlt2, decide_true, if_true]
      refine wpAny_bind (wpAny_updateSeq g2 rfl (wpAny_bind (wpAny_letGo ?_)))
      rw [nm]
      refine wpAny_pure ⟨plainId_quiet PySem.F.plain_min_loop _, ?_⟩
      refine ih (j + 1) j H2 _ y v t2 c2 (by omega) (by omega) (I4.rcd fS2 fun b o hb e => (sb2.2 b hb).trans e) P2 fJ2 fS2 ⟨oJ, (sb2.2 J (Ne.symm hJS)).trans (pJ oJ e1).1, e2, e3⟩ g3 hy rvy (by omega) fun j' hj' => ?_
      by_cases e : j' = j
      · subst e
        exact ⟨by omega, fun _ => by omega⟩
      · have b1 := best j' (by omega)
        exact ⟨by omega, fun _ => by omega⟩
    · simp only [hlt2, decide_false, Bool.false_eq_true, if_false]
      refine wpAny_bind (wpAny_letGo ?_)
      rw [nm]
      refine wpAny_pure ⟨plainId_quiet PySem.F.plain_min_loop _, ?_⟩
      refine ih (j + 1) i H2 _ x u tb c (by omega) (by omega) I4 P2 fJ2 fS2 it2 g2 hx ru (by omega) fun j' hj' => ?_
      by_cases e : j' = j
      · subst e
        exact ⟨hlt2, fun _ => by omega⟩
      · exact best j' (by omega)
end
/-- min(xs, key=f): the first of the best -/
theorem min_key {X : Cx} {pins : List (Addr × Obj)} {σ : St} {H : Hp} {s : Shared} {k : Nat} {f l : Addr} {fd : FuncData} {ps : List Str} {sp : Sp} {xs : List V} {kf : Nat → Int} {Pv : Hp → Prop} {Q : Value → Shared → Prop} {E : Value → Shared → Prop}
    (hc : X.calm = true) (F : FnOk X.prog X.w X.K X.mg X.base CX0 k f fd ps sp) (hr : Room k X.A.in1) (hb : Binds X.K fd ps []) (hl : ∀ H, Pv H → SqL X.K H l xs)
    (key : ∀ (j : Nat) (x : V) (H : Hp), xs[j]? = some x → Pv H → sp [x] H (fun u H' => u = .int (kf j) ∧ Pv H') E0) (ne : 0 < xs.length) (I : Inv X pins σ H s) (P : Pv H)
    (hQ : ∀ (i : Nat) (x : V) (u : Value) (H : Hp) (s : Shared), xs[i]? = some x → RelV x u → (∀ j, j < xs.length → ¬ kf j < kf i ∧ (j < i → kf i < kf j)) → Inv X pins σ H s → Pv H → Q u s) :
    wpAny (model X.prog X.w) X.A (call (.builtin "min") [.ref l] [(Str.ofString "key", .ref f)]) Q E s := by
  have nm : (toString "min" ++ toString ".loop" : String) = "min.loop" := by decide
  obtain ⟨its, rv, pl, _⟩ := I.list (hl H P)
  have ln := rv.length
  refine kmk_tree PySem.F.kind_min PySem.F.plain_min PySem.F.entry_min (kmk_min_key _ _) ?_
  show wpAny _ X.A.in1 (Builtin.Builtins.bindParams "min" ["key", "default"] 0 ⟨[], [(Str.ofString "key", .ref f)]⟩ >>= _) _ _ s
  refine wpAny_bind (wpAny_of_eq (show _ = pure [some (Value.ref f), none] from rfl) ?_)
  refine wpAny_bind (wpAny_pure ?_)
  refine wpAny_bind (wpAny_pyIter_list pl.isList ?_)
  refine wpAny_bind (wpAny_newList ?_ (Nat.zero_le _))
  rw [nm]
  refine wpAny_pure ⟨plainId_quiet PySem.F.plain_min_loop _, ?_⟩
  let h0 : Heap := s.heap.push { cls := .type "list_iterator", data := .fields #[.ref l, .int 0 0] }
  have z0 : h0.objs.size = s.heap.objs.size + 1 := size_push' ..
  let h1 : Heap := h0.push (seqObj "list" #[] 0)
  have kp : ∀ b o, s.heap.get? b = some o → h1.get? b = some o := fun b o e => Heap.get?_push_of_some _ (Heap.get?_push_of_some _ e)
  have gJ : h1.get? s.heap.objs.size = some { cls := .type "list_iterator", data := .fields #[.ref l, .int 0 0] } := Heap.get?_push_of_some _ (Heap.get?_push_size _ rfl)
  have gS : h1.get? h0.objs.size = some (seqObj "list" #[] 0) := Heap.get?_push_size _ rfl
  have dif : h0.objs.size ≠ s.heap.objs.size := by omega
  have I0 : Inv X pins σ H { s with heap := h1 } := I.kept (t' := s.toks) kp
  have fJ : FpOk X pins H s.heap.objs.size := I.fpOk (Nat.le_refl _) (I.hok.fresh (Nat.le_refl _))
  have fS : FpOk X pins H h0.objs.size := I.fpOk (by omega) (I.hok.fresh (by omega))
  show codeAny (model X.prog X.w) X.A (.builtin "min.loop" ⟨[.ref s.heap.objs.size, .ref f, .ref h0.objs.size], []⟩) _ { s with heap := h1 }
  obtain ⟨y, hy⟩ : ∃ y, xs[0]? = some y := ⟨_, List.getElem?_eq_getElem ne⟩
  obtain ⟨v, hv, rvy⟩ := rv.get hy
  obtain ⟨its', rv', pl', _⟩ := I0.list (hl H P)
  obtain ⟨v', hv', rvy'⟩ := rv'.get hy
  refine codeAny_builtin PySem.F.entry_min_loop ?_
  rw [Around.under_plainId PySem.F.plain_min_loop _]
  show wpAny _ X.A.in1 (seqItems? (.ref h0.objs.size) >>= _) _ _ _
  refine wpAny_bind (wpAny_seqItems gS rfl ?_)
  show wpAny _ X.A.in1 (tryCatch (pyNext (.ref s.heap.objs.size)) _ >>= _) _ _ _
  refine wpAny_bind (wpAny_tryCatch (wpAny_pyNext_list_item (i := 0) ⟨_, gJ, rfl, rfl⟩ pl'.isList (x := v') (by simpa using hv') fun h2 it1 sb1 => ?_))
  have I1 : Inv X pins σ H { s with heap := h2 } := I0.rcd fJ fun b o hb e => (sb1.2 b hb).trans e
  have g1 : h2.get? h0.objs.size = some (seqObj "list" #[] 0) := (sb1.2 _ dif).trans gS
  have I2 := I1.pinned (fp := [s.heap.objs.size, h0.objs.size]) (fun b hb => by
    rcases List.mem_cons.mp hb with e | hb
    · rw [e]; exact fJ
    · rw [List.mem_singleton.mp hb]; exact fS) (fun b hb => by
    rcases List.mem_cons.mp hb with e | hb
    · obtain ⟨oJ, e1, e2, e3⟩ := it1
      rw [e]; exact ⟨oJ, e1, fun z q => by rw [e3] at q; cases q⟩
    · rw [List.mem_singleton.mp hb]
      exact ⟨_, g1, fun z q => by cases (show (Data.seq _ _ : Data) = Data.cell z from q)⟩)
  show wpAny _ X.A.in1 (tryCatch (holding [v'] (call (.ref f) [v'])) _ >>= _) _ _ _
  refine wpAny_bind (wpAny_tryCatch (wpAny_holding (wpAny_mono (run_fn (X := X.inB) (ds := []) (dvs := []) (us := [v']) (vs := [y]) F hr hb .nil pass0 I2.inB (.cons rvy' .nil) (key 0 y H hy P)) (fun z s2 hz => ?_) fun _ _ z => z.elim)))
  obtain ⟨zv, H2, I3, rz, ez, P2⟩ := hz
  subst ez
  obtain ⟨t2, rfl⟩ := rz
  have I3 := I3.outB
  have pJ : ∀ o, h2.get? s.heap.objs.size = some o → s2.heap.get? s.heap.objs.size = some o ∧ H2 s.heap.objs.size = none := fun o e => by
    have q := I3.pin (s.heap.objs.size, o) (List.mem_append_right _ (List.mem_append_right _ (mem_pinsAt (by simp) e)))
    exact ⟨q.1, q.2.1⟩
  obtain ⟨oJ, e1, e2, e3⟩ := it1
  have gS2 := I3.pin (h0.objs.size, _) (List.mem_append_right _ (List.mem_append_right _ (mem_pinsAt (by simp) g1)))
  have g2 : s2.heap.get? h0.objs.size = some (seqObj "list" #[] 0) := gS2.1
  have I4 : Inv X pins σ H2 s2 := I3.unpinned
  have fJ2 : FpOk X pins H2 s.heap.objs.size := fJ.heap (pJ oJ e1).2
  have fS2 : FpOk X pins H2 h0.objs.size := fS.heap gS2.2.1
  have sb2 := Heap.SameBut.update s2.heap h0.objs.size (Obj.mapSeq fun _ => #[v', Value.int (kf 0) t2])
  obtain ⟨c2, g3⟩ : ∃ c2, (s2.heap.update h0.objs.size (Obj.mapSeq fun _ => #[v', Value.int (kf 0) t2])).get? h0.objs.size = some (seqObj "list" #[v', .int (kf 0) t2] c2) := ⟨_, get?_update_seq g2 _⟩
  show wpAny _ X.A.in1 (updateSeq h0.objs.size (fun _ => #[v', Value.int (kf 0) t2]) >>= _) _ _ _
  refine wpAny_bind (wpAny_updateSeq g2 rfl ?_)
  rw [nm]
  refine wpAny_pure ⟨plainId_quiet PySem.F.plain_min_loop _, ?_⟩
  refine min_go (kf := kf) (Pv := Pv) (xs := xs) hc F hr hb hl key dif (fun i x u H3 s3 a1 a2 a3 a4 a5 => hQ i x u H3 s3 a1 a2 a3 a4 a5) _ 1 0 H2 _ y v' t2 c2 rfl ne (I4.rcd fS2 fun b o hb e => (sb2.2 b hb).trans e) P2 fJ2 fS2 ⟨oJ, (sb2.2 _ (Ne.symm dif)).trans (pJ oJ e1).1, e2, e3⟩ g3 hy rvy' (by omega) fun j' hj' => ?_
  have e : j' = 0 := by omega
  subst e
  exact ⟨by omega, fun q => absurd q (Nat.lt_irrefl _)⟩
/-- min(e, key=x), x a def of the module -/
def tMinK (K : PySem.W.Frag) (sp : Sp) (t : TA) : TE := fun σ H Q => t σ H fun vs H1 => ∃ (l : Addr) (xs : List V) (kf : Nat → Int) (Pv : Hp → Prop), vs = [.ref l] ∧ 0 < xs.length ∧ Pv H1 ∧ (∀ H, Pv H → SqL K H l xs) ∧
  (∀ (j : Nat) (x : V) (H : Hp), xs[j]? = some x → Pv H → sp [x] H (fun u H' => u = .int (kf j) ∧ Pv H') E0) ∧
  ∀ (i : Nat) (x : V) (H : Hp), xs[i]? = some x → (∀ j, j < xs.length → ¬ kf j < kf i ∧ (j < i → kf i < kf j)) → Pv H → Q x H
theorem pe_minK {X : Cx} {k : Nat} {f : Addr} {fd : FuncData} {ps : List Str} {sp : Sp} {x : Str} {e : Expr} {t : TA} {p p2 kp pos : Pos} (hc : X.calm = true) (F : FnOk X.prog X.w X.K X.mg X.base CX0 k f fd ps sp) (hr : Room k X.A.in1) (hb : Binds X.K fd ps [])
    (hg : Gl X "min") (hm : X.mg "min" = none) (hgx : Gl X x) (hmx : X.mg x = some (.ref f)) (ha : PA X [e] t) (hdx : (x == ("__debug__" : Str)) = false := by decide) (hst : starEach [e] X.env = [(false, eval e X.env)] := by rfl)
    (hkw : keywordEach [⟨some (Str.ofString "key"), .Name x p2, kp⟩] X.env = [(some (Str.ofString "key"), eval (.Name x p2) X.env)] := by rfl) :
    PE X (.Call (.Name "min" p) [e] [⟨some (Str.ofString "key"), .Name x p2, kp⟩] pos) (tMinK X.K sp t) := by
  intro pins s σ H Q I h
  refine wpAny_Call_Name_kw (ld_blt I hg hm boot_min ?_)
  refine callWith_kw (thn (ha pos pins s σ H _ I h) fun us s1 ⟨vs, H1, I1, r1, l, xs, kf, Pv, ev, ne, P1, hl, key, q⟩ => ?_) (by rw [hst]; rfl) (by rw [hst]; rfl) (by rw [hkw]; rfl) (by rw [hkw]; rfl)
  subst ev
  rw [Vals.ref1 r1]
  refine kws_cons (ld_glob I1 hgx hmx (kws_nil ?_) hdx)
  rw [hkw]
  exact min_key hc F hr hb hl key ne I1 P1 fun i y u H2 s2 a1 a2 a3 a4 a5 => ⟨y, H2, a4, a2, q i y H2 a1 a3 a5⟩

section
variable {X : Cx} {pins : List (Addr × Obj)} {σ : St} {k : Nat} {f l J S : Addr} {fd : FuncData} {ps : List Str} {sp : Sp} {xs : List V} {kf : Nat → Int} {Pv : Hp → Prop} {R : Result → Shared → Prop}
theorem max_go (hc : X.calm = true) (F : FnOk X.prog X.w X.K X.mg X.base CX0 k f fd ps sp) (hr : Room k X.A.in1) (hb : Binds X.K fd ps []) (hl : ∀ H, Pv H → SqL X.K H l xs)
    (key : ∀ (j : Nat) (x : V) (H : Hp), xs[j]? = some x → Pv H → sp [x] H (fun u H' => u = .int (kf j) ∧ Pv H') E0) (hJS : S ≠ J)
    (hR : ∀ (i : Nat) (x : V) (u : Value) (H : Hp) (s : Shared), xs[i]? = some x → RelV x u → (∀ j, j < xs.length → ¬ kf j > kf i ∧ (j < i → kf i > kf j)) → Inv X pins σ H s → Pv H → R (.ok (.ret u)) s) :
    ∀ (r j i : Nat) (H : Hp) (s : Shared) (x : V) (u : Value) (tb : Tok) (c : Nat), xs.length - j = r → j ≤ xs.length → Inv X pins σ H s → Pv H → FpOk X pins H J → FpOk X pins H S → s.heap.IsListIter J l j →
      s.heap.get? S = some (seqObj "list" #[u, .int (kf i) tb] c) → xs[i]? = some x → RelV x u → i < j → (∀ j', j' < j → ¬ kf j' > kf i ∧ (j' < i → kf i > kf j')) →
      codeAny (model X.prog X.w) X.A (.builtin "max.loop" ⟨[.ref J, .ref f, .ref S], []⟩) R s := by
  have nm : (toString "max" ++ toString ".loop" : String) = "max.loop" := by decide
  intro r
  induction r with
  | zero =>
    intro j i H s x u tb c er hj I P fJ fS it gS hx ru hij best
    obtain ⟨its, rv, pl, _⟩ := I.list (hl H P)
    have ln := rv.length
    refine codeAny_builtin PySem.F.entry_max_loop ?_
    rw [Around.under_plainId PySem.F.plain_max_loop _]
    show wpAny _ X.A.in1 (seqItems? (.ref S) >>= _) _ _ _
    refine wpAny_bind (wpAny_seqItems gS rfl ?_)
    show wpAny _ X.A.in1 (tryCatch (pyNext (.ref J)) _ >>= _) _ _ _
    refine wpAny_bind (wpAny_tryCatch (wpAny_pyNext_list_end (I.ok.hd hc) it pl.isList (by simp; omega) fun h1 eb => ?_))
    have I1 : Inv X pins σ H { s with heap := h1 } := I.rcd fJ fun b o hb e => eb b o hb e
    have g1 := eb S _ hJS gS
    have sb := Heap.SameBut.update h1 S (Obj.mapSeq fun _ => (#[] : Array Value))
    show wpAny _ X.A.in1 (updateSeq S (fun _ => #[]) >>= _) _ _ _
    refine wpAny_bind (wpAny_updateSeq g1 rfl (wpAny_bind (wpAny_letGo (wpAny_pure ?_))))
    exact hR i x u H _ hx ru (fun j' hj' => best j' (by omega)) (I1.rcd fS fun b o hb e => (sb.2 b hb).trans e) P
  | succ r ih =>
    intro j i H s x u tb c er hj I P fJ fS it gS hx ru hij best
    obtain ⟨its, rv, pl, _⟩ := I.list (hl H P)
    have ln := rv.length
    have hlt : j < xs.length := by omega
    obtain ⟨y, hy⟩ : ∃ y, xs[j]? = some y := ⟨_, List.getElem?_eq_getElem hlt⟩
    obtain ⟨v, hv, rvy⟩ := rv.get hy
    refine codeAny_builtin PySem.F.entry_max_loop ?_
    rw [Around.under_plainId PySem.F.plain_max_loop _]
    show wpAny _ X.A.in1 (seqItems? (.ref S) >>= _) _ _ _
    refine wpAny_bind (wpAny_seqItems gS rfl ?_)
    show wpAny _ X.A.in1 (tryCatch (pyNext (.ref J)) _ >>= _) _ _ _
    refine wpAny_bind (wpAny_tryCatch (wpAny_pyNext_list_item it pl.isList (x := v) (by simpa using hv) fun h1 it1 sb1 => ?_))
    have I1 : Inv X pins σ H { s with heap := h1 } := I.rcd fJ fun b o hb e => (sb1.2 b hb).trans e
    have g1 : h1.get? S = some (seqObj "list" #[u, .int (kf i) tb] c) := (sb1.2 S hJS).trans gS
    have I2 := I1.pinned (fp := [J, S]) (fun b hb => by
      rcases List.mem_cons.mp hb with e | hb
      · rw [e]; exact fJ
      · rw [List.mem_singleton.mp hb]; exact fS) (fun b hb => by
      rcases List.mem_cons.mp hb with e | hb
      · obtain ⟨oJ, e1, e2, e3⟩ := it1
        rw [e]; exact ⟨oJ, e1, fun z q => by rw [e3] at q; cases q⟩
      · rw [List.mem_singleton.mp hb]
        exact ⟨_, g1, fun z q => by cases (show (Data.seq _ _ : Data) = Data.cell z from q)⟩)
    show wpAny _ X.A.in1 (tryCatch (holding [v] (call (.ref f) [v])) _ >>= _) _ _ _
    refine wpAny_bind (wpAny_tryCatch (wpAny_holding (wpAny_mono (run_fn (X := X.inB) (ds := []) (dvs := []) (us := [v]) (vs := [y]) F hr hb .nil pass0 I2.inB (.cons rvy .nil) (key j y H hy P)) (fun z s2 hz => ?_) fun _ _ z => z.elim)))
    obtain ⟨zv, H2, I3, rz, ez, P2⟩ := hz
    subst ez
    obtain ⟨t2, rfl⟩ := rz
    have I3 := I3.outB
    have pJ : ∀ o, h1.get? J = some o → s2.heap.get? J = some o ∧ H2 J = none := fun o e => by
      have q := I3.pin (J, o) (List.mem_append_right _ (List.mem_append_right _ (mem_pinsAt (by simp) e)))
      exact ⟨q.1, q.2.1⟩
    obtain ⟨oJ, e1, e2, e3⟩ := it1
    have gS2 := I3.pin (S, _) (List.mem_append_right _ (List.mem_append_right _ (mem_pinsAt (by simp) g1)))
    have g2 : s2.heap.get? S = some (seqObj "list" #[u, .int (kf i) tb] c) := gS2.1
    have it2 : s2.heap.IsListIter J l (j + 1) := ⟨oJ, (pJ oJ e1).1, e2, e3⟩
    have I4 : Inv X pins σ H2 s2 := I3.unpinned
    have fJ2 : FpOk X pins H2 J := fJ.heap (pJ oJ e1).2
    have fS2 : FpOk X pins H2 S := fS.heap gS2.2.1
    show wpAny _ X.A.in1 (tryCatch (holding [v, .int (kf j) t2] (richCompare .Gt (.int (kf j) t2) (.int (kf i) tb) >>= _)) _ >>= _) _ _ _
    refine wpAny_bind (wpAny_tryCatch (wpAny_holding (wpAny_bind (CmpOf.ints_gt (prog := X.prog) (w := X.w) (A := X.A.in1) (P := fun n z => ∃ t, z = Value.int (kf n) t) kf (fun _ _ q => q) j i _ _ _ _ _ ⟨t2, rfl⟩ ⟨tb, rfl⟩ ?_))))
    refine wpAny_bind (wpAny_holding (wpAny_truthy_bool (wpAny_bind (wpAny_letGo (wpAny_pure ?_)))))
    by_cases hlt2 : kf j > kf i
    · have sb2 := Heap.SameBut.update s2.heap S (Obj.mapSeq fun _ => #[v, Value.int (kf j) t2])
      obtain ⟨c2, g3⟩ : ∃ c2, (s2.heap.update S (Obj.mapSeq fun _ => #[v, Value.int (kf j) t2])).get? S = some (seqObj "list" #[v, .int (kf j) t2] c2) := ⟨_, get?_update_seq g2 _⟩
      simp only [hlt2, decide_true, if_true]
      refine wpAny_bind (wpAny_updateSeq g2 rfl (wpAny_bind (wpAny_letGo ?_)))
      rw [nm]
      refine wpAny_pure ⟨plainId_quiet PySem.F.plain_max_loop _, ?_⟩
      refine ih (j + 1) j H2 _ y v t2 c2 (by omega) (by omega) (I4.rcd fS2 fun b o hb e => (sb2.2 b hb).trans e) P2 fJ2 fS2 ⟨oJ, (sb2.2 J (Ne.symm hJS)).trans (pJ oJ e1).1, e2, e3⟩ g3 hy rvy (by omega) fun j' hj' => ?_
      by_cases e : j' = j
      · subst e
        exact ⟨by omega, fun _ => by omega⟩
      · have b1 := best j' (by omega)
        exact ⟨by omega, fun _ => by omega⟩
    · simp only [hlt2, decide_false, Bool.false_eq_true, if_false]
      refine wpAny_bind (wpAny_letGo ?_)
      rw [nm]
      refine wpAny_pure ⟨plainId_quiet PySem.F.plain_max_loop _, ?_⟩
      refine ih (j + 1) i H2 _ x u tb c (by omega) (by omega) I4 P2 fJ2 fS2 it2 g2 hx ru (by omega) fun j' hj' => ?_
      by_cases e : j' = j
      · subst e
        exact ⟨hlt2, fun _ => by omega⟩
      · exact best j' (by omega)
end
/-- max(xs, key=f): the first of the best -/
theorem max_key {X : Cx} {pins : List (Addr × Obj)} {σ : St} {H : Hp} {s : Shared} {k : Nat} {f l : Addr} {fd : FuncData} {ps : List Str} {sp : Sp} {xs : List V} {kf : Nat → Int} {Pv : Hp → Prop} {Q : Value → Shared → Prop} {E : Value → Shared → Prop}
    (hc : X.calm = true) (F : FnOk X.prog X.w X.K X.mg X.base CX0 k f fd ps sp) (hr : Room k X.A.in1) (hb : Binds X.K fd ps []) (hl : ∀ H, Pv H → SqL X.K H l xs)
    (key : ∀ (j : Nat) (x : V) (H : Hp), xs[j]? = some x → Pv H → sp [x] H (fun u H' => u = .int (kf j) ∧ Pv H') E0) (ne : 0 < xs.length) (I : Inv X pins σ H s) (P : Pv H)
    (hQ : ∀ (i : Nat) (x : V) (u : Value) (H : Hp) (s : Shared), xs[i]? = some x → RelV x u → (∀ j, j < xs.length → ¬ kf j > kf i ∧ (j < i → kf i > kf j)) → Inv X pins σ H s → Pv H → Q u s) :
    wpAny (model X.prog X.w) X.A (call (.builtin "max") [.ref l] [(Str.ofString "key", .ref f)]) Q E s := by
  have nm : (toString "max" ++ toString ".loop" : String) = "max.loop" := by decide
  obtain ⟨its, rv, pl, _⟩ := I.list (hl H P)
  have ln := rv.length
  refine kmk_tree PySem.F.kind_max PySem.F.plain_max PySem.F.entry_max (kmk_max_key _ _) ?_
  show wpAny _ X.A.in1 (Builtin.Builtins.bindParams "max" ["key", "default"] 0 ⟨[], [(Str.ofString "key", .ref f)]⟩ >>= _) _ _ s
  refine wpAny_bind (wpAny_of_eq (show _ = pure [some (Value.ref f), none] from rfl) ?_)
  refine wpAny_bind (wpAny_pure ?_)
  refine wpAny_bind (wpAny_pyIter_list pl.isList ?_)
  refine wpAny_bind (wpAny_newList ?_ (Nat.zero_le _))
  rw [nm]
  refine wpAny_pure ⟨plainId_quiet PySem.F.plain_max_loop _, ?_⟩
  let h0 : Heap := s.heap.push { cls := .type "list_iterator", data := .fields #[.ref l, .int 0 0] }
  have z0 : h0.objs.size = s.heap.objs.size + 1 := size_push' ..
  let h1 : Heap := h0.push (seqObj "list" #[] 0)
  have kp : ∀ b o, s.heap.get? b = some o → h1.get? b = some o := fun b o e => Heap.get?_push_of_some _ (Heap.get?_push_of_some _ e)
  have gJ : h1.get? s.heap.objs.size = some { cls := .type "list_iterator", data := .fields #[.ref l, .int 0 0] } := Heap.get?_push_of_some _ (Heap.get?_push_size _ rfl)
  have gS : h1.get? h0.objs.size = some (seqObj "list" #[] 0) := Heap.get?_push_size _ rfl
  have dif : h0.objs.size ≠ s.heap.objs.size := by omega
  have I0 : Inv X pins σ H { s with heap := h1 } := I.kept (t' := s.toks) kp
  have fJ : FpOk X pins H s.heap.objs.size := I.fpOk (Nat.le_refl _) (I.hok.fresh (Nat.le_refl _))
  have fS : FpOk X pins H h0.objs.size := I.fpOk (by omega) (I.hok.fresh (by omega))
  show codeAny (model X.prog X.w) X.A (.builtin "max.loop" ⟨[.ref s.heap.objs.size, .ref f, .ref h0.objs.size], []⟩) _ { s with heap := h1 }
  obtain ⟨y, hy⟩ : ∃ y, xs[0]? = some y := ⟨_, List.getElem?_eq_getElem ne⟩
  obtain ⟨v, hv, rvy⟩ := rv.get hy
  obtain ⟨its', rv', pl', _⟩ := I0.list (hl H P)
  obtain ⟨v', hv', rvy'⟩ := rv'.get hy
  refine codeAny_builtin PySem.F.entry_max_loop ?_
  rw [Around.under_plainId PySem.F.plain_max_loop _]
  show wpAny _ X.A.in1 (seqItems? (.ref h0.objs.size) >>= _) _ _ _
  refine wpAny_bind (wpAny_seqItems gS rfl ?_)
  show wpAny _ X.A.in1 (tryCatch (pyNext (.ref s.heap.objs.size)) _ >>= _) _ _ _
  refine wpAny_bind (wpAny_tryCatch (wpAny_pyNext_list_item (i := 0) ⟨_, gJ, rfl, rfl⟩ pl'.isList (x := v') (by simpa using hv') fun h2 it1 sb1 => ?_))
  have I1 : Inv X pins σ H { s with heap := h2 } := I0.rcd fJ fun b o hb e => (sb1.2 b hb).trans e
  have g1 : h2.get? h0.objs.size = some (seqObj "list" #[] 0) := (sb1.2 _ dif).trans gS
  have I2 := I1.pinned (fp := [s.heap.objs.size, h0.objs.size]) (fun b hb => by
    rcases List.mem_cons.mp hb with e | hb
    · rw [e]; exact fJ
    · rw [List.mem_singleton.mp hb]; exact fS) (fun b hb => by
    rcases List.mem_cons.mp hb with e | hb
    · obtain ⟨oJ, e1, e2, e3⟩ := it1
      rw [e]; exact ⟨oJ, e1, fun z q => by rw [e3] at q; cases q⟩
    · rw [List.mem_singleton.mp hb]
      exact ⟨_, g1, fun z q => by cases (show (Data.seq _ _ : Data) = Data.cell z from q)⟩)
  show wpAny _ X.A.in1 (tryCatch (holding [v'] (call (.ref f) [v'])) _ >>= _) _ _ _
  refine wpAny_bind (wpAny_tryCatch (wpAny_holding (wpAny_mono (run_fn (X := X.inB) (ds := []) (dvs := []) (us := [v']) (vs := [y]) F hr hb .nil pass0 I2.inB (.cons rvy' .nil) (key 0 y H hy P)) (fun z s2 hz => ?_) fun _ _ z => z.elim)))
  obtain ⟨zv, H2, I3, rz, ez, P2⟩ := hz
  subst ez
  obtain ⟨t2, rfl⟩ := rz
  have I3 := I3.outB
  have pJ : ∀ o, h2.get? s.heap.objs.size = some o → s2.heap.get? s.heap.objs.size = some o ∧ H2 s.heap.objs.size = none := fun o e => by
    have q := I3.pin (s.heap.objs.size, o) (List.mem_append_right _ (List.mem_append_right _ (mem_pinsAt (by simp) e)))
    exact ⟨q.1, q.2.1⟩
  obtain ⟨oJ, e1, e2, e3⟩ := it1
  have gS2 := I3.pin (h0.objs.size, _) (List.mem_append_right _ (List.mem_append_right _ (mem_pinsAt (by simp) g1)))
  have g2 : s2.heap.get? h0.objs.size = some (seqObj "list" #[] 0) := gS2.1
  have I4 : Inv X pins σ H2 s2 := I3.unpinned
  have fJ2 : FpOk X pins H2 s.heap.objs.size := fJ.heap (pJ oJ e1).2
  have fS2 : FpOk X pins H2 h0.objs.size := fS.heap gS2.2.1
  have sb2 := Heap.SameBut.update s2.heap h0.objs.size (Obj.mapSeq fun _ => #[v', Value.int (kf 0) t2])
  obtain ⟨c2, g3⟩ : ∃ c2, (s2.heap.update h0.objs.size (Obj.mapSeq fun _ => #[v', Value.int (kf 0) t2])).get? h0.objs.size = some (seqObj "list" #[v', .int (kf 0) t2] c2) := ⟨_, get?_update_seq g2 _⟩
  show wpAny _ X.A.in1 (updateSeq h0.objs.size (fun _ => #[v', Value.int (kf 0) t2]) >>= _) _ _ _
  refine wpAny_bind (wpAny_updateSeq g2 rfl ?_)
  rw [nm]
  refine wpAny_pure ⟨plainId_quiet PySem.F.plain_max_loop _, ?_⟩
  refine max_go (kf := kf) (Pv := Pv) (xs := xs) hc F hr hb hl key dif (fun i x u H3 s3 a1 a2 a3 a4 a5 => hQ i x u H3 s3 a1 a2 a3 a4 a5) _ 1 0 H2 _ y v' t2 c2 rfl ne (I4.rcd fS2 fun b o hb e => (sb2.2 b hb).trans e) P2 fJ2 fS2 ⟨oJ, (sb2.2 _ (Ne.symm dif)).trans (pJ oJ e1).1, e2, e3⟩ g3 hy rvy' (by omega) fun j' hj' => ?_
  have e : j' = 0 := by omega
  subst e
  exact ⟨by omega, fun q => absurd q (Nat.lt_irrefl _)⟩
/-- max(e, key=x), x a def of the module -/
def tMaxK (K : PySem.W.Frag) (sp : Sp) (t : TA) : TE := fun σ H Q => t σ H fun vs H1 => ∃ (l : Addr) (xs : List V) (kf : Nat → Int) (Pv : Hp → Prop), vs = [.ref l] ∧ 0 < xs.length ∧ Pv H1 ∧ (∀ H, Pv H → SqL K H l xs) ∧
  (∀ (j : Nat) (x : V) (H : Hp), xs[j]? = some x → Pv H → sp [x] H (fun u H' => u = .int (kf j) ∧ Pv H') E0) ∧
  ∀ (i : Nat) (x : V) (H : Hp), xs[i]? = some x → (∀ j, j < xs.length → ¬ kf j > kf i ∧ (j < i → kf i > kf j)) → Pv H → Q x H
theorem pe_maxK {X : Cx} {k : Nat} {f : Addr} {fd : FuncData} {ps : List Str} {sp : Sp} {x : Str} {e : Expr} {t : TA} {p p2 kp pos : Pos} (hc : X.calm = true) (F : FnOk X.prog X.w X.K X.mg X.base CX0 k f fd ps sp) (hr : Room k X.A.in1) (hb : Binds X.K fd ps [])
    (hg : Gl X "max") (hm : X.mg "max" = none) (hgx : Gl X x) (hmx : X.mg x = some (.ref f)) (ha : PA X [e] t) (hdx : (x == ("__debug__" : Str)) = false := by decide) (hst : starEach [e] X.env = [(false, eval e X.env)] := by rfl)
    (hkw : keywordEach [⟨some (Str.ofString "key"), .Name x p2, kp⟩] X.env = [(some (Str.ofString "key"), eval (.Name x p2) X.env)] := by rfl) :
    PE X (.Call (.Name "max" p) [e] [⟨some (Str.ofString "key"), .Name x p2, kp⟩] pos) (tMaxK X.K sp t) := by
  intro pins s σ H Q I h
  refine wpAny_Call_Name_kw (ld_blt I hg hm boot_max ?_)
  refine callWith_kw (thn (ha pos pins s σ H _ I h) fun us s1 ⟨vs, H1, I1, r1, l, xs, kf, Pv, ev, ne, P1, hl, key, q⟩ => ?_) (by rw [hst]; rfl) (by rw [hst]; rfl) (by rw [hkw]; rfl) (by rw [hkw]; rfl)
  subst ev
  rw [Vals.ref1 r1]
  refine kws_cons (ld_glob I1 hgx hmx (kws_nil ?_) hdx)
  rw [hkw]
  exact max_key hc F hr hb hl key ne I1 P1 fun i y u H2 s2 a1 a2 a3 a4 a5 => ⟨y, H2, a4, a2, q i y H2 a1 a3 a5⟩
end L2

set_option linter.all false
namespace Gk

theorem good_pos {a : Nat} (h : goodAlign a = true) : 1 ≤ a ∧ a ≤ 256 := by
  unfold goodAlign at h
  simp at h
  omega
theorem up_ge {a p : Nat} (h : 1 ≤ a) : p ≤ up a p := by
  unfold up
  have e := Nat.div_add_mod (p + a - 1) a
  have m := Nat.mod_lt (p + a - 1) (show 0 < a by omega)
  rw [Nat.mul_comm] at e
  omega
theorem up_dvd (a p : Nat) : a ∣ up a p := ⟨(p + a - 1) / a, by unfold up; rw [Nat.mul_comm]⟩
/-- the least multiple at or behind a place -/
theorem up_le {a p q : Nat} (h : 1 ≤ a) (hd : a ∣ q) (hq : p ≤ q) : up a p ≤ q := by
  obtain ⟨k, rfl⟩ := hd
  unfold up
  have : (p + a - 1) / a ≤ k := by
    refine Nat.le_of_lt_succ ((Nat.div_lt_iff_lt_mul (by omega)).mpr ?_)
    rw [Nat.succ_mul, Nat.mul_comm k a]
    omega
  rw [Nat.mul_comm a k]
  exact Nat.mul_le_mul_right a this

/-- blocks from a place on up to an end, in groups up to a depth -/
def Fit (e d : Nat) : Nat → List Block → Prop
  | p, [] => p ≤ e
  | p, b :: r => p ≤ b.at_ ∧ b.align ∣ b.at_ ∧ goodAlign b.align = true ∧ b.group ≤ d ∧ Fit e d b.halt_ r
theorem halt_gt (b : Block) : b.at_ < b.halt_ := by unfold Block.halt_ Block.reach; omega
theorem Fit.mono {e d : Nat} : ∀ {l : List Block} {p q : Nat}, q ≤ p → Fit e d p l → Fit e d q l
  | [], p, q, h, f => Nat.le_trans h f
  | b :: r, p, q, h, f => ⟨Nat.le_trans h f.1, f.2⟩
theorem Fit.deep {e d d' : Nat} (h : d ≤ d') : ∀ {l : List Block} {p : Nat}, Fit e d p l → Fit e d' p l
  | [], p, f => f
  | b :: r, p, ⟨h1, h2, h3, h4, f⟩ => ⟨h1, h2, h3, Nat.le_trans h4 h, Fit.deep h f⟩
theorem Fit.le {e d : Nat} : ∀ {l : List Block} {p : Nat}, Fit e d p l → p ≤ e
  | [], _, f => f
  | b :: r, p, ⟨h1, h2, h3, h4, f⟩ => by
    have := Fit.le f
    have := halt_gt b
    omega
theorem Fit.mem {e d : Nat} : ∀ {l : List Block} {p : Nat} {b : Block}, Fit e d p l → b ∈ l → p ≤ b.at_ ∧ b.halt_ ≤ e ∧ b.align ∣ b.at_ ∧ goodAlign b.align = true ∧ b.group ≤ d
  | c :: r, p, b, ⟨h1, h2, h3, h4, f⟩, hb => by
    rcases List.mem_cons.mp hb with rfl | hb
    · exact ⟨h1, f.le, h2, h3, h4⟩
    · obtain ⟨k1, k2, k3, k4, k5⟩ := Fit.mem f hb
      have := halt_gt c
      exact ⟨by omega, k2, k3, k4, k5⟩
theorem Fit.filter {e d : Nat} (f : Block → Bool) : ∀ {l : List Block} {p : Nat}, Fit e d p l → Fit e d p (l.filter f)
  | [], _, h => h
  | b :: r, p, ⟨h1, h2, h3, h4, h5⟩ => by
    have ih := Fit.filter f h5
    rw [List.filter_cons]
    split
    · exact ⟨h1, h2, h3, h4, ih⟩
    · exact ih.mono (by have := halt_gt b; omega)
/-- sorted: an address stands once -/
theorem Fit.lt {e d : Nat} {b : Block} {r : List Block} {p : Nat} (h : Fit e d p (b :: r)) : ∀ c ∈ r, b.at_ < c.at_ := fun c hc => by
  obtain ⟨k1, _⟩ := Fit.mem h.2.2.2.2 hc
  have := halt_gt b
  omega
theorem Fit.sorted {e d : Nat} : ∀ {l : List Block} {p : Nat}, Fit e d p l → l.Pairwise fun b c => b.at_ < c.at_
  | [], _, _ => .nil
  | b :: r, p, h => .cons h.lt (Fit.sorted h.2.2.2.2)
theorem rowsFrom_mem {e d : Nat} : ∀ {l : List Block} {p : Nat} {r : Row}, Fit e d p l → r ∈ rowsFrom e p l → p ≤ r.1 ∧ r.1 < r.2 ∧ r.2 ≤ e
  | [], p, r, h, hr => by
    unfold rowsFrom at hr
    split at hr
    · rename_i hp
      have := List.mem_singleton.mp hr
      subst this
      exact ⟨Nat.le_refl _, hp, Nat.le_refl _⟩
    · cases hr
  | b :: l, p, r, ⟨h1, h2, h3, h4, h5⟩, hr => by
    unfold rowsFrom at hr
    have hl := h5.le
    have hb := halt_gt b
    rcases List.mem_append.mp hr with hr | hr
    · split at hr
      · rename_i hp
        have := List.mem_singleton.mp hr
        subst this
        exact ⟨Nat.le_refl _, hp, by show b.at_ ≤ e; omega⟩
      · cases hr
    · obtain ⟨k1, k2, k3⟩ := rowsFrom_mem h5 hr
      exact ⟨by omega, k2, k3⟩
/-- a block put into a row -/
theorem Fit.placed {e d : Nat} {b : Block} (ha : b.align ∣ b.at_) (hg : goodAlign b.align = true) (hd : b.group ≤ d) : ∀ {l : List Block} {p : Nat} {r : Row}, Fit e d p l → r ∈ rowsFrom e p l → r.1 ≤ b.at_ → b.halt_ ≤ r.2 → Fit e d p (Gk.placed b l)
  | [], p, r, h, hr, h1, h2 => by
    have k := rowsFrom_mem h hr
    exact ⟨by omega, ha, hg, hd, Nat.le_trans h2 k.2.2⟩
  | c :: l, p, r, ⟨f1, f2, f3, f4, f5⟩, hr, h1, h2 => by
    unfold rowsFrom at hr
    unfold Gk.placed
    rcases List.mem_append.mp hr with hr | hr
    · split at hr
      · rename_i hp
        have := List.mem_singleton.mp hr
        subst this
        have hb := halt_gt b
        rw [if_pos (by show b.at_ < c.at_; simp at h2; omega)]
        exact ⟨h1, ha, hg, hd, h2, f2, f3, f4, f5⟩
      · cases hr
    · obtain ⟨k1, k2, k3⟩ := rowsFrom_mem f5 hr
      have hc := halt_gt c
      rw [if_neg (by omega)]
      exact ⟨f1, f2, f3, f4, Fit.placed ha hg hd f5 hr h1 h2⟩
theorem lowIn_some {k a : Nat} {r : Row} {p : Nat} (ha : 1 ≤ a) (h : lowIn k a r = some p) : r.1 ≤ p ∧ p + k ≤ r.2 ∧ a ∣ p := by
  unfold lowIn at h
  split at h
  · rename_i hk
    have := Option.some.inj h
    subst this
    exact ⟨up_ge ha, hk, up_dvd a _⟩
  · cases h
theorem highIn_some {k a : Nat} {r : Row} {p : Nat} (h : highIn k a r = some p) : r.1 ≤ p ∧ p + k ≤ r.2 ∧ a ∣ p := by
  unfold highIn at h
  split at h
  · rename_i hk
    have := Option.some.inj h
    subst this
    refine ⟨hk.2, ?_, ⟨(r.2 - k) / a, Nat.mul_comm _ _⟩⟩
    have := Nat.div_mul_le_self (r.2 - k) a
    omega
  · cases h
theorem shortest_mem : ∀ {l : List Row} {r : Row}, shortest l = some r → r ∈ l
  | [], r, h => by cases h
  | x :: l, r, h => by
    unfold shortest at h
    split at h
    · cases h; exact List.mem_cons_self
    · rename_i s hs
      split at h
      · cases h; exact List.mem_cons_of_mem _ (shortest_mem hs)
      · cases h; exact List.mem_cons_self
theorem longest_mem : ∀ {l : List Row} {r : Row}, longest l = some r → r ∈ l
  | [], r, h => by cases h
  | x :: l, r, h => by
    unfold longest at h
    split at h
    · cases h; exact List.mem_cons_self
    · rename_i s hs
      split at h
      · cases h; exact List.mem_cons_of_mem _ (longest_mem hs)
      · cases h; exact List.mem_cons_self
theorem low_mem {k a : Nat} {l : List Row} {p : Nat} (ha : 1 ≤ a) (h : l.findSome? (lowIn k a) = some p) : ∃ r ∈ l, r.1 ≤ p ∧ p + k ≤ r.2 ∧ a ∣ p := by
  obtain ⟨r, hr, e⟩ := List.exists_of_findSome?_eq_some h
  exact ⟨r, hr, lowIn_some ha e⟩
/-- where a block comes to lie it fits -/
theorem place_fits {rule mark : Nat} {l : List Row} {n a p : Nat} (ha : 1 ≤ a) (h : place rule mark l n a = some p) : ∃ r ∈ l, r.1 ≤ p ∧ p + max n 1 ≤ r.2 ∧ a ∣ p := by
  unfold place at h
  dsimp only at h
  split at h
  · exact low_mem ha h
  split at h
  · obtain ⟨r, hr, e⟩ := List.exists_of_findSome?_eq_some h
    exact ⟨r, List.mem_reverse.mp hr, highIn_some e⟩
  split at h
  · obtain ⟨r, hr, e⟩ := Option.bind_eq_some_iff.mp h
    exact ⟨r, (List.mem_filter.mp (shortest_mem hr)).1, lowIn_some ha e⟩
  split at h
  · obtain ⟨r, hr, e⟩ := Option.bind_eq_some_iff.mp h
    exact ⟨r, (List.mem_filter.mp (longest_mem hr)).1, lowIn_some ha e⟩
  split at h
  · rename_i q hq
    cases h
    obtain ⟨r, hr, h1, h2, h3⟩ := low_mem ha hq
    obtain ⟨r', hr', e⟩ := List.mem_map.mp (List.mem_filter.mp hr).1
    subst e
    exact ⟨r', hr', by simp at h1; omega, h2, h3⟩
  · exact low_mem ha h

theorem writeAt_len {b : Bytes} {p : Nat} {l : Bytes} (h : p + l.length ≤ b.length) : (writeAt b p l).length = b.length := by
  unfold writeAt
  simp
  omega
theorem readAt_len {b : Bytes} {p k : Nat} (h : p + k ≤ b.length) : (readAt b p k).length = k := by
  unfold readAt
  simp
  omega
theorem packs_ok {e d : Nat} : ∀ {l : List Block} {p q : Nat} {s : Bytes}, s.length = e → Fit e d p l → q ≤ p → Fit e d q (packs q s l).1 ∧ (packs q s l).2.length = e ∧ (packs q s l).1.length = l.length
  | [], p, q, s, hs, h, hq => ⟨Nat.le_trans hq h, hs, rfl⟩
  | b :: r, p, q, s, hs, ⟨h1, h2, h3, h4, h5⟩, hq => by
    unfold packs
    dsimp only
    have ha := good_pos h3
    have hu : up b.align q ≤ b.at_ := up_le ha.1 h2 (by omega)
    have hl := h5.le
    have hb : b.at_ + b.n ≤ e := by unfold Block.halt_ Block.reach at hl; omega
    have hc : (({ b with at_ := up b.align q } : Block)).halt_ ≤ b.halt_ := by
      unfold Block.halt_ Block.reach
      dsimp only
      omega
    have hw : (writeAt s (up b.align q) (readAt s b.at_ b.n)).length = e := by
      rw [writeAt_len, hs]
      rw [readAt_len (by omega)]
      omega
    obtain ⟨k1, k2, k3⟩ := packs_ok hw h5 hc
    exact ⟨⟨up_ge ha.1, up_dvd _ _, h3, h4, k1⟩, k2, congrArg (· + 1) k3⟩

/-- **The ground is as it should be.** -/
structure Wf (g : Ground) : Prop where
  pos : 1 ≤ g.size
  size : g.size ≤ 2048
  rule : g.rule ≤ 4
  mark : g.mark ≤ g.size
  depth : g.depth ≤ 8
  fit : Fit g.size g.depth 0 g.blocks
  walks : g.walks.length = 4
theorem wf_opened {s r : Nat} (h1 : 1 ≤ s) (h2 : s ≤ 2048) (h3 : r ≤ 4) : Wf (opened s r) := by
  have e : (opened s r).size = s := List.length_replicate
  refine ⟨by rw [e]; exact h1, by rw [e]; exact h2, h3, Nat.zero_le _, Nat.zero_le _, Nat.zero_le _, rfl⟩
theorem wf_start : Wf start := wf_opened (by decide) (by decide) (by decide)
theorem find_mem {g : Ground} {a : Nat} {b : Block} (h : g.find a = some b) : b ∈ g.blocks ∧ b.at_ = a := by
  unfold Ground.find at h
  exact ⟨List.mem_of_find?_eq_some h, by have := List.find?_some h; simpa using this⟩
theorem wf_put {g : Ground} (w : Wf g) {n a p : Nat} (ha : goodAlign a = true) (h : place g.rule g.mark g.rows n a = some p) : Wf (g.put ⟨p, n, a, g.depth⟩) := by
  obtain ⟨r, hr, h1, h2, h3⟩ := place_fits (good_pos ha).1 h
  have k := rowsFrom_mem w.fit hr
  refine ⟨w.pos, w.size, w.rule, ?_, w.depth, ?_, w.walks⟩
  · show p + max n 1 ≤ g.size
    omega
  · exact w.fit.placed (b := ⟨p, n, a, g.depth⟩) h3 ha (Nat.le_refl _) hr h1 h2
/-- blocks left when one is taken away, and where it lay -/
theorem without_fit {e d p a : Nat} {l : List Block} (h : Fit e d p l) : Fit e d p (without a l) := h.filter _
theorem without_none {a : Nat} : ∀ {l : List Block}, (∀ c ∈ l, c.at_ ≠ a) → without a l = l
  | [], _ => rfl
  | c :: r, h => by
    unfold without
    rw [List.filter_cons, if_pos (by simp; exact h c List.mem_cons_self)]
    exact congrArg (c :: ·) (without_none fun x hx => h x (List.mem_cons_of_mem _ hx))
/-- the first place behind b that isn't free -/
def boundL (e : Nat) (b : Block) (l : List Block) : Nat := ((l.find? fun (c : Block) => decide (b.at_ < c.at_)).map Block.at_).getD e
theorem bound_fits {e d : Nat} {b : Block} : ∀ {l : List Block} {p : Nat}, Fit e d p l → b ∈ l → ∃ r ∈ rowsFrom e p (without b.at_ l), r.1 ≤ b.at_ ∧ r.2 = boundL e b l ∧ b.halt_ ≤ r.2
  | c :: l, p, h, hb => by
    obtain ⟨h1, h2, h3, h4, h5⟩ := id h
    by_cases hcb : c.at_ = b.at_
    · have e1 : b = c := by
        rcases List.mem_cons.mp hb with e1 | hb
        · exact e1
        · exact absurd hcb (Nat.ne_of_lt (h.lt b hb))
      subst e1
      have e2 : without b.at_ (b :: l) = l := by
        unfold without
        rw [List.filter_cons, if_neg (by simp)]
        exact without_none fun x hx => (Nat.ne_of_gt (h.lt x hx))
      have e3 : boundL e b (b :: l) = boundL e b l := by
        unfold boundL
        rw [List.find?_cons_of_neg (by simp)]
      rw [e2, e3]
      cases l with
      | nil =>
        have hl : b.halt_ ≤ e := h5
        have := halt_gt b
        refine ⟨(p, e), ?_, h1, rfl, hl⟩
        unfold rowsFrom
        rw [if_pos (by omega)]
        exact List.mem_singleton.mpr rfl
      | cons x l =>
        have hx : b.halt_ ≤ x.at_ := h5.1
        have := halt_gt b
        refine ⟨(p, x.at_), ?_, h1, ?_, hx⟩
        · unfold rowsFrom
          rw [if_pos (by omega)]
          exact List.mem_append_left _ (List.mem_singleton.mpr rfl)
        · unfold boundL
          rw [List.find?_cons_of_pos (by simp; omega)]
          rfl
    · have hb' : b ∈ l := by
        rcases List.mem_cons.mp hb with e1 | hb
        · exact absurd (congrArg Block.at_ e1).symm hcb
        · exact hb
      obtain ⟨r, hr, k1, k2, k3⟩ := bound_fits h5 hb'
      have e2 : without b.at_ (c :: l) = c :: without b.at_ l := by
        unfold without
        rw [List.filter_cons, if_pos (by simp; exact hcb)]
      have e3 : boundL e b (c :: l) = boundL e b l := by
        unfold boundL
        rw [List.find?_cons_of_neg (by have := h.lt b hb'; simp; omega)]
      rw [e2, e3]
      refine ⟨r, ?_, k1, k2, k3⟩
      unfold rowsFrom
      exact List.mem_append_right _ hr
theorem wf_resized {g : Ground} (w : Wf g) {b : Block} (hb : b ∈ g.blocks) {n : Nat} {x : Ground × Nat} (h : g.resized b n = some x) : Wf x.1 := by
  obtain ⟨m1, m2, m3, m4, m5⟩ := w.fit.mem hb
  obtain ⟨r, hr, k1, k2, k3⟩ := bound_fits w.fit hb
  have fr := without_fit (a := b.at_) w.fit
  have k := rowsFrom_mem fr hr
  unfold Ground.resized at h
  dsimp only at h
  split at h
  · rename_i hc
    cases h
    have hh : b.at_ + max n 1 ≤ r.2 := by
      rcases hc with hc | hc
      · unfold Block.halt_ Block.reach at k3
        omega
      · rw [k2]; exact hc
    refine ⟨w.pos, w.size, w.rule, ?_, w.depth, ?_, w.walks⟩
    · show b.at_ + max n 1 ≤ g.size
      omega
    · exact fr.placed (b := { b with n := n }) m3 m4 m5 hr k1 hh
  · obtain ⟨p, hp, e⟩ := Option.map_eq_some_iff.mp h
    subst e
    obtain ⟨r', hr', q1, q2, q3⟩ := place_fits (good_pos m4).1 hp
    have k' := rowsFrom_mem fr hr'
    rename_i hc
    have hl : (writeAt g.bytes p (readAt g.bytes b.at_ b.n)).length = g.bytes.length := by
      have e1 : b.at_ + b.n ≤ g.bytes.length := by
        unfold Block.halt_ Block.reach at m2
        have : g.size = g.bytes.length := rfl
        omega
      rw [writeAt_len]
      rw [readAt_len e1]
      have : g.size = g.bytes.length := rfl
      omega
    have es : ({ g with bytes := writeAt g.bytes p (readAt g.bytes b.at_ b.n), blocks := placed { b with at_ := p, n := n } (without b.at_ g.blocks), mark := p + max n 1 } : Ground).size = g.size := hl
    refine ⟨by rw [es]; exact w.pos, by rw [es]; exact w.size, w.rule, ?_, w.depth, ?_, w.walks⟩
    · rw [es]
      show p + max n 1 ≤ g.size
      omega
    · rw [es]
      exact fr.placed (b := { b with at_ := p, n := n }) q3 m4 m5 hr' q1 q2
theorem Fit.lower {e d : Nat} (hd : 1 ≤ d) : ∀ {l : List Block} {p : Nat}, Fit e d p l → Fit e (d - 1) p (l.filter fun b => b.group != d)
  | [], _, h => h
  | b :: r, p, ⟨h1, h2, h3, h4, h5⟩ => by
    have ih := Fit.lower hd h5
    rw [List.filter_cons]
    split
    · rename_i hc
      have : b.group ≠ d := by simpa using hc
      exact ⟨h1, h2, h3, by omega, ih⟩
    · exact ih.mono (by have := halt_gt b; omega)
theorem Fit.kept {e d a : Nat} : ∀ {l : List Block} {p : Nat}, Fit e d p l → Fit e d p (l.map fun (y : Block) => if y.at_ = a then { y with group := y.group - 1 } else y)
  | [], _, h => h
  | b :: r, p, ⟨h1, h2, h3, h4, h5⟩ => by
    rw [List.map_cons]
    have ih := Fit.kept (a := a) h5
    split
    · exact ⟨h1, h2, h3, Nat.le_trans (Nat.sub_le _ _) h4, ih⟩
    · exact ⟨h1, h2, h3, h4, ih⟩
theorem wf_bytes {g : Ground} (w : Wf g) {s : Bytes} (h : s.length = g.bytes.length) : Wf { g with bytes := s } := by
  have e : ({ g with bytes := s } : Ground).size = g.size := h
  exact ⟨by rw [e]; exact w.pos, by rw [e]; exact w.size, w.rule, by rw [e]; exact w.mark, w.depth, by rw [e]; exact w.fit, w.walks⟩
theorem step_wf {g : Ground} (w : Wf g) (c : Call) : Wf (step g c).1 := by
  unfold step
  split
  · split
    · exact w
    · rename_i h
      exact wf_opened (by omega) (by have : SIZE = 2048 := rfl; omega) (by omega)
  · split
    · rename_i n a ha
      unfold Ground.taken putAnswer
      cases hp : place g.rule g.mark g.rows n a with
      | none => exact w
      | some p => exact wf_put w ha hp
    · exact w
  · split
    · rename_i n a ha
      unfold Ground.taken putAnswer
      cases hp : place g.rule g.mark g.rows n a with
      | none => exact w
      | some p =>
        refine wf_bytes (wf_put w ha hp) ?_
        show (writeAt g.bytes p (List.replicate n 0)).length = g.bytes.length
        obtain ⟨r, hr, h1, h2, h3⟩ := place_fits (good_pos ha).1 hp
        have k := rowsFrom_mem w.fit hr
        rw [writeAt_len]
        rw [List.length_replicate]
        have : g.size = g.bytes.length := rfl
        omega
    · exact w
  · unfold onBlock
    split
    · exact w
    · rename_i b hb
      unfold putAnswer
      dsimp only
      split
      · exact w
      · rename_i x hx
        exact wf_resized w (find_mem hb).1 hx
  · unfold onBlock
    split
    · exact w
    · exact ⟨w.pos, w.size, w.rule, w.mark, w.depth, without_fit w.fit, w.walks⟩
  · split
    · exact w
    · rename_i h
      have : DEPTH = 8 := rfl
      exact ⟨w.pos, w.size, w.rule, w.mark, by show g.depth + 1 ≤ 8; omega, w.fit.deep (Nat.le_succ _), w.walks⟩
  · split
    · exact w
    · rename_i h
      have := w.depth
      exact ⟨w.pos, w.size, w.rule, w.mark, by show g.depth - 1 ≤ 8; omega, w.fit.lower (by omega), w.walks⟩
  · unfold onBlock
    split
    · exact w
    · dsimp only
      split
      · exact w
      · exact ⟨w.pos, w.size, w.rule, w.mark, w.depth, w.fit.kept, w.walks⟩
  · unfold onBlock
    split
    · exact w
    · rename_i b hb
      dsimp only
      split
      · rename_i h
        obtain ⟨m1, m2, _⟩ := w.fit.mem (find_mem hb).1
        refine wf_bytes w (writeAt_len ?_)
        unfold Block.halt_ Block.reach at m2
        have : g.size = g.bytes.length := rfl
        omega
      · exact w
  · dsimp only
    obtain ⟨k1, k2, k3⟩ := packs_ok (s := g.bytes) (q := 0) rfl w.fit (Nat.le_refl _)
    have e : ({ g with blocks := (packs 0 g.bytes g.blocks).1, bytes := (packs 0 g.bytes g.blocks).2 } : Ground).size = g.size := k2
    exact ⟨by rw [e]; exact w.pos, by rw [e]; exact w.size, w.rule, by rw [e]; exact w.mark, w.depth, by rw [e]; exact k1, w.walks⟩
  · split
    · exact w
    · exact ⟨w.pos, w.size, w.rule, w.mark, w.depth, w.fit, by show (g.walks.set _ _).length = 4; rw [List.length_set]; exact w.walks⟩
  · split
    · exact w
    · split
      · exact ⟨w.pos, w.size, w.rule, w.mark, w.depth, w.fit, by show (g.walks.set _ _).length = 4; rw [List.length_set]; exact w.walks⟩
      · exact ⟨w.pos, w.size, w.rule, w.mark, w.depth, w.fit, by show (g.walks.set _ _).length = 4; rw [List.length_set]; exact w.walks⟩
  · exact w
end Gk

set_option linter.all false
namespace Gk

/-! ### a program's reckoning with whole numbers -/
theorem up_int {a p : Nat} (ha : 1 ≤ a) : ((p : Int) + (a : Int) - 1) / (a : Int) * (a : Int) = ((up a p : Nat) : Int) := by
  unfold up
  have e : (p : Int) + (a : Int) - 1 = ((p + a - 1 : Nat) : Int) := by omega
  rw [e, Int.natCast_mul, Int.natCast_ediv]
theorem max_int (i j : Nat) : (if (j : Int) > (i : Int) then (j : Int) else (i : Int)) = ((max i j : Nat) : Int) := by
  split <;> omega
theorem min_int (i j : Nat) : (if (j : Int) < (i : Int) then (j : Int) else (i : Int)) = ((min i j : Nat) : Int) := by
  split <;> omega
/-- the greatest address in a row, reckoned with whole numbers -/
theorem high_none {k a : Nat} {r : Row} (ha : 1 ≤ a) (h : ((r.2 : Int) - (k : Int)) / (a : Int) * (a : Int) < (r.1 : Int)) : highIn k a r = none := by
  unfold highIn
  split
  · rename_i c
    have e : (r.2 : Int) - (k : Int) = ((r.2 - k : Nat) : Int) := by omega
    rw [e, ← Int.natCast_ediv, ← Int.natCast_mul] at h
    omega
  · rfl
theorem high_some {k a : Nat} {r : Row} (ha : 1 ≤ a) (hk : 1 ≤ k) (h : ¬ ((r.2 : Int) - (k : Int)) / (a : Int) * (a : Int) < (r.1 : Int)) :
    ∃ p : Nat, highIn k a r = some p ∧ ((r.2 : Int) - (k : Int)) / (a : Int) * (a : Int) = (p : Int) := by
  have h1 : ((r.2 : Int) - (k : Int)) / (a : Int) * (a : Int) ≤ (r.2 : Int) - (k : Int) := Int.ediv_mul_le _ (by omega)
  have h2 : k ≤ r.2 := by omega
  have e : (r.2 : Int) - (k : Int) = ((r.2 - k : Nat) : Int) := by omega
  rw [e, ← Int.natCast_ediv, ← Int.natCast_mul] at h h1
  refine ⟨(r.2 - k) / a * a, ?_, by rw [e, ← Int.natCast_ediv, ← Int.natCast_mul]⟩
  unfold highIn
  rw [if_pos ⟨by omega, by omega⟩]
/-- rows at or behind a mark need not be cut -/
theorem behind_low {k a m : Nat} (ha : 1 ≤ a) (hk : 1 ≤ k) : ∀ l : List Row, (behind m l).findSome? (lowIn k a) = l.findSome? fun r => lowIn k a (max r.1 m, r.2)
  | [] => rfl
  | r :: l => by
    have ih := behind_low (m := m) ha hk l
    unfold behind at ih ⊢
    rw [List.map_cons, List.filter_cons, List.findSome?_cons]
    by_cases h : max r.1 m < r.2
    · rw [if_pos (by simpa using h), List.findSome?_cons, ih]
    · rw [if_neg (by simpa using h), ih]
      have e : lowIn k a (max r.1 m, r.2) = none := by
        unfold lowIn
        rw [if_neg]
        have := up_ge (p := max r.1 m) ha
        show ¬ up a (max r.1 m) + k ≤ r.2
        omega
      rw [e]
theorem max_zero (r : Row) : ((max r.1 0, r.2) : Row) = r := by
  show (max r.1 0, r.2) = (r.1, r.2)
  rw [Nat.max_zero]
/-- two rows that hold one place are one -/
theorem row_one {e d : Nat} : ∀ {l : List Block} {p : Nat} {r t : Row} {x : Nat}, Fit e d p l → r ∈ rowsFrom e p l → t ∈ rowsFrom e p l → r.1 ≤ x → x < r.2 → t.1 ≤ x → x < t.2 → r = t
  | [], p, r, t, x, h, hr, ht, _, _, _, _ => by
    unfold rowsFrom at hr ht
    split at hr
    · rename_i c
      rw [if_pos c] at ht
      rw [List.mem_singleton.mp hr, List.mem_singleton.mp ht]
    · cases hr
  | b :: l, p, r, t, x, ⟨h1, h2, h3, h4, h5⟩, hr, ht, a1, a2, a3, a4 => by
    unfold rowsFrom at hr ht
    have hb := halt_gt b
    rcases List.mem_append.mp hr with hr | hr
    · rcases List.mem_append.mp ht with ht | ht
      · split at hr
        · rename_i c
          rw [if_pos c] at ht
          rw [List.mem_singleton.mp hr, List.mem_singleton.mp ht]
        · cases hr
      · split at hr
        · have e1 := List.mem_singleton.mp hr
          subst e1
          have := rowsFrom_mem h5 ht
          simp at a2
          omega
        · cases hr
    · rcases List.mem_append.mp ht with ht | ht
      · split at ht
        · have e1 := List.mem_singleton.mp ht
          subst e1
          have := rowsFrom_mem h5 hr
          simp at a4
          omega
        · cases ht
      · exact row_one h5 hr ht a1 a2 a3 a4
/-- where a block stays when it is to have another size -/
theorem stays_iff {e d p : Nat} {b : Block} {l : List Block} (h : Fit e d p l) (hb : b ∈ l) (n : Nat) :
    (∃ r ∈ rowsFrom e p (without b.at_ l), r.1 ≤ b.at_ ∧ b.at_ + max n 1 ≤ r.2) ↔ (n ≤ b.n ∨ b.at_ + max n 1 ≤ boundL e b l) := by
  obtain ⟨r0, hr0, k1, k2, k3⟩ := bound_fits h hb
  have hf := without_fit (a := b.at_) h
  have k4 := halt_gt b
  constructor
  · rintro ⟨r, hr, c1, c2⟩
    have : r = r0 := row_one hf hr hr0 c1 (by omega) k1 (by omega)
    subst this
    exact .inr (by omega)
  · intro c
    refine ⟨r0, hr0, k1, ?_⟩
    rcases c with c | c
    · unfold Block.halt_ Block.reach at k3
      omega
    · omega
/-- the greatest n, row by row -/
def mostOf (a : Nat) (m : Nat) (r : Row) : Nat := max m (r.2 - up a r.1)
theorem greatest_go {a : Nat} : ∀ (l : List Row) (m : Option Nat), (∀ x, m = some x → 1 ≤ x) →
    (l.filterMap fun (r : Row) => if up a r.1 < r.2 then some (r.2 - up a r.1) else none).foldl (fun (m : Option Nat) (k : Nat) => match m with
      | none => some k
      | some x => some (max x k)) m = (if l.foldl (mostOf a) (m.getD 0) = 0 then none else some (l.foldl (mostOf a) (m.getD 0)))
  | [], m, h => by
    cases m with
    | none => rfl
    | some x =>
      have := h x rfl
      show some x = if x = 0 then none else some x
      rw [if_neg (by omega)]
  | r :: l, m, h => by
    rw [List.filterMap_cons, List.foldl_cons]
    by_cases c : up a r.1 < r.2
    · rw [if_pos c]
      show List.foldl _ (match m with | none => some (r.2 - up a r.1) | some x => some (max x (r.2 - up a r.1))) _ = _
      cases m with
      | none =>
        rw [greatest_go l (some (r.2 - up a r.1)) (fun x e => by cases e; omega)]
        have e : mostOf a ((none : Option Nat).getD 0) r = (some (r.2 - up a r.1)).getD 0 := by
          unfold mostOf
          show max 0 _ = _
          simp
        rw [e]
      | some x =>
        rw [greatest_go l (some (max x (r.2 - up a r.1))) (fun y e => by cases e; omega)]
        rfl
    · rw [if_neg c]
      show List.foldl _ m _ = _
      rw [greatest_go l m h]
      have e : mostOf a (m.getD 0) r = m.getD 0 := by
        unfold mostOf
        omega
      rw [e]
theorem greatest_eq (g : Ground) (a : Nat) : g.greatest a = if g.rows.foldl (mostOf a) 0 = 0 then none else some (g.rows.foldl (mostOf a) 0) := greatest_go g.rows none (fun _ h => by cases h)
/-- the shortest, the longest: the first of the best -/
theorem shortest_first : ∀ {l : List Row} {i : Nat} {r : Row}, l[i]? = some r → (∀ (j : Nat) (t : Row), l[j]? = some t → ¬ long t < long r ∧ (j < i → long r < long t)) → shortest l = some r
  | [], i, r, h, _ => by simp at h
  | x :: l, 0, r, h, b => by
    have e : x = r := Option.some.inj h
    subst e
    unfold shortest
    split
    · rfl
    · rename_i s hs
      obtain ⟨j, hj⟩ := List.getElem?_of_mem (shortest_mem hs)
      rw [if_neg (b (j + 1) s hj).1]
  | x :: l, i + 1, r, h, b => by
    unfold shortest
    rw [shortest_first (l := l) (i := i) h fun j t ht => ⟨(b (j + 1) t ht).1, fun q => (b (j + 1) t ht).2 (by omega)⟩]
    show (if long r < long x then some r else some x) = some r
    rw [if_pos ((b 0 x rfl).2 (by omega))]
theorem longest_first : ∀ {l : List Row} {i : Nat} {r : Row}, l[i]? = some r → (∀ (j : Nat) (t : Row), l[j]? = some t → ¬ long t > long r ∧ (j < i → long r > long t)) → longest l = some r
  | [], i, r, h, _ => by simp at h
  | x :: l, 0, r, h, b => by
    have e : x = r := Option.some.inj h
    subst e
    unfold longest
    split
    · rfl
    · rename_i s hs
      obtain ⟨j, hj⟩ := List.getElem?_of_mem (longest_mem hs)
      rw [if_neg (b (j + 1) s hj).1]
  | x :: l, i + 1, r, h, b => by
    unfold longest
    rw [longest_first (l := l) (i := i) h fun j t ht => ⟨(b (j + 1) t ht).1, fun q => (b (j + 1) t ht).2 (by omega)⟩]
    show (if long x < long r then some r else some x) = some r
    rw [if_pos ((b 0 x rfl).2 (by omega))]
/-- sorted numbers are the sorted blocks' addresses -/
theorem sorted_one : ∀ {l m : List Int}, l.Pairwise (· ≤ ·) → m.Pairwise (· ≤ ·) → l.Perm m → l = m
  | [], m, _, _, p => (List.nil_perm.mp p).symm
  | a :: l, [], _, _, p => by simp at p
  | a :: l, b :: m, h1, h2, p => by
    obtain ⟨q1, q2⟩ := List.pairwise_cons.mp h1
    obtain ⟨q3, q4⟩ := List.pairwise_cons.mp h2
    have e : a = b := by
      have m1 : a ∈ b :: m := p.subset List.mem_cons_self
      have m2 : b ∈ a :: l := p.symm.subset List.mem_cons_self
      have u1 : b ≤ a := by
        rcases List.mem_cons.mp m1 with e | m1
        · omega
        · exact q3 a m1
      have u2 : a ≤ b := by
        rcases List.mem_cons.mp m2 with e | m2
        · omega
        · exact q1 b m2
      omega
    subst e
    rw [sorted_one q2 q4 (List.perm_cons a |>.mp p)]
end Gk

set_option linter.all false
/-! A list of calls, one call at a time. -/
namespace Gk
open PyFlat
def bytesI (ws : Bytes) : List Int := ws.map fun w => (w.toNat : Int)
inductive CallIs : Int → List Int → Call → Prop
  | open_ (s r : Nat) : CallIs 1 [(s : Int), (r : Int)] (.open_ s r)
  | take (n a : Nat) : CallIs 2 [(n : Int), (a : Int)] (.take n a)
  | zero (n a : Nat) : CallIs 3 [(n : Int), (a : Int)] (.zero n a)
  | resize (b n : Nat) : CallIs 4 [(b : Int), (n : Int)] (.resize b n)
  | give (b : Nat) : CallIs 5 [(b : Int)] (.give b)
  | size (b : Nat) : CallIs 6 [(b : Int)] (.size b)
  | of (p : Nat) : CallIs 7 [(p : Int)] (.of p)
  | next (p : Nat) : CallIs 8 [(p : Int)] (.next p)
  | most (a : Nat) : CallIs 9 [(a : Int)] (.most a)
  | rows : CallIs 10 [] .rows
  | enter : CallIs 11 [] .enter
  | leave : CallIs 12 [] .leave
  | keep (b : Nat) : CallIs 13 [(b : Int)] (.keep b)
  | counts : CallIs 14 [] .counts
  | write (b i : Nat) (ws : Bytes) : CallIs 15 ((b : Int) :: (i : Int) :: (ws.length : Int) :: bytesI ws) (.write b i ws)
  | read (b i k : Nat) : CallIs 16 [(b : Int), (i : Int), (k : Int)] (.read b i k)
  | pack : CallIs 17 [] .pack
  | walk (p : Nat) : CallIs 18 [(p : Int)] (.walk p)
  | step (w : Nat) : CallIs 19 [(w : Int)] (.step w)
  | blocks : CallIs 20 [] .blocks
/-- how many numbers stand behind a call's own -/
def howMany : Int → Nat
  | 1 => 2 | 2 => 2 | 3 => 2 | 4 => 2 | 5 => 1 | 6 => 1 | 7 => 1 | 8 => 1 | 9 => 1 | 10 => 0
  | 11 => 0 | 12 => 0 | 13 => 1 | 14 => 0 | 15 => 3 | 16 => 3 | 17 => 0 | 18 => 1 | 19 => 1 | _ => 0
theorem nat_of {z : Int} (h : GkNeutral.natural z 1024 = true) : ((z.toNat : Nat) : Int) = z := by
  unfold GkNeutral.natural at h
  rw [Bool.and_eq_true] at h
  have := of_decide_eq_true h.1
  omega
/-- one call of a list -/
structure Dec (p : Int) (r : List Int) (c : List (List Int)) (t : List Int) : Prop where
  ex : ∃ (k : Nat) (gc : Call), k ≤ r.length ∧ CallIs p (r.take k) gc ∧ (∀ g, GkNeutral.step g (PyWqagay.whole c) = Gk.step g gc) ∧ t = r.drop k ∧ (p ≠ 15 → k = howMany p) ∧ (p = 15 → ∃ z : Nat, r[2]? = some (z : Int) ∧ k = 3 + z)
  rng : 1 ≤ p ∧ p ≤ 20
theorem text_bytes : ∀ {l : List Int}, (∀ z ∈ l, 0 ≤ z ∧ z ≤ 255) → bytesI (GkNeutral.text l) = l
  | [], _ => rfl
  | z :: l, h => by
    have ih := text_bytes (l := l) fun y hy => h y (List.mem_cons_of_mem _ hy)
    obtain ⟨h1, h2⟩ := h z (List.mem_cons_self ..)
    show ((UInt8.ofNat z.toNat).toNat : Int) :: bytesI (GkNeutral.text l) = z :: l
    rw [ih, UInt8.toNat_ofNat']
    congr 1
    omega
theorem text_len (l : List Int) : (GkNeutral.text l).length = l.length := by
  unfold GkNeutral.text GkNeutral.nats
  rw [List.length_map, List.length_map]
theorem call0 {p : Int} {n : Nat} {r : List Int} {c : List (List Int)} {t : List Int} (hs : PyWqagay.shape p = some (n, 0)) (h : PyFlat.call PyWqagay.shape (p :: r) = some (c, t)) : n ≤ r.length ∧ c = [p :: r.take n] ∧ t = r.drop n := by
  have h : (match PyWqagay.shape p with
    | none => none
    | some (n, k) => if r.length < n then none else match PyFlat.rows k (r.drop n) with
      | none => none
      | some (xs, t) => some ((p :: r.take n) :: xs, t)) = some (c, t) := h
  rw [hs] at h
  have h : (if r.length < n then none else match PyFlat.rows 0 (r.drop n) with
      | none => none
      | some (xs, t) => some ((p :: r.take n) :: xs, t)) = some (c, t) := h
  by_cases hl : r.length < n
  · rw [if_pos hl] at h
    cases h
  · rw [if_neg hl] at h
    have h : some ([p :: r.take n], r.drop n) = some (c, t) := h
    injection h with h
    injection h with h1 h2
    exact ⟨by omega, h1.symm, h2.symm⟩
theorem get1 {r : List Int} (h : 1 ≤ r.length) : ∃ a r', r = a :: r' := by
  match r, h with
  | a :: r', _ => exact ⟨a, r', rfl⟩
theorem get2 {r : List Int} (h : 2 ≤ r.length) : ∃ a b r', r = a :: b :: r' := by
  match r, h with
  | a :: b :: r', _ => exact ⟨a, b, r', rfl⟩
theorem get3 {r : List Int} (h : 3 ≤ r.length) : ∃ a b c r', r = a :: b :: c :: r' := by
  match r, h with
  | a :: b :: c :: r', _ => exact ⟨a, b, c, r', rfl⟩
section
variable {p : Int} {r : List Int} {c : List (List Int)} {t : List Int}
theorem dec0 {p : Int} {gc : Call} (hp : 1 ≤ p ∧ p ≤ 20) (h15 : p ≠ 15) (hm : howMany p = 0) (hs : PyWqagay.shape p = some (0, 0)) (hc : CallIs p [] gc) (hst : ∀ g, GkNeutral.step g (PyWqagay.whole [[p]]) = Gk.step g gc)
    (h : PyFlat.call PyWqagay.shape (p :: r) = some (c, t)) : Dec p r c t := by
  obtain ⟨_, rfl, rfl⟩ := call0 hs h
  exact ⟨⟨0, gc, Nat.zero_le _, hc, hst, rfl, fun _ => hm.symm, fun e => absurd e h15⟩, hp⟩
theorem dec1 {p : Int} {f : Nat → Call} (hp : 1 ≤ p ∧ p ≤ 20) (h15 : p ≠ 15) (hm : howMany p = 1) (hs : PyWqagay.shape p = some (1, 0)) (hc : ∀ a : Nat, CallIs p [(a : Int)] (f a))
    (hst : ∀ (a : Int) g, GkNeutral.step g (PyWqagay.whole [[p, a]]) = Gk.step g (f a.toNat)) (hk : ∀ a : Int, GkNeutral.asked1 (PyWqagay.whole [[p, a]]) = GkNeutral.natural a 1024)
    (h : PyFlat.call PyWqagay.shape (p :: r) = some (c, t)) (ha : GkNeutral.asked1 (PyWqagay.whole c) = true) : Dec p r c t := by
  obtain ⟨hl, rfl, rfl⟩ := call0 hs h
  obtain ⟨a, r', rfl⟩ := get1 hl
  have ha : GkNeutral.asked1 (PyWqagay.whole [[p, a]]) = true := ha
  rw [hk] at ha
  have ea := nat_of ha
  refine ⟨⟨1, f a.toNat, hl, ?_, hst a, rfl, fun _ => hm.symm, fun e => absurd e h15⟩, hp⟩
  have := hc a.toNat
  rw [ea] at this
  exact this
theorem dec2 {p : Int} {f : Nat → Nat → Call} (hp : 1 ≤ p ∧ p ≤ 20) (h15 : p ≠ 15) (hm : howMany p = 2) (hs : PyWqagay.shape p = some (2, 0)) (hc : ∀ a b : Nat, CallIs p [(a : Int), (b : Int)] (f a b))
    (hst : ∀ (a b : Int) g, GkNeutral.step g (PyWqagay.whole [[p, a, b]]) = Gk.step g (f a.toNat b.toNat)) (hk : ∀ a b : Int, GkNeutral.asked1 (PyWqagay.whole [[p, a, b]]) = (GkNeutral.natural a 1024 && GkNeutral.natural b 1024))
    (h : PyFlat.call PyWqagay.shape (p :: r) = some (c, t)) (ha : GkNeutral.asked1 (PyWqagay.whole c) = true) : Dec p r c t := by
  obtain ⟨hl, rfl, rfl⟩ := call0 hs h
  obtain ⟨a, b, r', rfl⟩ := get2 hl
  have ha : GkNeutral.asked1 (PyWqagay.whole [[p, a, b]]) = true := ha
  rw [hk, Bool.and_eq_true] at ha
  have ea := nat_of ha.1
  have eb := nat_of ha.2
  refine ⟨⟨2, f a.toNat b.toNat, hl, ?_, hst a b, rfl, fun _ => hm.symm, fun e => absurd e h15⟩, hp⟩
  have := hc a.toNat b.toNat
  rw [ea, eb] at this
  exact this
end
theorem shape_rng {p : Int} {x : Nat × Nat} (h : PyWqagay.shape p = some x) : 1 ≤ p ∧ p ≤ 20 := by
  unfold PyWqagay.shape at h
  refine Decidable.byContradiction fun hn => ?_
  iterate 20 rw [if_neg (by omega)] at h
  cases h
theorem decode1 {p : Int} {r : List Int} {c : List (List Int)} {t : List Int} (h : PyFlat.call PyWqagay.shape (p :: r) = some (c, t)) (ha : GkNeutral.asked1 (PyWqagay.whole c) = true) : Dec p r c t := by
  have hp : 1 ≤ p ∧ p ≤ 20 := by
    cases hs : PyWqagay.shape p with
    | none =>
      have h : (match PyWqagay.shape p with
        | none => none
        | some (n, k) => if r.length < n then none else match PyFlat.rows k (r.drop n) with
          | none => none
          | some (xs, t) => some ((p :: r.take n) :: xs, t)) = some (c, t) := h
      rw [hs] at h
      cases h
    | some x => exact shape_rng hs
  obtain ⟨n, rfl⟩ : ∃ n : Nat, p = (n : Int) := ⟨p.toNat, by omega⟩
  have hn : 1 ≤ n ∧ n ≤ 20 := by omega
  match n, hn with
  | 1, _ => exact dec2 (f := .open_) (by decide) (by decide) rfl rfl .open_ (fun _ _ _ => rfl) (fun _ _ => rfl) h ha
  | 2, _ => exact dec2 (f := .take) (by decide) (by decide) rfl rfl .take (fun _ _ _ => rfl) (fun _ _ => rfl) h ha
  | 3, _ => exact dec2 (f := .zero) (by decide) (by decide) rfl rfl .zero (fun _ _ _ => rfl) (fun _ _ => rfl) h ha
  | 4, _ => exact dec2 (f := .resize) (by decide) (by decide) rfl rfl .resize (fun _ _ _ => rfl) (fun _ _ => rfl) h ha
  | 5, _ => exact dec1 (f := .give) (by decide) (by decide) rfl rfl .give (fun _ _ => rfl) (fun _ => rfl) h ha
  | 6, _ => exact dec1 (f := .size) (by decide) (by decide) rfl rfl .size (fun _ _ => rfl) (fun _ => rfl) h ha
  | 7, _ => exact dec1 (f := .of) (by decide) (by decide) rfl rfl .of (fun _ _ => rfl) (fun _ => rfl) h ha
  | 8, _ => exact dec1 (f := .next) (by decide) (by decide) rfl rfl .next (fun _ _ => rfl) (fun _ => rfl) h ha
  | 9, _ => exact dec1 (f := .most) (by decide) (by decide) rfl rfl .most (fun _ _ => rfl) (fun _ => rfl) h ha
  | 10, _ => exact dec0 (gc := .rows) (by decide) (by decide) rfl rfl .rows (fun _ => rfl) h
  | 11, _ => exact dec0 (gc := .enter) (by decide) (by decide) rfl rfl .enter (fun _ => rfl) h
  | 12, _ => exact dec0 (gc := .leave) (by decide) (by decide) rfl rfl .leave (fun _ => rfl) h
  | 13, _ => exact dec1 (f := .keep) (by decide) (by decide) rfl rfl .keep (fun _ _ => rfl) (fun _ => rfl) h ha
  | 14, _ => exact dec0 (gc := .counts) (by decide) (by decide) rfl rfl .counts (fun _ => rfl) h
  | 15, _ =>
    have h : (if r.length < 2 then none else match PyFlat.rows 1 (r.drop 2) with
      | none => none
      | some (xs, t) => some (((15 : Int) :: r.take 2) :: xs, t)) = some (c, t) := h
    by_cases hl : r.length < 2
    · rw [if_pos hl] at h
      cases h
    · rw [if_neg hl] at h
      obtain ⟨a, b, r', rfl⟩ := get2 (Nat.le_of_not_lt hl)
      have h : (match PyFlat.rows 1 r' with
        | none => none
        | some (xs, t) => some ([15, a, b] :: xs, t)) = some (c, t) := h
      match r', h with
      | [], h => cases h
      | z :: q, h =>
        have h : (match (match (if 0 ≤ z ∧ z.toNat ≤ q.length then some (q.take z.toNat, q.drop z.toNat) else none : Option (List Int × List Int)) with
            | none => none
            | some (x, s) => some ([x], s) : Option (List (List Int) × List Int)) with
          | none => none
          | some (xs, t) => some ([15, a, b] :: xs, t)) = some (c, t) := h
        by_cases hz : 0 ≤ z ∧ z.toNat ≤ q.length
        · rw [if_pos hz] at h
          have h : some ([[15, a, b], q.take z.toNat], q.drop z.toNat) = some (c, t) := h
          injection h with h
          injection h with h1 h2
          subst h1 h2
          have ha : (GkNeutral.natural a 1024 && (GkNeutral.natural b 1024 && GkNeutral.long (q.take z.toNat) 65536 0 255)) = true := ha
          rw [Bool.and_eq_true, Bool.and_eq_true] at ha
          obtain ⟨a1, a2, a3⟩ := ha
          have ea := nat_of a1
          have eb := nat_of a2
          have hall : ∀ y ∈ q.take z.toNat, 0 ≤ y ∧ y ≤ 255 := fun y hy => by
            unfold GkNeutral.long at a3
            rw [Bool.and_eq_true] at a3
            have := List.all_eq_true.mp a3.2 y hy
            rw [Bool.and_eq_true] at this
            exact ⟨of_decide_eq_true this.1, of_decide_eq_true this.2⟩
          have hlen : (q.take z.toNat).length = z.toNat := by rw [List.length_take]; omega
          refine ⟨⟨3 + z.toNat, .write a.toNat b.toNat (GkNeutral.text (q.take z.toNat)), ?_, ?_, fun _ => rfl, ?_, fun e => absurd rfl e, fun _ => ⟨z.toNat, ?_, rfl⟩⟩, by decide⟩
          · simp only [List.length_cons]
            omega
          · have := CallIs.write a.toNat b.toNat (GkNeutral.text (q.take z.toNat))
            rw [text_bytes hall, text_len, hlen, ea, eb, show ((z.toNat : Nat) : Int) = z by omega] at this
            have e : (a :: b :: z :: q).take (3 + z.toNat) = a :: b :: z :: q.take z.toNat := by
              rw [Nat.add_comm]
              rfl
            rw [e]
            exact this
          · rw [Nat.add_comm]
            rfl
          · show some z = _
            congr 1
            omega
        · rw [if_neg hz] at h
          cases h
  | 16, _ =>
    obtain ⟨hl, rfl, rfl⟩ := call0 (n := 3) rfl h
    obtain ⟨a, b, d, r', rfl⟩ := get3 hl
    have ha : (GkNeutral.natural a 1024 && (GkNeutral.natural b 1024 && GkNeutral.natural d 1024)) = true := ha
    rw [Bool.and_eq_true, Bool.and_eq_true] at ha
    refine ⟨⟨3, .read a.toNat b.toNat d.toNat, hl, ?_, fun _ => rfl, rfl, fun _ => rfl, fun e => absurd e (by decide)⟩, by decide⟩
    have := CallIs.read a.toNat b.toNat d.toNat
    rw [nat_of ha.1, nat_of ha.2.1, nat_of ha.2.2] at this
    exact this
  | 17, _ => exact dec0 (gc := .pack) (by decide) (by decide) rfl rfl .pack (fun _ => rfl) h
  | 18, _ => exact dec1 (f := .walk) (by decide) (by decide) rfl rfl .walk (fun _ _ => rfl) (fun _ => rfl) h ha
  | 19, _ => exact dec1 (f := .step) (by decide) (by decide) rfl rfl .step (fun _ _ => rfl) (fun _ => rfl) h ha
  | 20, _ => exact dec0 (gc := .blocks) (by decide) (by decide) rfl rfl .blocks (fun _ => rfl) h
end Gk

set_option linter.all false
set_option maxRecDepth 100000
/-! The whole list: what is left of it, what has been answered. -/
namespace Gk
theorem fit_len : ∀ {l : List Block} {e d q : Nat}, Fit e d q l → q + l.length ≤ e
  | [], _, _, _, f => f
  | b :: r, e, d, q, f => by
    have h1 := f.1
    have h2 := fit_len f.2.2.2.2
    have := halt_gt b
    rw [List.length_cons]
    omega
theorem rows_len (e : Nat) : ∀ (l : List Block) (p : Nat), (rowsFrom e p l).length ≤ l.length + 1
  | [], p => by
    show (if p < e then [(p, e)] else []).length ≤ 1
    split <;> simp
  | b :: r, p => by
    have ih := rows_len e r b.halt_
    show ((if p < b.at_ then [(p, b.at_)] else []) ++ rowsFrom e b.halt_ r).length ≤ r.length + 1 + 1
    rw [List.length_append]
    split <;> simp <;> omega
theorem flat_length {α : Type} {f : α → List Nat} {m : Nat} (hf : ∀ a, (f a).length ≤ m) : ∀ l : List α, (l.flatMap f).length ≤ m * l.length
  | [] => Nat.le_refl _
  | a :: r => by
    have := flat_length hf r
    have := hf a
    rw [List.flatMap_cons, List.length_append, List.length_cons, Nat.mul_succ]
    omega
theorem ints_length (l : List Nat) : (Gk.ints l).length = l.length := List.length_map _
theorem put_len (g : Ground) (o : Option (Ground × Nat)) : (putAnswer g o).2.length ≤ 1 := by
  cases o <;> exact Nat.le_refl _
theorem ans_len {g : Ground} (w : Wf g) (c : Call) : (step g c).2.length ≤ 8999 := by
  have hb := fit_len w.fit
  have hs := w.size
  have hbl : g.bytes.length ≤ 2048 := hs
  have one : ∀ {l : Answer}, l.length ≤ 1 → l.length ≤ 8999 := fun h => by omega
  have ofB : ∀ (a : Nat) (f : Block → Answer), (∀ b, (f b).length ≤ 8999) → (ofBlock g a f).length ≤ 8999 := fun a f h => by
    unfold ofBlock
    cases g.find a with
    | none => exact one (Nat.le_refl _)
    | some b => exact h b
  have onB : ∀ (a : Nat) (f : Block → Ground × Answer), (∀ b, (f b).2.length ≤ 8999) → (onBlock g a f).2.length ≤ 8999 := fun a f h => by
    unfold onBlock
    cases g.find a with
    | none => exact one (Nat.le_refl _)
    | some b => exact h b
  cases c with
  | open_ s r =>
    show (if s = 0 ∨ SIZE < s ∨ 4 < r then (g, no 1) else (opened s r, says 0)).2.length ≤ _
    split <;> exact one (Nat.le_refl _)
  | take n a =>
    show (if goodAlign a = true then putAnswer g (g.taken n a) else (g, no 1)).2.length ≤ _
    split
    · exact one (put_len _ _)
    · exact one (Nat.le_refl _)
  | zero n a =>
    show (if goodAlign a = true then putAnswer g _ else (g, no 1)).2.length ≤ _
    split
    · exact one (put_len _ _)
    · exact one (Nat.le_refl _)
  | resize b n => exact onB b _ fun x => one (put_len _ _)
  | give b => exact onB b _ fun x => one (Nat.le_refl _)
  | size b => exact ofB b _ fun x => by show 3 ≤ 8999; decide
  | of p =>
    show (match g.blocks.find? fun (b : Block) => decide (b.at_ ≤ p) && decide (p < b.halt_) with
      | none => no 4
      | some b => says b.at_).length ≤ _
    split <;> exact one (Nat.le_refl _)
  | next p =>
    show (match g.blocks.find? fun (b : Block) => decide (p ≤ b.at_) with
      | none => no 4
      | some b => says b.at_).length ≤ _
    split <;> exact one (Nat.le_refl _)
  | most a =>
    show (if goodAlign a = true then (match g.greatest a with
      | none => no 3
      | some k => says k) else no 1).length ≤ _
    split
    · split <;> exact one (Nat.le_refl _)
    · exact one (Nat.le_refl _)
  | rows =>
    show (Gk.ints (g.rows.length :: g.rows.flatMap fun (r : Row) => [r.1, long r])).length ≤ _
    rw [ints_length, List.length_cons]
    have h1 := flat_length (f := fun (r : Row) => [r.1, long r]) (m := 2) (fun _ => Nat.le_refl _) g.rows
    have h2 : g.rows.length ≤ g.blocks.length + 1 := rows_len g.size g.blocks 0
    omega
  | enter =>
    show (if DEPTH ≤ g.depth then (g, no 3) else ({ g with depth := g.depth + 1 }, says (g.depth + 1))).2.length ≤ _
    split <;> exact one (Nat.le_refl _)
  | leave =>
    show (if g.depth = 0 then (g, no 4) else _).2.length ≤ _
    split <;> exact one (Nat.le_refl _)
  | keep b =>
    refine onB b _ fun x => ?_
    show (if x.group = 0 then (g, no 4) else _).2.length ≤ _
    split <;> exact one (Nat.le_refl _)
  | counts => show 5 ≤ 8999; decide
  | write b i l =>
    refine onB b _ fun x => ?_
    show (if i + l.length ≤ x.n then _ else (g, no 1)).2.length ≤ _
    split <;> exact one (Nat.le_refl _)
  | read b i k =>
    refine ofB b _ fun x => ?_
    show (if i + k ≤ x.n then bytesA (readAt g.bytes (x.at_ + i) k) else no 1).length ≤ _
    split
    · unfold bytesA listed
      rw [ints_length, List.length_cons, List.length_map]
      unfold readAt
      rw [List.length_take, List.length_drop]
      omega
    · exact one (Nat.le_refl _)
  | pack =>
    show (listed ((packs 0 g.bytes g.blocks).1.map Block.at_)).length ≤ _
    unfold listed
    rw [ints_length, List.length_cons, List.length_map]
    have := (packs_ok (s := g.bytes) rfl w.fit (Nat.le_refl 0)).2.2
    omega
  | walk p =>
    show (match g.walks.findIdx? fun (w : Option Nat) => w.isNone with
      | none => (g, no 3)
      | some i => ({ g with walks := g.walks.set i (some p) }, says i)).2.length ≤ _
    split <;> exact one (Nat.le_refl _)
  | step w =>
    show (match g.walks.getD w none with
      | none => (g, no 1)
      | some p => match g.blocks.find? fun (b : Block) => decide (p ≤ b.at_) with
        | none => ({ g with walks := g.walks.set w none }, no 4)
        | some b => ({ g with walks := g.walks.set w (some (b.at_ + 1)) }, says b.at_)).2.length ≤ _
    split
    · exact one (Nat.le_refl _)
    · split <;> exact one (Nat.le_refl _)
  | blocks =>
    show (Gk.ints (g.blocks.length :: g.blocks.flatMap fun (b : Block) => [b.at_, b.n, b.align, b.group])).length ≤ _
    rw [ints_length, List.length_cons]
    have h1 := flat_length (f := fun (b : Block) => [b.at_, b.n, b.align, b.group]) (m := 4) (fun _ => Nat.le_refl _) g.blocks
    omega
/-- what is left at a place -/
structure Left (ns : List Int) (i : Nat) (g : Ground) (outs : List Int) (cs : List (List (List Int))) : Prop where
  dec : ∃ f, PyFlat.calls PyWqagay.shape f (ns.drop i) = some cs
  ask : ∀ c ∈ cs, GkNeutral.asked1 (PyWqagay.whole c) = true
  few : outs.length + 9000 * cs.length ≤ 9000 * 400
  eq : PyWqagay.answers ns = outs ++ PyFlat.told (PyFlat.played GkNeutral.step g (cs.map PyWqagay.whole))
theorem left_start {ns : List Int} (h : PyWqagay.answers_asked ns = true) : ∃ cs, Left ns 0 start [] cs := by
  unfold PyWqagay.answers_asked PyWqagay.calls at h
  cases e : PyFlat.calls PyWqagay.shape ns.length ns with
  | none =>
    rw [e] at h
    cases h
  | some cs =>
    rw [e] at h
    have h : (PyFlat.atMost 400 (cs.map PyWqagay.whole) && GkNeutral.asked (cs.map PyWqagay.whole)) = true := h
    rw [Bool.and_eq_true] at h
    obtain ⟨h1, h2⟩ := h
    have h1 := of_decide_eq_true h1
    rw [List.length_map] at h1
    unfold GkNeutral.asked at h2
    rw [Bool.and_eq_true] at h2
    refine ⟨cs, ⟨_, e⟩, fun c hc => List.all_eq_true.mp h2.1 _ (List.mem_map.mpr ⟨c, hc, rfl⟩), by show 0 + _ ≤ _; omega, ?_⟩
    unfold PyWqagay.answers PyWqagay.calls
    rw [e]
    rfl
theorem left_end {ns : List Int} {i : Nat} {g : Ground} {outs : List Int} {cs : List (List (List Int))} (L : Left ns i g outs cs) (h : ns.length ≤ i) : PyWqagay.answers ns = outs := by
  obtain ⟨f, e⟩ := L.dec
  rw [List.drop_eq_nil_of_le h] at e
  have e2 : cs = [] := by
    cases f with
    | zero => exact (Option.some.inj e).symm
    | succ f => exact (Option.some.inj e).symm
  have := L.eq
  rw [e2] at this
  rw [this]
  exact List.append_nil _
theorem drop_at {ns : List Int} {i : Nat} {p : Int} (h : ns[i]? = some p) : ns.drop i = p :: ns.drop (i + 1) := by
  obtain ⟨h1, h2⟩ := List.getElem?_eq_some_iff.mp h
  rw [List.drop_eq_getElem_cons h1, h2]
theorem left_turn {ns : List Int} {i : Nat} {g : Ground} {outs : List Int} {cs : List (List (List Int))} {p : Int} (w : Wf g) (L : Left ns i g outs cs) (hp : ns[i]? = some p) :
    ∃ (k : Nat) (gc : Call) (cs' : List (List (List Int))), i + 1 + k ≤ ns.length ∧ CallIs p ((ns.drop (i + 1)).take k) gc ∧ Left ns (i + 1 + k) (step g gc).1 (outs ++ (((step g gc).2.length : Int) :: (step g gc).2)) cs' ∧
      (p ≠ 15 → k = howMany p) ∧ (p = 15 → ∃ z : Nat, ns[i + 3]? = some (z : Int) ∧ k = 3 + z) ∧ 1 ≤ p ∧ p ≤ 20 ∧ outs.length + 9000 ≤ 9000 * 400 := by
  obtain ⟨f, e⟩ := L.dec
  rw [drop_at hp] at e
  cases f with
  | zero => cases e
  | succ f =>
    have e : (match PyFlat.call PyWqagay.shape (p :: ns.drop (i + 1)) with
      | none => none
      | some (c, t) => match PyFlat.calls PyWqagay.shape f t with
        | none => none
        | some cs => some (c :: cs)) = some cs := e
    cases e1 : PyFlat.call PyWqagay.shape (p :: ns.drop (i + 1)) with
    | none =>
      rw [e1] at e
      cases e
    | some ct =>
      obtain ⟨c, t⟩ := ct
      rw [e1] at e
      have e : (match PyFlat.calls PyWqagay.shape f t with
        | none => none
        | some cs => some (c :: cs)) = some cs := e
      cases e2 : PyFlat.calls PyWqagay.shape f t with
      | none =>
        rw [e2] at e
        cases e
      | some cs' =>
        rw [e2] at e
        have e : c :: cs' = cs := Option.some.inj e
        subst e
        obtain ⟨⟨k, gc, h1, h2, h3, h4, h5, h6⟩, r1, r2⟩ := decode1 e1 (L.ask c (List.mem_cons_self ..))
        have hl := (List.getElem?_eq_some_iff.mp hp).1
        rw [List.length_drop] at h1
        have hal := ans_len w gc
        have hf := L.few
        rw [List.length_cons] at hf
        refine ⟨k, gc, cs', by omega, h2, ⟨⟨f, ?_⟩, fun c' hc => L.ask c' (List.mem_cons_of_mem _ hc), ?_, ?_⟩, h5, fun e => ?_, r1, r2, by omega⟩
        · rw [h4, List.drop_drop] at e2
          exact e2
        · rw [List.length_append, List.length_cons]
          omega
        · have hq := L.eq
          rw [hq]
          show outs ++ PyFlat.told ((GkNeutral.step g (PyWqagay.whole c)).2 :: PyFlat.played GkNeutral.step (GkNeutral.step g (PyWqagay.whole c)).1 (cs'.map PyWqagay.whole)) = _
          rw [h3]
          unfold PyFlat.told
          rw [List.flatMap_cons, List.append_assoc]
        · obtain ⟨z, hz, hk⟩ := h6 e
          rw [List.getElem?_drop] at hz
          exact ⟨z, by rw [show i + 3 = i + 1 + 2 by omega]; exact hz, hk⟩
end Gk

set_option Elab.async false
set_option linter.all false
set_option maxRecDepth 100000
set_option maxHeartbeats 4000000
/-! The text by places: its defs, classes, tables, as the top has written them. -/
namespace Gp
open PySem PySem.Spec PyProof.Rows L2
def top (i : Nat) : Stmt := PySem.Challenge.pw_lentground_s01_answers.main.body.getD i (.Pass ⟨0, 0, 0, 0⟩)
abbrev s_Block_init : Stmt := inClass (top 1) 0
abbrev s_reach_of : Stmt := top 2
abbrev s_place_behind : Stmt := top 3
abbrev s_Row_init : Stmt := inClass (top 5) 0
abbrev s_row_length : Stmt := top 6
abbrev s_rows_between : Stmt := top 7
abbrev s_least_multiple : Stmt := top 8
abbrev s_least_in_row : Stmt := top 9
abbrev s_greatest_in_row : Stmt := top 10
abbrev s_least_address : Stmt := top 17
abbrev s_greatest_address : Stmt := top 18
abbrev s_rows_that_fit : Stmt := top 19
abbrev s_rows_to_try : Stmt := top 20
abbrev s_choose_address : Stmt := top 21
abbrev s_answer_open : Stmt := top 31
abbrev s_answer_take : Stmt := top 32
abbrev s_answer_zero : Stmt := top 33
abbrev s_address_resized : Stmt := top 34
abbrev s_answer_resize : Stmt := top 35
abbrev s_answer_give : Stmt := top 36
abbrev s_answer_size : Stmt := top 37
abbrev s_answer_of : Stmt := top 38
abbrev s_answer_next : Stmt := top 39
abbrev s_answer_most : Stmt := top 40
abbrev s_answer_rows : Stmt := top 41
abbrev s_answer_enter : Stmt := top 42
abbrev s_answer_leave : Stmt := top 43
abbrev s_answer_keep : Stmt := top 44
abbrev s_answer_counts : Stmt := top 45
abbrev s_has_bytes : Stmt := top 46
abbrev s_answer_write : Stmt := top 47
abbrev s_answer_read : Stmt := top 48
abbrev s_answer_pack : Stmt := top 49
abbrev s_answer_walk : Stmt := top 50
abbrev s_answer_step : Stmt := top 51
abbrev s_answer_blocks : Stmt := top 52
abbrev s_answer_call : Stmt := top 54
abbrev s_Ground_init : Stmt := inClass (top 58) 0
abbrev s_Ground_begin : Stmt := inClass (top 58) 1
abbrev s_Ground_blocks_in_order : Stmt := inClass (top 58) 2
abbrev s_Ground_innermost_blocks : Stmt := inClass (top 58) 3
abbrev s_Ground_address_from : Stmt := inClass (top 58) 4
abbrev s_Ground_rows : Stmt := inClass (top 58) 5
abbrev s_Ground_rows_without : Stmt := inClass (top 58) 6
abbrev s_Ground_settle : Stmt := inClass (top 58) 7
abbrev s_Ground_bytes_from : Stmt := inClass (top 58) 8
abbrev s_Ground_put : Stmt := inClass (top 58) 9
abbrev s_Ground_pack : Stmt := inClass (top 58) 10
abbrev s_end_of_call : Stmt := top 62
abbrev s_answers : Stmt := top 63
theorem sc_Block_init : FnScope ["self", "address", "n", "alignment", "group"] ["self", "address", "n", "alignment", "group"] (defScope s_Block_init) := ⟨rfl, rfl, rfl, by decide +kernel, rfl, by decide +kernel, by decide +kernel⟩
theorem sc_reach_of : FnScope ["n"] ["n"] (defScope s_reach_of) := ⟨rfl, rfl, rfl, by decide +kernel, rfl, by decide +kernel, by decide +kernel⟩
theorem sc_place_behind : FnScope ["block"] ["block"] (defScope s_place_behind) := ⟨rfl, rfl, rfl, by decide +kernel, rfl, by decide +kernel, by decide +kernel⟩
theorem sc_Row_init : FnScope ["self", "first", "end"] ["self", "first", "end"] (defScope s_Row_init) := ⟨rfl, rfl, rfl, by decide +kernel, rfl, by decide +kernel, by decide +kernel⟩
theorem sc_row_length : FnScope ["row"] ["row"] (defScope s_row_length) := ⟨rfl, rfl, rfl, by decide +kernel, rfl, by decide +kernel, by decide +kernel⟩
theorem sc_rows_between : FnScope ["size", "blocks", "rows", "first", "block"] ["size", "blocks"] (defScope s_rows_between) := ⟨rfl, rfl, rfl, by decide +kernel, rfl, by decide +kernel, by decide +kernel⟩
theorem sc_least_multiple : FnScope ["place", "alignment"] ["place", "alignment"] (defScope s_least_multiple) := ⟨rfl, rfl, rfl, by decide +kernel, rfl, by decide +kernel, by decide +kernel⟩
theorem sc_least_in_row : FnScope ["row", "reach", "alignment", "mark", "address"] ["row", "reach", "alignment", "mark"] (defScope s_least_in_row) := ⟨rfl, rfl, rfl, by decide +kernel, rfl, by decide +kernel, by decide +kernel⟩
theorem sc_greatest_in_row : FnScope ["row", "reach", "alignment", "address"] ["row", "reach", "alignment"] (defScope s_greatest_in_row) := ⟨rfl, rfl, rfl, by decide +kernel, rfl, by decide +kernel, by decide +kernel⟩
theorem sc_least_address : FnScope ["rows", "reach", "alignment", "mark", "row", "address"] ["rows", "reach", "alignment", "mark"] (defScope s_least_address) := ⟨rfl, rfl, rfl, by decide +kernel, rfl, by decide +kernel, by decide +kernel⟩
theorem sc_greatest_address : FnScope ["rows", "reach", "alignment", "row", "address"] ["rows", "reach", "alignment"] (defScope s_greatest_address) := ⟨rfl, rfl, rfl, by decide +kernel, rfl, by decide +kernel, by decide +kernel⟩
theorem sc_rows_that_fit : FnScope ["rows", "reach", "alignment", "row"] ["rows", "reach", "alignment"] (defScope s_rows_that_fit) := ⟨rfl, rfl, rfl, by decide +kernel, rfl, by decide +kernel, by decide +kernel⟩
theorem sc_rows_to_try : FnScope ["rows", "rule", "reach", "alignment", "fitting"] ["rows", "rule", "reach", "alignment"] (defScope s_rows_to_try) := ⟨rfl, rfl, rfl, by decide +kernel, rfl, by decide +kernel, by decide +kernel⟩
theorem sc_choose_address : FnScope ["rows", "rule", "mark", "reach", "alignment", "address"] ["rows", "rule", "mark", "reach", "alignment"] (defScope s_choose_address) := ⟨rfl, rfl, rfl, by decide +kernel, rfl, by decide +kernel, by decide +kernel⟩
theorem sc_answer_open : FnScope ["ground", "numbers", "size", "rule"] ["ground", "numbers"] (defScope s_answer_open) := ⟨rfl, rfl, rfl, by decide +kernel, rfl, by decide +kernel, by decide +kernel⟩
theorem sc_answer_take : FnScope ["ground", "numbers", "n", "alignment", "address"] ["ground", "numbers"] (defScope s_answer_take) := ⟨rfl, rfl, rfl, by decide +kernel, rfl, by decide +kernel, by decide +kernel⟩
theorem sc_answer_zero : FnScope ["ground", "numbers", "answer"] ["ground", "numbers"] (defScope s_answer_zero) := ⟨rfl, rfl, rfl, by decide +kernel, rfl, by decide +kernel, by decide +kernel⟩
theorem sc_address_resized : FnScope ["ground", "block", "n", "rows", "row"] ["ground", "block", "n"] (defScope s_address_resized) := ⟨rfl, rfl, rfl, by decide +kernel, rfl, by decide +kernel, by decide +kernel⟩
theorem sc_answer_resize : FnScope ["ground", "numbers", "n", "block", "address", "kept"] ["ground", "numbers"] (defScope s_answer_resize) := ⟨rfl, rfl, rfl, by decide +kernel, rfl, by decide +kernel, by decide +kernel⟩
theorem sc_answer_give : FnScope ["ground", "numbers"] ["ground", "numbers"] (defScope s_answer_give) := ⟨rfl, rfl, rfl, by decide +kernel, rfl, by decide +kernel, by decide +kernel⟩
theorem sc_answer_size : FnScope ["ground", "numbers", "block"] ["ground", "numbers"] (defScope s_answer_size) := ⟨rfl, rfl, rfl, by decide +kernel, rfl, by decide +kernel, by decide +kernel⟩
theorem sc_answer_of : FnScope ["ground", "numbers", "place", "block"] ["ground", "numbers"] (defScope s_answer_of) := ⟨rfl, rfl, rfl, by decide +kernel, rfl, by decide +kernel, by decide +kernel⟩
theorem sc_answer_next : FnScope ["ground", "numbers", "address"] ["ground", "numbers"] (defScope s_answer_next) := ⟨rfl, rfl, rfl, by decide +kernel, rfl, by decide +kernel, by decide +kernel⟩
theorem sc_answer_most : FnScope ["ground", "numbers", "alignment", "most", "row"] ["ground", "numbers"] (defScope s_answer_most) := ⟨rfl, rfl, rfl, by decide +kernel, rfl, by decide +kernel, by decide +kernel⟩
theorem sc_answer_rows : FnScope ["ground", "numbers", "rows", "answer", "row"] ["ground", "numbers"] (defScope s_answer_rows) := ⟨rfl, rfl, rfl, by decide +kernel, rfl, by decide +kernel, by decide +kernel⟩
theorem sc_answer_enter : FnScope ["ground", "numbers"] ["ground", "numbers"] (defScope s_answer_enter) := ⟨rfl, rfl, rfl, by decide +kernel, rfl, by decide +kernel, by decide +kernel⟩
theorem sc_answer_leave : FnScope ["ground", "numbers", "leaving", "block"] ["ground", "numbers"] (defScope s_answer_leave) := ⟨rfl, rfl, rfl, by decide +kernel, rfl, by decide +kernel, by decide +kernel⟩
theorem sc_answer_keep : FnScope ["ground", "numbers", "block"] ["ground", "numbers"] (defScope s_answer_keep) := ⟨rfl, rfl, rfl, by decide +kernel, rfl, by decide +kernel, by decide +kernel⟩
theorem sc_answer_counts : FnScope ["ground", "numbers", "blocks", "lent", "block"] ["ground", "numbers"] (defScope s_answer_counts) := ⟨rfl, rfl, rfl, by decide +kernel, rfl, by decide +kernel, by decide +kernel⟩
theorem sc_has_bytes : FnScope ["block", "first", "how_many"] ["block", "first", "how_many"] (defScope s_has_bytes) := ⟨rfl, rfl, rfl, by decide +kernel, rfl, by decide +kernel, by decide +kernel⟩
theorem sc_answer_write : FnScope ["ground", "numbers", "block", "first", "new_bytes"] ["ground", "numbers"] (defScope s_answer_write) := ⟨rfl, rfl, rfl, by decide +kernel, rfl, by decide +kernel, by decide +kernel⟩
theorem sc_answer_read : FnScope ["ground", "numbers", "block", "first", "how_many"] ["ground", "numbers"] (defScope s_answer_read) := ⟨rfl, rfl, rfl, by decide +kernel, rfl, by decide +kernel, by decide +kernel⟩
theorem sc_answer_pack : FnScope ["ground", "numbers"] ["ground", "numbers"] (defScope s_answer_pack) := ⟨rfl, rfl, rfl, by decide +kernel, rfl, by decide +kernel, by decide +kernel⟩
theorem sc_answer_walk : FnScope ["ground", "numbers", "walk"] ["ground", "numbers"] (defScope s_answer_walk) := ⟨rfl, rfl, rfl, by decide +kernel, rfl, by decide +kernel, by decide +kernel⟩
theorem sc_answer_step : FnScope ["ground", "numbers", "walk", "address"] ["ground", "numbers"] (defScope s_answer_step) := ⟨rfl, rfl, rfl, by decide +kernel, rfl, by decide +kernel, by decide +kernel⟩
theorem sc_answer_blocks : FnScope ["ground", "numbers", "blocks", "answer", "block"] ["ground", "numbers"] (defScope s_answer_blocks) := ⟨rfl, rfl, rfl, by decide +kernel, rfl, by decide +kernel, by decide +kernel⟩
theorem sc_answer_call : FnScope ["ground", "number", "numbers"] ["ground", "number", "numbers"] (defScope s_answer_call) := ⟨rfl, rfl, rfl, by decide +kernel, rfl, by decide +kernel, by decide +kernel⟩
theorem sc_Ground_init : FnScope ["self"] ["self"] (defScope s_Ground_init) := ⟨rfl, rfl, rfl, by decide +kernel, rfl, by decide +kernel, by decide +kernel⟩
theorem sc_Ground_begin : FnScope ["self", "size", "rule"] ["self", "size", "rule"] (defScope s_Ground_begin) := ⟨rfl, rfl, rfl, by decide +kernel, rfl, by decide +kernel, by decide +kernel⟩
theorem sc_Ground_blocks_in_order : FnScope ["self", "address"] ["self"] (defScope s_Ground_blocks_in_order) := ⟨rfl, rfl, rfl, by decide +kernel, rfl, by decide +kernel, by decide +kernel⟩
theorem sc_Ground_innermost_blocks : FnScope ["self", "block"] ["self"] (defScope s_Ground_innermost_blocks) := ⟨rfl, rfl, rfl, by decide +kernel, rfl, by decide +kernel, by decide +kernel⟩
theorem sc_Ground_address_from : FnScope ["self", "place", "address"] ["self", "place"] (defScope s_Ground_address_from) := ⟨rfl, rfl, rfl, by decide +kernel, rfl, by decide +kernel, by decide +kernel⟩
theorem sc_Ground_rows : FnScope ["self"] ["self"] (defScope s_Ground_rows) := ⟨rfl, rfl, rfl, by decide +kernel, rfl, by decide +kernel, by decide +kernel⟩
theorem sc_Ground_rows_without : FnScope ["self", "left_out", "others", "block"] ["self", "left_out"] (defScope s_Ground_rows_without) := ⟨rfl, rfl, rfl, by decide +kernel, rfl, by decide +kernel, by decide +kernel⟩
theorem sc_Ground_settle : FnScope ["self", "block"] ["self", "block"] (defScope s_Ground_settle) := ⟨rfl, rfl, rfl, by decide +kernel, rfl, by decide +kernel, by decide +kernel⟩
theorem sc_Ground_bytes_from : FnScope ["self", "address", "how_many"] ["self", "address", "how_many"] (defScope s_Ground_bytes_from) := ⟨rfl, rfl, rfl, by decide +kernel, rfl, by decide +kernel, by decide +kernel⟩
theorem sc_Ground_put : FnScope ["self", "address", "new_bytes", "i", "value"] ["self", "address", "new_bytes"] (defScope s_Ground_put) := ⟨rfl, rfl, rfl, by decide +kernel, rfl, by decide +kernel, by decide +kernel⟩
theorem sc_Ground_pack : FnScope ["self", "packed", "behind", "block", "address"] ["self"] (defScope s_Ground_pack) := ⟨rfl, rfl, rfl, by decide +kernel, rfl, by decide +kernel, by decide +kernel⟩
theorem sc_end_of_call : FnScope ["calls", "at", "end"] ["calls", "at"] (defScope s_end_of_call) := ⟨rfl, rfl, rfl, by decide +kernel, rfl, by decide +kernel, by decide +kernel⟩
theorem sc_answers : FnScope ["calls", "ground", "given", "at", "end", "answer"] ["calls"] (defScope s_answers) := ⟨rfl, rfl, rfl, by decide +kernel, rfl, by decide +kernel, by decide +kernel⟩
/-- where things lie -/
structure Adr where
  c_Block : Addr
  c_Row : Addr
  c_Ground : Addr
  f_Block_init : Addr
  d_Block_init : FuncData
  f_reach_of : Addr
  d_reach_of : FuncData
  f_place_behind : Addr
  d_place_behind : FuncData
  f_Row_init : Addr
  d_Row_init : FuncData
  f_row_length : Addr
  d_row_length : FuncData
  f_rows_between : Addr
  d_rows_between : FuncData
  f_least_multiple : Addr
  d_least_multiple : FuncData
  f_least_in_row : Addr
  d_least_in_row : FuncData
  f_greatest_in_row : Addr
  d_greatest_in_row : FuncData
  f_least_address : Addr
  d_least_address : FuncData
  f_greatest_address : Addr
  d_greatest_address : FuncData
  f_rows_that_fit : Addr
  d_rows_that_fit : FuncData
  f_rows_to_try : Addr
  d_rows_to_try : FuncData
  f_choose_address : Addr
  d_choose_address : FuncData
  f_answer_open : Addr
  d_answer_open : FuncData
  f_answer_take : Addr
  d_answer_take : FuncData
  f_answer_zero : Addr
  d_answer_zero : FuncData
  f_address_resized : Addr
  d_address_resized : FuncData
  f_answer_resize : Addr
  d_answer_resize : FuncData
  f_answer_give : Addr
  d_answer_give : FuncData
  f_answer_size : Addr
  d_answer_size : FuncData
  f_answer_of : Addr
  d_answer_of : FuncData
  f_answer_next : Addr
  d_answer_next : FuncData
  f_answer_most : Addr
  d_answer_most : FuncData
  f_answer_rows : Addr
  d_answer_rows : FuncData
  f_answer_enter : Addr
  d_answer_enter : FuncData
  f_answer_leave : Addr
  d_answer_leave : FuncData
  f_answer_keep : Addr
  d_answer_keep : FuncData
  f_answer_counts : Addr
  d_answer_counts : FuncData
  f_has_bytes : Addr
  d_has_bytes : FuncData
  f_answer_write : Addr
  d_answer_write : FuncData
  f_answer_read : Addr
  d_answer_read : FuncData
  f_answer_pack : Addr
  d_answer_pack : FuncData
  f_answer_walk : Addr
  d_answer_walk : FuncData
  f_answer_step : Addr
  d_answer_step : FuncData
  f_answer_blocks : Addr
  d_answer_blocks : FuncData
  f_answer_call : Addr
  d_answer_call : FuncData
  f_Ground_init : Addr
  d_Ground_init : FuncData
  f_Ground_begin : Addr
  d_Ground_begin : FuncData
  f_Ground_blocks_in_order : Addr
  d_Ground_blocks_in_order : FuncData
  f_Ground_innermost_blocks : Addr
  d_Ground_innermost_blocks : FuncData
  f_Ground_address_from : Addr
  d_Ground_address_from : FuncData
  f_Ground_rows : Addr
  d_Ground_rows : FuncData
  f_Ground_rows_without : Addr
  d_Ground_rows_without : FuncData
  f_Ground_settle : Addr
  d_Ground_settle : FuncData
  f_Ground_bytes_from : Addr
  d_Ground_bytes_from : FuncData
  f_Ground_put : Addr
  d_Ground_put : FuncData
  f_Ground_pack : Addr
  d_Ground_pack : FuncData
  f_end_of_call : Addr
  d_end_of_call : FuncData
  f_answers : Addr
  d_answers : FuncData
  u_GREATEST_ADDRESS : Value
  u_SHORTEST_ROW : Value
  u_LONGEST_ROW : Value
  u_BEHIND_MARK : Value
  u_LAST_RULE : Value
  u_WRONG_NUMBER : Value
  u_NO_BLOCK : Value
  u_NO_ROOM : Value
  u_NONE_THERE : Value
  u_MOST_PLACES : Value
  u_GREATEST_DEPTH : Value
  u_MOST_WALKS : Value
  u_FIRST_SIZE : Value
  u_FIRST_RULE : Value
  u_WRITE : Value
  a_CALLS : Addr
  a_HOW_MANY_NUMBERS : Addr
  a_ALIGNMENTS : Addr
def tab_CALLS (t : Adr) : List (Key × V) := [(.inl 1, .ref t.f_answer_open), (.inl 2, .ref t.f_answer_take), (.inl 3, .ref t.f_answer_zero), (.inl 4, .ref t.f_answer_resize), (.inl 5, .ref t.f_answer_give), (.inl 6, .ref t.f_answer_size), (.inl 7, .ref t.f_answer_of), (.inl 8, .ref t.f_answer_next), (.inl 9, .ref t.f_answer_most), (.inl 10, .ref t.f_answer_rows), (.inl 11, .ref t.f_answer_enter), (.inl 12, .ref t.f_answer_leave), (.inl 13, .ref t.f_answer_keep), (.inl 14, .ref t.f_answer_counts), (.inl 15, .ref t.f_answer_write), (.inl 16, .ref t.f_answer_read), (.inl 17, .ref t.f_answer_pack), (.inl 18, .ref t.f_answer_walk), (.inl 19, .ref t.f_answer_step), (.inl 20, .ref t.f_answer_blocks)]
def tab_HOW_MANY_NUMBERS (t : Adr) : List (Key × V) := [(.inl 1, .int 2), (.inl 2, .int 2), (.inl 3, .int 2), (.inl 4, .int 2), (.inl 5, .int 1), (.inl 6, .int 1), (.inl 7, .int 1), (.inl 8, .int 1), (.inl 9, .int 1), (.inl 10, .int 0), (.inl 11, .int 0), (.inl 12, .int 0), (.inl 13, .int 1), (.inl 14, .int 0), (.inl 15, .int 3), (.inl 16, .int 3), (.inl 17, .int 0), (.inl 18, .int 1), (.inl 19, .int 1), (.inl 20, .int 0)]
def tup_ALIGNMENTS : List V := [.int 1, .int 2, .int 4, .int 8, .int 16, .int 32, .int 64, .int 128, .int 256]
/-- a tuple of the module -/
def KTup (K : PySem.W.Frag) (a : Addr) (xs : List V) : Prop := ∃ (o : Obj) (its : Array Value) (n : Nat), K.lookup a = some o ∧ o.cls = .type "tuple" ∧ o.data = .seq its n ∧ its.size ≤ sizeLine ∧ Vals xs its.toList
structure Txt (P : Program) (w : World) (K : PySem.W.Frag) (mg : Str → Option Value) (t : Adr) : Prop where
  C_Block : Cls K t.c_Block
  m_Block : mg "Block" = some (.ref t.c_Block)
  K_Block : Mk K t.c_Block t.f_Block_init
  n_Block_address : NoAttr K t.c_Block "address"
  n_Block_n : NoAttr K t.c_Block "n"
  n_Block_alignment : NoAttr K t.c_Block "alignment"
  n_Block_group : NoAttr K t.c_Block "group"
  C_Row : Cls K t.c_Row
  m_Row : mg "Row" = some (.ref t.c_Row)
  K_Row : Mk K t.c_Row t.f_Row_init
  n_Row_first : NoAttr K t.c_Row "first"
  n_Row_end : NoAttr K t.c_Row "end"
  C_Ground : Cls K t.c_Ground
  m_Ground : mg "Ground" = some (.ref t.c_Ground)
  K_Ground : Mk K t.c_Ground t.f_Ground_init
  n_Ground_size : NoAttr K t.c_Ground "size"
  n_Ground_rule : NoAttr K t.c_Ground "rule"
  n_Ground_store : NoAttr K t.c_Ground "store"
  n_Ground_blocks : NoAttr K t.c_Ground "blocks"
  n_Ground_depth : NoAttr K t.c_Ground "depth"
  n_Ground_mark : NoAttr K t.c_Ground "mark"
  n_Ground_walks : NoAttr K t.c_Ground "walks"
  F_Block_init : Fun K "__init__" "Block.__init__" s_Block_init t.f_Block_init t.d_Block_init
  B_Block_init : Binds K t.d_Block_init ["self", "address", "n", "alignment", "group"] []
  F_reach_of : Fun K "reach_of" "reach_of" s_reach_of t.f_reach_of t.d_reach_of
  B_reach_of : Binds K t.d_reach_of ["n"] []
  m_reach_of : mg "reach_of" = some (.ref t.f_reach_of)
  F_place_behind : Fun K "place_behind" "place_behind" s_place_behind t.f_place_behind t.d_place_behind
  B_place_behind : Binds K t.d_place_behind ["block"] []
  m_place_behind : mg "place_behind" = some (.ref t.f_place_behind)
  F_Row_init : Fun K "__init__" "Row.__init__" s_Row_init t.f_Row_init t.d_Row_init
  B_Row_init : Binds K t.d_Row_init ["self", "first", "end"] []
  F_row_length : Fun K "row_length" "row_length" s_row_length t.f_row_length t.d_row_length
  B_row_length : Binds K t.d_row_length ["row"] []
  m_row_length : mg "row_length" = some (.ref t.f_row_length)
  F_rows_between : Fun K "rows_between" "rows_between" s_rows_between t.f_rows_between t.d_rows_between
  B_rows_between : Binds K t.d_rows_between ["size", "blocks"] []
  m_rows_between : mg "rows_between" = some (.ref t.f_rows_between)
  F_least_multiple : Fun K "least_multiple" "least_multiple" s_least_multiple t.f_least_multiple t.d_least_multiple
  B_least_multiple : Binds K t.d_least_multiple ["place", "alignment"] []
  m_least_multiple : mg "least_multiple" = some (.ref t.f_least_multiple)
  F_least_in_row : Fun K "least_in_row" "least_in_row" s_least_in_row t.f_least_in_row t.d_least_in_row
  B_least_in_row : Binds K t.d_least_in_row ["row", "reach", "alignment", "mark"] []
  m_least_in_row : mg "least_in_row" = some (.ref t.f_least_in_row)
  F_greatest_in_row : Fun K "greatest_in_row" "greatest_in_row" s_greatest_in_row t.f_greatest_in_row t.d_greatest_in_row
  B_greatest_in_row : Binds K t.d_greatest_in_row ["row", "reach", "alignment"] []
  m_greatest_in_row : mg "greatest_in_row" = some (.ref t.f_greatest_in_row)
  F_least_address : Fun K "least_address" "least_address" s_least_address t.f_least_address t.d_least_address
  B_least_address : Binds K t.d_least_address ["rows", "reach", "alignment", "mark"] []
  m_least_address : mg "least_address" = some (.ref t.f_least_address)
  F_greatest_address : Fun K "greatest_address" "greatest_address" s_greatest_address t.f_greatest_address t.d_greatest_address
  B_greatest_address : Binds K t.d_greatest_address ["rows", "reach", "alignment"] []
  m_greatest_address : mg "greatest_address" = some (.ref t.f_greatest_address)
  F_rows_that_fit : Fun K "rows_that_fit" "rows_that_fit" s_rows_that_fit t.f_rows_that_fit t.d_rows_that_fit
  B_rows_that_fit : Binds K t.d_rows_that_fit ["rows", "reach", "alignment"] []
  m_rows_that_fit : mg "rows_that_fit" = some (.ref t.f_rows_that_fit)
  F_rows_to_try : Fun K "rows_to_try" "rows_to_try" s_rows_to_try t.f_rows_to_try t.d_rows_to_try
  B_rows_to_try : Binds K t.d_rows_to_try ["rows", "rule", "reach", "alignment"] []
  m_rows_to_try : mg "rows_to_try" = some (.ref t.f_rows_to_try)
  F_choose_address : Fun K "choose_address" "choose_address" s_choose_address t.f_choose_address t.d_choose_address
  B_choose_address : Binds K t.d_choose_address ["rows", "rule", "mark", "reach", "alignment"] []
  m_choose_address : mg "choose_address" = some (.ref t.f_choose_address)
  F_answer_open : Fun K "answer_open" "answer_open" s_answer_open t.f_answer_open t.d_answer_open
  B_answer_open : Binds K t.d_answer_open ["ground", "numbers"] []
  m_answer_open : mg "answer_open" = some (.ref t.f_answer_open)
  F_answer_take : Fun K "answer_take" "answer_take" s_answer_take t.f_answer_take t.d_answer_take
  B_answer_take : Binds K t.d_answer_take ["ground", "numbers"] []
  m_answer_take : mg "answer_take" = some (.ref t.f_answer_take)
  F_answer_zero : Fun K "answer_zero" "answer_zero" s_answer_zero t.f_answer_zero t.d_answer_zero
  B_answer_zero : Binds K t.d_answer_zero ["ground", "numbers"] []
  m_answer_zero : mg "answer_zero" = some (.ref t.f_answer_zero)
  F_address_resized : Fun K "address_resized" "address_resized" s_address_resized t.f_address_resized t.d_address_resized
  B_address_resized : Binds K t.d_address_resized ["ground", "block", "n"] []
  m_address_resized : mg "address_resized" = some (.ref t.f_address_resized)
  F_answer_resize : Fun K "answer_resize" "answer_resize" s_answer_resize t.f_answer_resize t.d_answer_resize
  B_answer_resize : Binds K t.d_answer_resize ["ground", "numbers"] []
  m_answer_resize : mg "answer_resize" = some (.ref t.f_answer_resize)
  F_answer_give : Fun K "answer_give" "answer_give" s_answer_give t.f_answer_give t.d_answer_give
  B_answer_give : Binds K t.d_answer_give ["ground", "numbers"] []
  m_answer_give : mg "answer_give" = some (.ref t.f_answer_give)
  F_answer_size : Fun K "answer_size" "answer_size" s_answer_size t.f_answer_size t.d_answer_size
  B_answer_size : Binds K t.d_answer_size ["ground", "numbers"] []
  m_answer_size : mg "answer_size" = some (.ref t.f_answer_size)
  F_answer_of : Fun K "answer_of" "answer_of" s_answer_of t.f_answer_of t.d_answer_of
  B_answer_of : Binds K t.d_answer_of ["ground", "numbers"] []
  m_answer_of : mg "answer_of" = some (.ref t.f_answer_of)
  F_answer_next : Fun K "answer_next" "answer_next" s_answer_next t.f_answer_next t.d_answer_next
  B_answer_next : Binds K t.d_answer_next ["ground", "numbers"] []
  m_answer_next : mg "answer_next" = some (.ref t.f_answer_next)
  F_answer_most : Fun K "answer_most" "answer_most" s_answer_most t.f_answer_most t.d_answer_most
  B_answer_most : Binds K t.d_answer_most ["ground", "numbers"] []
  m_answer_most : mg "answer_most" = some (.ref t.f_answer_most)
  F_answer_rows : Fun K "answer_rows" "answer_rows" s_answer_rows t.f_answer_rows t.d_answer_rows
  B_answer_rows : Binds K t.d_answer_rows ["ground", "numbers"] []
  m_answer_rows : mg "answer_rows" = some (.ref t.f_answer_rows)
  F_answer_enter : Fun K "answer_enter" "answer_enter" s_answer_enter t.f_answer_enter t.d_answer_enter
  B_answer_enter : Binds K t.d_answer_enter ["ground", "numbers"] []
  m_answer_enter : mg "answer_enter" = some (.ref t.f_answer_enter)
  F_answer_leave : Fun K "answer_leave" "answer_leave" s_answer_leave t.f_answer_leave t.d_answer_leave
  B_answer_leave : Binds K t.d_answer_leave ["ground", "numbers"] []
  m_answer_leave : mg "answer_leave" = some (.ref t.f_answer_leave)
  F_answer_keep : Fun K "answer_keep" "answer_keep" s_answer_keep t.f_answer_keep t.d_answer_keep
  B_answer_keep : Binds K t.d_answer_keep ["ground", "numbers"] []
  m_answer_keep : mg "answer_keep" = some (.ref t.f_answer_keep)
  F_answer_counts : Fun K "answer_counts" "answer_counts" s_answer_counts t.f_answer_counts t.d_answer_counts
  B_answer_counts : Binds K t.d_answer_counts ["ground", "numbers"] []
  m_answer_counts : mg "answer_counts" = some (.ref t.f_answer_counts)
  F_has_bytes : Fun K "has_bytes" "has_bytes" s_has_bytes t.f_has_bytes t.d_has_bytes
  B_has_bytes : Binds K t.d_has_bytes ["block", "first", "how_many"] []
  m_has_bytes : mg "has_bytes" = some (.ref t.f_has_bytes)
  F_answer_write : Fun K "answer_write" "answer_write" s_answer_write t.f_answer_write t.d_answer_write
  B_answer_write : Binds K t.d_answer_write ["ground", "numbers"] []
  m_answer_write : mg "answer_write" = some (.ref t.f_answer_write)
  F_answer_read : Fun K "answer_read" "answer_read" s_answer_read t.f_answer_read t.d_answer_read
  B_answer_read : Binds K t.d_answer_read ["ground", "numbers"] []
  m_answer_read : mg "answer_read" = some (.ref t.f_answer_read)
  F_answer_pack : Fun K "answer_pack" "answer_pack" s_answer_pack t.f_answer_pack t.d_answer_pack
  B_answer_pack : Binds K t.d_answer_pack ["ground", "numbers"] []
  m_answer_pack : mg "answer_pack" = some (.ref t.f_answer_pack)
  F_answer_walk : Fun K "answer_walk" "answer_walk" s_answer_walk t.f_answer_walk t.d_answer_walk
  B_answer_walk : Binds K t.d_answer_walk ["ground", "numbers"] []
  m_answer_walk : mg "answer_walk" = some (.ref t.f_answer_walk)
  F_answer_step : Fun K "answer_step" "answer_step" s_answer_step t.f_answer_step t.d_answer_step
  B_answer_step : Binds K t.d_answer_step ["ground", "numbers"] []
  m_answer_step : mg "answer_step" = some (.ref t.f_answer_step)
  F_answer_blocks : Fun K "answer_blocks" "answer_blocks" s_answer_blocks t.f_answer_blocks t.d_answer_blocks
  B_answer_blocks : Binds K t.d_answer_blocks ["ground", "numbers"] []
  m_answer_blocks : mg "answer_blocks" = some (.ref t.f_answer_blocks)
  F_answer_call : Fun K "answer_call" "answer_call" s_answer_call t.f_answer_call t.d_answer_call
  B_answer_call : Binds K t.d_answer_call ["ground", "number", "numbers"] []
  m_answer_call : mg "answer_call" = some (.ref t.f_answer_call)
  F_Ground_init : Fun K "__init__" "Ground.__init__" s_Ground_init t.f_Ground_init t.d_Ground_init
  B_Ground_init : Binds K t.d_Ground_init ["self"] []
  F_Ground_begin : Fun K "begin" "Ground.begin" s_Ground_begin t.f_Ground_begin t.d_Ground_begin
  B_Ground_begin : Binds K t.d_Ground_begin ["self", "size", "rule"] []
  H_Ground_begin : Meth K t.c_Ground "begin" t.f_Ground_begin
  F_Ground_blocks_in_order : Fun K "blocks_in_order" "Ground.blocks_in_order" s_Ground_blocks_in_order t.f_Ground_blocks_in_order t.d_Ground_blocks_in_order
  B_Ground_blocks_in_order : Binds K t.d_Ground_blocks_in_order ["self"] []
  H_Ground_blocks_in_order : Meth K t.c_Ground "blocks_in_order" t.f_Ground_blocks_in_order
  F_Ground_innermost_blocks : Fun K "innermost_blocks" "Ground.innermost_blocks" s_Ground_innermost_blocks t.f_Ground_innermost_blocks t.d_Ground_innermost_blocks
  B_Ground_innermost_blocks : Binds K t.d_Ground_innermost_blocks ["self"] []
  H_Ground_innermost_blocks : Meth K t.c_Ground "innermost_blocks" t.f_Ground_innermost_blocks
  F_Ground_address_from : Fun K "address_from" "Ground.address_from" s_Ground_address_from t.f_Ground_address_from t.d_Ground_address_from
  B_Ground_address_from : Binds K t.d_Ground_address_from ["self", "place"] []
  H_Ground_address_from : Meth K t.c_Ground "address_from" t.f_Ground_address_from
  F_Ground_rows : Fun K "rows" "Ground.rows" s_Ground_rows t.f_Ground_rows t.d_Ground_rows
  B_Ground_rows : Binds K t.d_Ground_rows ["self"] []
  H_Ground_rows : Meth K t.c_Ground "rows" t.f_Ground_rows
  F_Ground_rows_without : Fun K "rows_without" "Ground.rows_without" s_Ground_rows_without t.f_Ground_rows_without t.d_Ground_rows_without
  B_Ground_rows_without : Binds K t.d_Ground_rows_without ["self", "left_out"] []
  H_Ground_rows_without : Meth K t.c_Ground "rows_without" t.f_Ground_rows_without
  F_Ground_settle : Fun K "settle" "Ground.settle" s_Ground_settle t.f_Ground_settle t.d_Ground_settle
  B_Ground_settle : Binds K t.d_Ground_settle ["self", "block"] []
  H_Ground_settle : Meth K t.c_Ground "settle" t.f_Ground_settle
  F_Ground_bytes_from : Fun K "bytes_from" "Ground.bytes_from" s_Ground_bytes_from t.f_Ground_bytes_from t.d_Ground_bytes_from
  B_Ground_bytes_from : Binds K t.d_Ground_bytes_from ["self", "address", "how_many"] []
  H_Ground_bytes_from : Meth K t.c_Ground "bytes_from" t.f_Ground_bytes_from
  F_Ground_put : Fun K "put" "Ground.put" s_Ground_put t.f_Ground_put t.d_Ground_put
  B_Ground_put : Binds K t.d_Ground_put ["self", "address", "new_bytes"] []
  H_Ground_put : Meth K t.c_Ground "put" t.f_Ground_put
  F_Ground_pack : Fun K "pack" "Ground.pack" s_Ground_pack t.f_Ground_pack t.d_Ground_pack
  B_Ground_pack : Binds K t.d_Ground_pack ["self"] []
  H_Ground_pack : Meth K t.c_Ground "pack" t.f_Ground_pack
  F_end_of_call : Fun K "end_of_call" "end_of_call" s_end_of_call t.f_end_of_call t.d_end_of_call
  B_end_of_call : Binds K t.d_end_of_call ["calls", "at"] []
  m_end_of_call : mg "end_of_call" = some (.ref t.f_end_of_call)
  F_answers : Fun K "answers" "answers" s_answers t.f_answers t.d_answers
  B_answers : Binds K t.d_answers ["calls"] []
  m_answers : mg "answers" = some (.ref t.f_answers)
  m_GREATEST_ADDRESS : mg "GREATEST_ADDRESS" = some t.u_GREATEST_ADDRESS
  r_GREATEST_ADDRESS : RelV (.int (1)) t.u_GREATEST_ADDRESS
  m_SHORTEST_ROW : mg "SHORTEST_ROW" = some t.u_SHORTEST_ROW
  r_SHORTEST_ROW : RelV (.int (2)) t.u_SHORTEST_ROW
  m_LONGEST_ROW : mg "LONGEST_ROW" = some t.u_LONGEST_ROW
  r_LONGEST_ROW : RelV (.int (3)) t.u_LONGEST_ROW
  m_BEHIND_MARK : mg "BEHIND_MARK" = some t.u_BEHIND_MARK
  r_BEHIND_MARK : RelV (.int (4)) t.u_BEHIND_MARK
  m_LAST_RULE : mg "LAST_RULE" = some t.u_LAST_RULE
  r_LAST_RULE : RelV (.int (4)) t.u_LAST_RULE
  m_WRONG_NUMBER : mg "WRONG_NUMBER" = some t.u_WRONG_NUMBER
  r_WRONG_NUMBER : RelV (.int (-1)) t.u_WRONG_NUMBER
  m_NO_BLOCK : mg "NO_BLOCK" = some t.u_NO_BLOCK
  r_NO_BLOCK : RelV (.int (-2)) t.u_NO_BLOCK
  m_NO_ROOM : mg "NO_ROOM" = some t.u_NO_ROOM
  r_NO_ROOM : RelV (.int (-3)) t.u_NO_ROOM
  m_NONE_THERE : mg "NONE_THERE" = some t.u_NONE_THERE
  r_NONE_THERE : RelV (.int (-4)) t.u_NONE_THERE
  m_MOST_PLACES : mg "MOST_PLACES" = some t.u_MOST_PLACES
  r_MOST_PLACES : RelV (.int (2048)) t.u_MOST_PLACES
  m_GREATEST_DEPTH : mg "GREATEST_DEPTH" = some t.u_GREATEST_DEPTH
  r_GREATEST_DEPTH : RelV (.int (8)) t.u_GREATEST_DEPTH
  m_MOST_WALKS : mg "MOST_WALKS" = some t.u_MOST_WALKS
  r_MOST_WALKS : RelV (.int (4)) t.u_MOST_WALKS
  m_FIRST_SIZE : mg "FIRST_SIZE" = some t.u_FIRST_SIZE
  r_FIRST_SIZE : RelV (.int (64)) t.u_FIRST_SIZE
  m_FIRST_RULE : mg "FIRST_RULE" = some t.u_FIRST_RULE
  r_FIRST_RULE : RelV (.int (0)) t.u_FIRST_RULE
  m_WRITE : mg "WRITE" = some t.u_WRITE
  r_WRITE : RelV (.int (15)) t.u_WRITE
  m_CALLS : mg "CALLS" = some (.ref t.a_CALLS)
  t_CALLS : KTab P w K t.a_CALLS (tab_CALLS t)
  m_HOW_MANY_NUMBERS : mg "HOW_MANY_NUMBERS" = some (.ref t.a_HOW_MANY_NUMBERS)
  t_HOW_MANY_NUMBERS : KTab P w K t.a_HOW_MANY_NUMBERS (tab_HOW_MANY_NUMBERS t)
  m_ALIGNMENTS : mg "ALIGNMENTS" = some (.ref t.a_ALIGNMENTS)
  t_ALIGNMENTS : KTup K t.a_ALIGNMENTS tup_ALIGNMENTS
  b_max : mg "max" = none
  b_min : mg "min" = none
  b_len : mg "len" = none
  b_sorted : mg "sorted" = none
  b_sum : mg "sum" = none
  b_reversed : mg "reversed" = none
  b_enumerate : mg "enumerate" = none
  b_range : mg "range" = none
/-! ### attributes -/
theorem lk_hit {f : Str} {v : V} {r : List (Str × V)} : List.lookup f ((f, v) :: r) = some v := by
  have hb : (f == f) = true := beq_iff_eq.mpr rfl
  simp only [List.lookup, hb]
theorem lk_miss {f g : Str} {v : V} {r : List (Str × V)} (h : ¬ f = g) : List.lookup f ((g, v) :: r) = List.lookup f r := by
  have hb : (f == g) = false := beq_eq_false_iff_ne.mpr h
  simp only [List.lookup, hb]
theorem pf_hit {f : Str} {v x : V} {r : List (Str × V)} : putF f v ((f, x) :: r) = (f, v) :: r := if_pos rfl
theorem pf_miss {f g : Str} {v x : V} {r : List (Str × V)} (h : ¬ g = f) : putF f v ((g, x) :: r) = (g, x) :: putF f v r := if_neg h
theorem ne_address_alignment : ¬ (("address" : Str) = "alignment") := by decide +kernel
theorem ne_address_group : ¬ (("address" : Str) = "group") := by decide +kernel
theorem ne_address_n : ¬ (("address" : Str) = "n") := by decide +kernel
theorem ne_address_from_blocks : ¬ (("address_from" : Str) = "blocks") := by decide +kernel
theorem ne_address_from_depth : ¬ (("address_from" : Str) = "depth") := by decide +kernel
theorem ne_address_from_mark : ¬ (("address_from" : Str) = "mark") := by decide +kernel
theorem ne_address_from_rule : ¬ (("address_from" : Str) = "rule") := by decide +kernel
theorem ne_address_from_size : ¬ (("address_from" : Str) = "size") := by decide +kernel
theorem ne_address_from_store : ¬ (("address_from" : Str) = "store") := by decide +kernel
theorem ne_address_from_walks : ¬ (("address_from" : Str) = "walks") := by decide +kernel
theorem ne_alignment_address : ¬ (("alignment" : Str) = "address") := by decide +kernel
theorem ne_alignment_group : ¬ (("alignment" : Str) = "group") := by decide +kernel
theorem ne_alignment_n : ¬ (("alignment" : Str) = "n") := by decide +kernel
theorem ne_begin_blocks : ¬ (("begin" : Str) = "blocks") := by decide +kernel
theorem ne_begin_depth : ¬ (("begin" : Str) = "depth") := by decide +kernel
theorem ne_begin_mark : ¬ (("begin" : Str) = "mark") := by decide +kernel
theorem ne_begin_rule : ¬ (("begin" : Str) = "rule") := by decide +kernel
theorem ne_begin_size : ¬ (("begin" : Str) = "size") := by decide +kernel
theorem ne_begin_store : ¬ (("begin" : Str) = "store") := by decide +kernel
theorem ne_begin_walks : ¬ (("begin" : Str) = "walks") := by decide +kernel
theorem ne_blocks_depth : ¬ (("blocks" : Str) = "depth") := by decide +kernel
theorem ne_blocks_mark : ¬ (("blocks" : Str) = "mark") := by decide +kernel
theorem ne_blocks_rule : ¬ (("blocks" : Str) = "rule") := by decide +kernel
theorem ne_blocks_size : ¬ (("blocks" : Str) = "size") := by decide +kernel
theorem ne_blocks_store : ¬ (("blocks" : Str) = "store") := by decide +kernel
theorem ne_blocks_walks : ¬ (("blocks" : Str) = "walks") := by decide +kernel
theorem ne_blocks_in_order_blocks : ¬ (("blocks_in_order" : Str) = "blocks") := by decide +kernel
theorem ne_blocks_in_order_depth : ¬ (("blocks_in_order" : Str) = "depth") := by decide +kernel
theorem ne_blocks_in_order_mark : ¬ (("blocks_in_order" : Str) = "mark") := by decide +kernel
theorem ne_blocks_in_order_rule : ¬ (("blocks_in_order" : Str) = "rule") := by decide +kernel
theorem ne_blocks_in_order_size : ¬ (("blocks_in_order" : Str) = "size") := by decide +kernel
theorem ne_blocks_in_order_store : ¬ (("blocks_in_order" : Str) = "store") := by decide +kernel
theorem ne_blocks_in_order_walks : ¬ (("blocks_in_order" : Str) = "walks") := by decide +kernel
theorem ne_bytes_from_blocks : ¬ (("bytes_from" : Str) = "blocks") := by decide +kernel
theorem ne_bytes_from_depth : ¬ (("bytes_from" : Str) = "depth") := by decide +kernel
theorem ne_bytes_from_mark : ¬ (("bytes_from" : Str) = "mark") := by decide +kernel
theorem ne_bytes_from_rule : ¬ (("bytes_from" : Str) = "rule") := by decide +kernel
theorem ne_bytes_from_size : ¬ (("bytes_from" : Str) = "size") := by decide +kernel
theorem ne_bytes_from_store : ¬ (("bytes_from" : Str) = "store") := by decide +kernel
theorem ne_bytes_from_walks : ¬ (("bytes_from" : Str) = "walks") := by decide +kernel
theorem ne_depth_blocks : ¬ (("depth" : Str) = "blocks") := by decide +kernel
theorem ne_depth_mark : ¬ (("depth" : Str) = "mark") := by decide +kernel
theorem ne_depth_rule : ¬ (("depth" : Str) = "rule") := by decide +kernel
theorem ne_depth_size : ¬ (("depth" : Str) = "size") := by decide +kernel
theorem ne_depth_store : ¬ (("depth" : Str) = "store") := by decide +kernel
theorem ne_depth_walks : ¬ (("depth" : Str) = "walks") := by decide +kernel
theorem ne_end_first : ¬ (("end" : Str) = "first") := by decide +kernel
theorem ne_first_end : ¬ (("first" : Str) = "end") := by decide +kernel
theorem ne_group_address : ¬ (("group" : Str) = "address") := by decide +kernel
theorem ne_group_alignment : ¬ (("group" : Str) = "alignment") := by decide +kernel
theorem ne_group_n : ¬ (("group" : Str) = "n") := by decide +kernel
theorem ne_innermost_blocks_blocks : ¬ (("innermost_blocks" : Str) = "blocks") := by decide +kernel
theorem ne_innermost_blocks_depth : ¬ (("innermost_blocks" : Str) = "depth") := by decide +kernel
theorem ne_innermost_blocks_mark : ¬ (("innermost_blocks" : Str) = "mark") := by decide +kernel
theorem ne_innermost_blocks_rule : ¬ (("innermost_blocks" : Str) = "rule") := by decide +kernel
theorem ne_innermost_blocks_size : ¬ (("innermost_blocks" : Str) = "size") := by decide +kernel
theorem ne_innermost_blocks_store : ¬ (("innermost_blocks" : Str) = "store") := by decide +kernel
theorem ne_innermost_blocks_walks : ¬ (("innermost_blocks" : Str) = "walks") := by decide +kernel
theorem ne_mark_blocks : ¬ (("mark" : Str) = "blocks") := by decide +kernel
theorem ne_mark_depth : ¬ (("mark" : Str) = "depth") := by decide +kernel
theorem ne_mark_rule : ¬ (("mark" : Str) = "rule") := by decide +kernel
theorem ne_mark_size : ¬ (("mark" : Str) = "size") := by decide +kernel
theorem ne_mark_store : ¬ (("mark" : Str) = "store") := by decide +kernel
theorem ne_mark_walks : ¬ (("mark" : Str) = "walks") := by decide +kernel
theorem ne_n_address : ¬ (("n" : Str) = "address") := by decide +kernel
theorem ne_n_alignment : ¬ (("n" : Str) = "alignment") := by decide +kernel
theorem ne_n_group : ¬ (("n" : Str) = "group") := by decide +kernel
theorem ne_pack_blocks : ¬ (("pack" : Str) = "blocks") := by decide +kernel
theorem ne_pack_depth : ¬ (("pack" : Str) = "depth") := by decide +kernel
theorem ne_pack_mark : ¬ (("pack" : Str) = "mark") := by decide +kernel
theorem ne_pack_rule : ¬ (("pack" : Str) = "rule") := by decide +kernel
theorem ne_pack_size : ¬ (("pack" : Str) = "size") := by decide +kernel
theorem ne_pack_store : ¬ (("pack" : Str) = "store") := by decide +kernel
theorem ne_pack_walks : ¬ (("pack" : Str) = "walks") := by decide +kernel
theorem ne_put_blocks : ¬ (("put" : Str) = "blocks") := by decide +kernel
theorem ne_put_depth : ¬ (("put" : Str) = "depth") := by decide +kernel
theorem ne_put_mark : ¬ (("put" : Str) = "mark") := by decide +kernel
theorem ne_put_rule : ¬ (("put" : Str) = "rule") := by decide +kernel
theorem ne_put_size : ¬ (("put" : Str) = "size") := by decide +kernel
theorem ne_put_store : ¬ (("put" : Str) = "store") := by decide +kernel
theorem ne_put_walks : ¬ (("put" : Str) = "walks") := by decide +kernel
theorem ne_rows_blocks : ¬ (("rows" : Str) = "blocks") := by decide +kernel
theorem ne_rows_depth : ¬ (("rows" : Str) = "depth") := by decide +kernel
theorem ne_rows_mark : ¬ (("rows" : Str) = "mark") := by decide +kernel
theorem ne_rows_rule : ¬ (("rows" : Str) = "rule") := by decide +kernel
theorem ne_rows_size : ¬ (("rows" : Str) = "size") := by decide +kernel
theorem ne_rows_store : ¬ (("rows" : Str) = "store") := by decide +kernel
theorem ne_rows_walks : ¬ (("rows" : Str) = "walks") := by decide +kernel
theorem ne_rows_without_blocks : ¬ (("rows_without" : Str) = "blocks") := by decide +kernel
theorem ne_rows_without_depth : ¬ (("rows_without" : Str) = "depth") := by decide +kernel
theorem ne_rows_without_mark : ¬ (("rows_without" : Str) = "mark") := by decide +kernel
theorem ne_rows_without_rule : ¬ (("rows_without" : Str) = "rule") := by decide +kernel
theorem ne_rows_without_size : ¬ (("rows_without" : Str) = "size") := by decide +kernel
theorem ne_rows_without_store : ¬ (("rows_without" : Str) = "store") := by decide +kernel
theorem ne_rows_without_walks : ¬ (("rows_without" : Str) = "walks") := by decide +kernel
theorem ne_rule_blocks : ¬ (("rule" : Str) = "blocks") := by decide +kernel
theorem ne_rule_depth : ¬ (("rule" : Str) = "depth") := by decide +kernel
theorem ne_rule_mark : ¬ (("rule" : Str) = "mark") := by decide +kernel
theorem ne_rule_size : ¬ (("rule" : Str) = "size") := by decide +kernel
theorem ne_rule_store : ¬ (("rule" : Str) = "store") := by decide +kernel
theorem ne_rule_walks : ¬ (("rule" : Str) = "walks") := by decide +kernel
theorem ne_settle_blocks : ¬ (("settle" : Str) = "blocks") := by decide +kernel
theorem ne_settle_depth : ¬ (("settle" : Str) = "depth") := by decide +kernel
theorem ne_settle_mark : ¬ (("settle" : Str) = "mark") := by decide +kernel
theorem ne_settle_rule : ¬ (("settle" : Str) = "rule") := by decide +kernel
theorem ne_settle_size : ¬ (("settle" : Str) = "size") := by decide +kernel
theorem ne_settle_store : ¬ (("settle" : Str) = "store") := by decide +kernel
theorem ne_settle_walks : ¬ (("settle" : Str) = "walks") := by decide +kernel
theorem ne_size_blocks : ¬ (("size" : Str) = "blocks") := by decide +kernel
theorem ne_size_depth : ¬ (("size" : Str) = "depth") := by decide +kernel
theorem ne_size_mark : ¬ (("size" : Str) = "mark") := by decide +kernel
theorem ne_size_rule : ¬ (("size" : Str) = "rule") := by decide +kernel
theorem ne_size_store : ¬ (("size" : Str) = "store") := by decide +kernel
theorem ne_size_walks : ¬ (("size" : Str) = "walks") := by decide +kernel
theorem ne_store_blocks : ¬ (("store" : Str) = "blocks") := by decide +kernel
theorem ne_store_depth : ¬ (("store" : Str) = "depth") := by decide +kernel
theorem ne_store_mark : ¬ (("store" : Str) = "mark") := by decide +kernel
theorem ne_store_rule : ¬ (("store" : Str) = "rule") := by decide +kernel
theorem ne_store_size : ¬ (("store" : Str) = "size") := by decide +kernel
theorem ne_store_walks : ¬ (("store" : Str) = "walks") := by decide +kernel
theorem ne_walks_blocks : ¬ (("walks" : Str) = "blocks") := by decide +kernel
theorem ne_walks_depth : ¬ (("walks" : Str) = "depth") := by decide +kernel
theorem ne_walks_mark : ¬ (("walks" : Str) = "mark") := by decide +kernel
theorem ne_walks_rule : ¬ (("walks" : Str) = "rule") := by decide +kernel
theorem ne_walks_size : ¬ (("walks" : Str) = "size") := by decide +kernel
theorem ne_walks_store : ¬ (("walks" : Str) = "store") := by decide +kernel
def bkF (address n alignment group : Int) : List (Str × V) := [("address", .int address), ("n", .int n), ("alignment", .int alignment), ("group", .int group)]
theorem bkF_address (address n alignment group : Int) : (bkF address n alignment group).lookup ("address" : Str) = some (.int address) := by
  unfold bkF
  rw [lk_hit]
theorem bkF_put_address (address n alignment group : Int) (y : V) : putF "address" y (bkF address n alignment group) = ([("address", y), ("n", .int n), ("alignment", .int alignment), ("group", .int group)] : List (Str × V)) := by
  unfold bkF
  rw [pf_hit]
theorem bkF_n (address n alignment group : Int) : (bkF address n alignment group).lookup ("n" : Str) = some (.int n) := by
  unfold bkF
  rw [lk_miss ne_n_address, lk_hit]
theorem bkF_put_n (address n alignment group : Int) (y : V) : putF "n" y (bkF address n alignment group) = ([("address", .int address), ("n", y), ("alignment", .int alignment), ("group", .int group)] : List (Str × V)) := by
  unfold bkF
  rw [pf_miss ne_address_n, pf_hit]
theorem bkF_alignment (address n alignment group : Int) : (bkF address n alignment group).lookup ("alignment" : Str) = some (.int alignment) := by
  unfold bkF
  rw [lk_miss ne_alignment_address, lk_miss ne_alignment_n, lk_hit]
theorem bkF_put_alignment (address n alignment group : Int) (y : V) : putF "alignment" y (bkF address n alignment group) = ([("address", .int address), ("n", .int n), ("alignment", y), ("group", .int group)] : List (Str × V)) := by
  unfold bkF
  rw [pf_miss ne_address_alignment, pf_miss ne_n_alignment, pf_hit]
theorem bkF_group (address n alignment group : Int) : (bkF address n alignment group).lookup ("group" : Str) = some (.int group) := by
  unfold bkF
  rw [lk_miss ne_group_address, lk_miss ne_group_n, lk_miss ne_group_alignment, lk_hit]
theorem bkF_put_group (address n alignment group : Int) (y : V) : putF "group" y (bkF address n alignment group) = ([("address", .int address), ("n", .int n), ("alignment", .int alignment), ("group", y)] : List (Str × V)) := by
  unfold bkF
  rw [pf_miss ne_address_group, pf_miss ne_n_group, pf_miss ne_alignment_group, pf_hit]
theorem bkF_new0 (v0 : V) : putF "address" v0 ([] : List (Str × V)) = ([("address", v0)] : List (Str × V)) := by
  rfl
theorem bkF_new1 (v0 v1 : V) : putF "n" v1 ([("address", v0)] : List (Str × V)) = ([("address", v0), ("n", v1)] : List (Str × V)) := by
  rw [pf_miss ne_address_n]
  rfl
theorem bkF_new2 (v0 v1 v2 : V) : putF "alignment" v2 ([("address", v0), ("n", v1)] : List (Str × V)) = ([("address", v0), ("n", v1), ("alignment", v2)] : List (Str × V)) := by
  rw [pf_miss ne_address_alignment, pf_miss ne_n_alignment]
  rfl
theorem bkF_new3 (v0 v1 v2 v3 : V) : putF "group" v3 ([("address", v0), ("n", v1), ("alignment", v2)] : List (Str × V)) = ([("address", v0), ("n", v1), ("alignment", v2), ("group", v3)] : List (Str × V)) := by
  rw [pf_miss ne_address_group, pf_miss ne_n_group, pf_miss ne_alignment_group]
  rfl
def rwF (first «end» : Int) : List (Str × V) := [("first", .int first), ("end", .int «end»)]
theorem rwF_first (first «end» : Int) : (rwF first «end»).lookup ("first" : Str) = some (.int first) := by
  unfold rwF
  rw [lk_hit]
theorem rwF_put_first (first «end» : Int) (y : V) : putF "first" y (rwF first «end») = ([("first", y), ("end", .int «end»)] : List (Str × V)) := by
  unfold rwF
  rw [pf_hit]
theorem rwF_end (first «end» : Int) : (rwF first «end»).lookup ("end" : Str) = some (.int «end») := by
  unfold rwF
  rw [lk_miss ne_end_first, lk_hit]
theorem rwF_put_end (first «end» : Int) (y : V) : putF "end" y (rwF first «end») = ([("first", .int first), ("end", y)] : List (Str × V)) := by
  unfold rwF
  rw [pf_miss ne_first_end, pf_hit]
theorem rwF_new0 (v0 : V) : putF "first" v0 ([] : List (Str × V)) = ([("first", v0)] : List (Str × V)) := by
  rfl
theorem rwF_new1 (v0 v1 : V) : putF "end" v1 ([("first", v0)] : List (Str × V)) = ([("first", v0), ("end", v1)] : List (Str × V)) := by
  rw [pf_miss ne_first_end]
  rfl
def gdF (size rule : Int) (store blocks : Addr) (depth mark : Int) (walks : Addr) : List (Str × V) := [("size", .int size), ("rule", .int rule), ("store", .ref store), ("blocks", .ref blocks), ("depth", .int depth), ("mark", .int mark), ("walks", .ref walks)]
theorem gdF_size (size rule : Int) (store blocks : Addr) (depth mark : Int) (walks : Addr) : (gdF size rule store blocks depth mark walks).lookup ("size" : Str) = some (.int size) := by
  unfold gdF
  rw [lk_hit]
theorem gdF_put_size (size rule : Int) (store blocks : Addr) (depth mark : Int) (walks : Addr) (y : V) : putF "size" y (gdF size rule store blocks depth mark walks) = ([("size", y), ("rule", .int rule), ("store", .ref store), ("blocks", .ref blocks), ("depth", .int depth), ("mark", .int mark), ("walks", .ref walks)] : List (Str × V)) := by
  unfold gdF
  rw [pf_hit]
theorem gdF_rule (size rule : Int) (store blocks : Addr) (depth mark : Int) (walks : Addr) : (gdF size rule store blocks depth mark walks).lookup ("rule" : Str) = some (.int rule) := by
  unfold gdF
  rw [lk_miss ne_rule_size, lk_hit]
theorem gdF_put_rule (size rule : Int) (store blocks : Addr) (depth mark : Int) (walks : Addr) (y : V) : putF "rule" y (gdF size rule store blocks depth mark walks) = ([("size", .int size), ("rule", y), ("store", .ref store), ("blocks", .ref blocks), ("depth", .int depth), ("mark", .int mark), ("walks", .ref walks)] : List (Str × V)) := by
  unfold gdF
  rw [pf_miss ne_size_rule, pf_hit]
theorem gdF_store (size rule : Int) (store blocks : Addr) (depth mark : Int) (walks : Addr) : (gdF size rule store blocks depth mark walks).lookup ("store" : Str) = some (.ref store) := by
  unfold gdF
  rw [lk_miss ne_store_size, lk_miss ne_store_rule, lk_hit]
theorem gdF_put_store (size rule : Int) (store blocks : Addr) (depth mark : Int) (walks : Addr) (y : V) : putF "store" y (gdF size rule store blocks depth mark walks) = ([("size", .int size), ("rule", .int rule), ("store", y), ("blocks", .ref blocks), ("depth", .int depth), ("mark", .int mark), ("walks", .ref walks)] : List (Str × V)) := by
  unfold gdF
  rw [pf_miss ne_size_store, pf_miss ne_rule_store, pf_hit]
theorem gdF_blocks (size rule : Int) (store blocks : Addr) (depth mark : Int) (walks : Addr) : (gdF size rule store blocks depth mark walks).lookup ("blocks" : Str) = some (.ref blocks) := by
  unfold gdF
  rw [lk_miss ne_blocks_size, lk_miss ne_blocks_rule, lk_miss ne_blocks_store, lk_hit]
theorem gdF_put_blocks (size rule : Int) (store blocks : Addr) (depth mark : Int) (walks : Addr) (y : V) : putF "blocks" y (gdF size rule store blocks depth mark walks) = ([("size", .int size), ("rule", .int rule), ("store", .ref store), ("blocks", y), ("depth", .int depth), ("mark", .int mark), ("walks", .ref walks)] : List (Str × V)) := by
  unfold gdF
  rw [pf_miss ne_size_blocks, pf_miss ne_rule_blocks, pf_miss ne_store_blocks, pf_hit]
theorem gdF_depth (size rule : Int) (store blocks : Addr) (depth mark : Int) (walks : Addr) : (gdF size rule store blocks depth mark walks).lookup ("depth" : Str) = some (.int depth) := by
  unfold gdF
  rw [lk_miss ne_depth_size, lk_miss ne_depth_rule, lk_miss ne_depth_store, lk_miss ne_depth_blocks, lk_hit]
theorem gdF_put_depth (size rule : Int) (store blocks : Addr) (depth mark : Int) (walks : Addr) (y : V) : putF "depth" y (gdF size rule store blocks depth mark walks) = ([("size", .int size), ("rule", .int rule), ("store", .ref store), ("blocks", .ref blocks), ("depth", y), ("mark", .int mark), ("walks", .ref walks)] : List (Str × V)) := by
  unfold gdF
  rw [pf_miss ne_size_depth, pf_miss ne_rule_depth, pf_miss ne_store_depth, pf_miss ne_blocks_depth, pf_hit]
theorem gdF_mark (size rule : Int) (store blocks : Addr) (depth mark : Int) (walks : Addr) : (gdF size rule store blocks depth mark walks).lookup ("mark" : Str) = some (.int mark) := by
  unfold gdF
  rw [lk_miss ne_mark_size, lk_miss ne_mark_rule, lk_miss ne_mark_store, lk_miss ne_mark_blocks, lk_miss ne_mark_depth, lk_hit]
theorem gdF_put_mark (size rule : Int) (store blocks : Addr) (depth mark : Int) (walks : Addr) (y : V) : putF "mark" y (gdF size rule store blocks depth mark walks) = ([("size", .int size), ("rule", .int rule), ("store", .ref store), ("blocks", .ref blocks), ("depth", .int depth), ("mark", y), ("walks", .ref walks)] : List (Str × V)) := by
  unfold gdF
  rw [pf_miss ne_size_mark, pf_miss ne_rule_mark, pf_miss ne_store_mark, pf_miss ne_blocks_mark, pf_miss ne_depth_mark, pf_hit]
theorem gdF_walks (size rule : Int) (store blocks : Addr) (depth mark : Int) (walks : Addr) : (gdF size rule store blocks depth mark walks).lookup ("walks" : Str) = some (.ref walks) := by
  unfold gdF
  rw [lk_miss ne_walks_size, lk_miss ne_walks_rule, lk_miss ne_walks_store, lk_miss ne_walks_blocks, lk_miss ne_walks_depth, lk_miss ne_walks_mark, lk_hit]
theorem gdF_put_walks (size rule : Int) (store blocks : Addr) (depth mark : Int) (walks : Addr) (y : V) : putF "walks" y (gdF size rule store blocks depth mark walks) = ([("size", .int size), ("rule", .int rule), ("store", .ref store), ("blocks", .ref blocks), ("depth", .int depth), ("mark", .int mark), ("walks", y)] : List (Str × V)) := by
  unfold gdF
  rw [pf_miss ne_size_walks, pf_miss ne_rule_walks, pf_miss ne_store_walks, pf_miss ne_blocks_walks, pf_miss ne_depth_walks, pf_miss ne_mark_walks, pf_hit]
theorem gdF_no_begin (size rule : Int) (store blocks : Addr) (depth mark : Int) (walks : Addr) : (gdF size rule store blocks depth mark walks).lookup ("begin" : Str) = none := by
  unfold gdF
  rw [lk_miss ne_begin_size, lk_miss ne_begin_rule, lk_miss ne_begin_store, lk_miss ne_begin_blocks, lk_miss ne_begin_depth, lk_miss ne_begin_mark, lk_miss ne_begin_walks]
  rfl
theorem gdF_no_blocks_in_order (size rule : Int) (store blocks : Addr) (depth mark : Int) (walks : Addr) : (gdF size rule store blocks depth mark walks).lookup ("blocks_in_order" : Str) = none := by
  unfold gdF
  rw [lk_miss ne_blocks_in_order_size, lk_miss ne_blocks_in_order_rule, lk_miss ne_blocks_in_order_store, lk_miss ne_blocks_in_order_blocks, lk_miss ne_blocks_in_order_depth, lk_miss ne_blocks_in_order_mark, lk_miss ne_blocks_in_order_walks]
  rfl
theorem gdF_no_innermost_blocks (size rule : Int) (store blocks : Addr) (depth mark : Int) (walks : Addr) : (gdF size rule store blocks depth mark walks).lookup ("innermost_blocks" : Str) = none := by
  unfold gdF
  rw [lk_miss ne_innermost_blocks_size, lk_miss ne_innermost_blocks_rule, lk_miss ne_innermost_blocks_store, lk_miss ne_innermost_blocks_blocks, lk_miss ne_innermost_blocks_depth, lk_miss ne_innermost_blocks_mark, lk_miss ne_innermost_blocks_walks]
  rfl
theorem gdF_no_address_from (size rule : Int) (store blocks : Addr) (depth mark : Int) (walks : Addr) : (gdF size rule store blocks depth mark walks).lookup ("address_from" : Str) = none := by
  unfold gdF
  rw [lk_miss ne_address_from_size, lk_miss ne_address_from_rule, lk_miss ne_address_from_store, lk_miss ne_address_from_blocks, lk_miss ne_address_from_depth, lk_miss ne_address_from_mark, lk_miss ne_address_from_walks]
  rfl
theorem gdF_no_rows (size rule : Int) (store blocks : Addr) (depth mark : Int) (walks : Addr) : (gdF size rule store blocks depth mark walks).lookup ("rows" : Str) = none := by
  unfold gdF
  rw [lk_miss ne_rows_size, lk_miss ne_rows_rule, lk_miss ne_rows_store, lk_miss ne_rows_blocks, lk_miss ne_rows_depth, lk_miss ne_rows_mark, lk_miss ne_rows_walks]
  rfl
theorem gdF_no_rows_without (size rule : Int) (store blocks : Addr) (depth mark : Int) (walks : Addr) : (gdF size rule store blocks depth mark walks).lookup ("rows_without" : Str) = none := by
  unfold gdF
  rw [lk_miss ne_rows_without_size, lk_miss ne_rows_without_rule, lk_miss ne_rows_without_store, lk_miss ne_rows_without_blocks, lk_miss ne_rows_without_depth, lk_miss ne_rows_without_mark, lk_miss ne_rows_without_walks]
  rfl
theorem gdF_no_settle (size rule : Int) (store blocks : Addr) (depth mark : Int) (walks : Addr) : (gdF size rule store blocks depth mark walks).lookup ("settle" : Str) = none := by
  unfold gdF
  rw [lk_miss ne_settle_size, lk_miss ne_settle_rule, lk_miss ne_settle_store, lk_miss ne_settle_blocks, lk_miss ne_settle_depth, lk_miss ne_settle_mark, lk_miss ne_settle_walks]
  rfl
theorem gdF_no_bytes_from (size rule : Int) (store blocks : Addr) (depth mark : Int) (walks : Addr) : (gdF size rule store blocks depth mark walks).lookup ("bytes_from" : Str) = none := by
  unfold gdF
  rw [lk_miss ne_bytes_from_size, lk_miss ne_bytes_from_rule, lk_miss ne_bytes_from_store, lk_miss ne_bytes_from_blocks, lk_miss ne_bytes_from_depth, lk_miss ne_bytes_from_mark, lk_miss ne_bytes_from_walks]
  rfl
theorem gdF_no_put (size rule : Int) (store blocks : Addr) (depth mark : Int) (walks : Addr) : (gdF size rule store blocks depth mark walks).lookup ("put" : Str) = none := by
  unfold gdF
  rw [lk_miss ne_put_size, lk_miss ne_put_rule, lk_miss ne_put_store, lk_miss ne_put_blocks, lk_miss ne_put_depth, lk_miss ne_put_mark, lk_miss ne_put_walks]
  rfl
theorem gdF_no_pack (size rule : Int) (store blocks : Addr) (depth mark : Int) (walks : Addr) : (gdF size rule store blocks depth mark walks).lookup ("pack" : Str) = none := by
  unfold gdF
  rw [lk_miss ne_pack_size, lk_miss ne_pack_rule, lk_miss ne_pack_store, lk_miss ne_pack_blocks, lk_miss ne_pack_depth, lk_miss ne_pack_mark, lk_miss ne_pack_walks]
  rfl
theorem gdF_new0 (v0 : V) : putF "size" v0 ([] : List (Str × V)) = ([("size", v0)] : List (Str × V)) := by
  rfl
theorem gdF_new1 (v0 v1 : V) : putF "rule" v1 ([("size", v0)] : List (Str × V)) = ([("size", v0), ("rule", v1)] : List (Str × V)) := by
  rw [pf_miss ne_size_rule]
  rfl
theorem gdF_new2 (v0 v1 v2 : V) : putF "store" v2 ([("size", v0), ("rule", v1)] : List (Str × V)) = ([("size", v0), ("rule", v1), ("store", v2)] : List (Str × V)) := by
  rw [pf_miss ne_size_store, pf_miss ne_rule_store]
  rfl
theorem gdF_new3 (v0 v1 v2 v3 : V) : putF "blocks" v3 ([("size", v0), ("rule", v1), ("store", v2)] : List (Str × V)) = ([("size", v0), ("rule", v1), ("store", v2), ("blocks", v3)] : List (Str × V)) := by
  rw [pf_miss ne_size_blocks, pf_miss ne_rule_blocks, pf_miss ne_store_blocks]
  rfl
theorem gdF_new4 (v0 v1 v2 v3 v4 : V) : putF "depth" v4 ([("size", v0), ("rule", v1), ("store", v2), ("blocks", v3)] : List (Str × V)) = ([("size", v0), ("rule", v1), ("store", v2), ("blocks", v3), ("depth", v4)] : List (Str × V)) := by
  rw [pf_miss ne_size_depth, pf_miss ne_rule_depth, pf_miss ne_store_depth, pf_miss ne_blocks_depth]
  rfl
theorem gdF_new5 (v0 v1 v2 v3 v4 v5 : V) : putF "mark" v5 ([("size", v0), ("rule", v1), ("store", v2), ("blocks", v3), ("depth", v4)] : List (Str × V)) = ([("size", v0), ("rule", v1), ("store", v2), ("blocks", v3), ("depth", v4), ("mark", v5)] : List (Str × V)) := by
  rw [pf_miss ne_size_mark, pf_miss ne_rule_mark, pf_miss ne_store_mark, pf_miss ne_blocks_mark, pf_miss ne_depth_mark]
  rfl
theorem gdF_new6 (v0 v1 v2 v3 v4 v5 v6 : V) : putF "walks" v6 ([("size", v0), ("rule", v1), ("store", v2), ("blocks", v3), ("depth", v4), ("mark", v5)] : List (Str × V)) = ([("size", v0), ("rule", v1), ("store", v2), ("blocks", v3), ("depth", v4), ("mark", v5), ("walks", v6)] : List (Str × V)) := by
  rw [pf_miss ne_size_walks, pf_miss ne_rule_walks, pf_miss ne_store_walks, pf_miss ne_blocks_walks, pf_miss ne_depth_walks, pf_miss ne_mark_walks]
  rfl
end Gp

set_option Elab.async false
set_option linter.all false
set_option maxRecDepth 100000
set_option maxHeartbeats 4000000
/-! What stands for blocks and rows; the small defs. -/
namespace Gp
open PySem PySem.Spec PyProof.Rows L2

/-! ### lists -/
theorem map_get {α β : Type} {f : α → β} {l : List α} {i : Nat} {y : β} (h : (l.map f)[i]? = some y) : ∃ x, l[i]? = some x ∧ y = f x := by
  rw [List.getElem?_map] at h
  cases e : l[i]? with
  | none =>
    rw [e] at h
    cases h
  | some x =>
    rw [e] at h
    exact ⟨x, rfl, (Option.some.inj h).symm⟩
theorem drop_get {α : Type} : ∀ {l : List α} {i : Nat} {x : α}, l[i]? = some x → l.drop i = x :: l.drop (i + 1)
  | [], i, x, h => by simp at h
  | a :: l, 0, x, h => by
    have e : a = x := Option.some.inj h
    rw [e]
    rfl
  | a :: l, i + 1, x, h => by
    have ih := drop_get (l := l) (i := i) (x := x) h
    exact ih
theorem take_get {α : Type} : ∀ {l : List α} {i : Nat} {x : α}, l[i]? = some x → l.take (i + 1) = l.take i ++ [x]
  | [], i, x, h => by simp at h
  | a :: l, 0, x, h => by
    have e : a = x := Option.some.inj h
    rw [← e]
    rfl
  | a :: l, i + 1, x, h => by
    have ih := take_get (l := l) (i := i) (x := x) h
    show a :: l.take (i + 1) = a :: l.take i ++ [x]
    rw [ih]
    rfl
theorem get_lt {α : Type} {l : List α} {i : Nat} {x : α} (h : l[i]? = some x) : i < l.length := (List.getElem?_eq_some_iff.mp h).1
/-- two lists beside each other -/
def Al {α : Type} (F : Addr → α → Prop) (as : List Addr) (xs : List α) : Prop := as.length = xs.length ∧ ∀ (i : Nat) (a : Addr) (x : α), as[i]? = some a → xs[i]? = some x → F a x
theorem Al.nil {α : Type} {F : Addr → α → Prop} : Al F [] [] := ⟨rfl, fun i a x h => by simp at h⟩
theorem Al.imp {α : Type} {F G : Addr → α → Prop} {as : List Addr} {xs : List α} (h : Al F as xs) (f : ∀ a x, F a x → G a x) : Al G as xs := ⟨h.1, fun i a x h1 h2 => f a x (h.2 i a x h1 h2)⟩
theorem Al.get {α : Type} {F : Addr → α → Prop} {as : List Addr} {xs : List α} {i : Nat} {a : Addr} (h : Al F as xs) (e : as[i]? = some a) : ∃ x, xs[i]? = some x ∧ F a x := by
  have hi : i < xs.length := by rw [← h.1]; exact get_lt e
  exact ⟨xs[i], List.getElem?_eq_getElem hi, h.2 i a _ e (List.getElem?_eq_getElem hi)⟩
theorem Al.snoc {α : Type} {F : Addr → α → Prop} {as : List Addr} {xs : List α} {a : Addr} {x : α} (h : Al F as xs) (f : F a x) : Al F (as ++ [a]) (xs ++ [x]) := by
  refine ⟨by rw [List.length_append, List.length_append, h.1]; rfl, fun i b y h1 h2 => ?_⟩
  by_cases hi : i < as.length
  · rw [List.getElem?_append_left hi] at h1
    rw [List.getElem?_append_left (by rw [← h.1]; exact hi)] at h2
    exact h.2 i b y h1 h2
  · rw [List.getElem?_append_right (by omega)] at h1
    rw [List.getElem?_append_right (by rw [← h.1]; omega), ← h.1] at h2
    match i - as.length, h1, h2 with
    | 0, h1, h2 =>
      have e1 : a = b := Option.some.inj h1
      have e2 : x = y := Option.some.inj h2
      rw [← e1, ← e2]
      exact f
    | n + 1, h1, h2 => simp at h1

/-! ### what stands for a block, a row, a list of rows -/
def BA (t : Adr) (H : Hp) (a : Addr) (b : Gk.Block) : Prop := ∃ dx, H a = some (.ins t.c_Block dx (bkF b.at_ b.n b.align b.group))
def RA (t : Adr) (H : Hp) (a : Addr) (r : Gk.Row) : Prop := ∃ dx, H a = some (.ins t.c_Row dx (rwF r.1 r.2))
def RsA (t : Adr) (H : Hp) (l : Addr) (rs : List Gk.Row) : Prop := ∃ as : List Addr, H l = some (.lst (as.map V.ref)) ∧ Al (RA t H) as rs
def optV : Option Nat → V
  | none => .non
  | some n => .int n
theorem BA.same {t : Adr} {H H' : Hp} {a : Addr} {b : Gk.Block} (s : Same H H') (h : BA t H a b) : BA t H' a b := let ⟨dx, e⟩ := h; ⟨dx, s _ _ e⟩
theorem RA.same {t : Adr} {H H' : Hp} {a : Addr} {r : Gk.Row} (s : Same H H') (h : RA t H a r) : RA t H' a r := let ⟨dx, e⟩ := h; ⟨dx, s _ _ e⟩
theorem RsA.same {t : Adr} {H H' : Hp} {l : Addr} {rs : List Gk.Row} (s : Same H H') (h : RsA t H l rs) : RsA t H' l rs := let ⟨as, e, f⟩ := h; ⟨as, s _ _ e, f.imp fun _ _ q => q.same s⟩
theorem _root_.L2.Same.new {H : Hp} {p : Addr} {o : HO} (h : H p = none) : Same H (upd H p o) := fun b u e => by
  rw [upd_ne (ne_of_none e h)]
  exact e
theorem _root_.L2.Same.upd {H H1 : Hp} {p : Addr} {o : HO} (s : Same H H1) (h : H p = none) : Same H (L2.upd H1 p o) := fun b u e => by
  rw [upd_ne (ne_of_none e h)]
  exact s b u e
theorem fl {f : Str} {v : V} {fs : List (Str × V)} {k : Nat} (h : fs.length ≤ k) : (putF f v fs).length ≤ k + 1 := Nat.le_trans (length_putF f v fs) (Nat.succ_le_succ h)
theorem few {fs : List (Str × V)} {k : Nat} (h : fs.length ≤ k) (hk : k < 1000 := by decide) : fs.length < 1000 := Nat.lt_of_le_of_lt h hk
theorem halt_int (b : Gk.Block) : (b.at_ : Int) + ((max b.n 1 : Nat) : Int) = (b.halt_ : Int) := by
  unfold Gk.Block.halt_ Gk.Block.reach
  omega
theorem one_max (n : Nat) : (if (1 : Int) > (n : Int) then (1 : Int) else (n : Int)) = ((max n 1 : Nat) : Int) := Gk.max_int n 1

/-! ### promises -/
def sp_Block_init (t : Adr) : Sp := fun vs H Q _ => ∃ (p dx : Addr) (b : Gk.Block), vs = [.ref p, .int b.at_, .int b.n, .int b.align, .int b.group] ∧ H p = some (.ins t.c_Block dx []) ∧
  ∀ H' : Hp, BA t H' p b → (∀ c o, H c = some o → c ≠ p → H' c = some o) → Q .non H'
def sp_Row_init (t : Adr) : Sp := fun vs H Q _ => ∃ (p dx : Addr) (r : Gk.Row), vs = [.ref p, .int r.1, .int r.2] ∧ H p = some (.ins t.c_Row dx []) ∧
  ∀ H' : Hp, RA t H' p r → (∀ c o, H c = some o → c ≠ p → H' c = some o) → Q .non H'
def sp_reach_of : Sp := fun vs H Q _ => ∃ n : Nat, vs = [.int n] ∧ Q (.int ((max n 1 : Nat) : Int)) H
def sp_place_behind (t : Adr) : Sp := fun vs H Q _ => ∃ (a : Addr) (b : Gk.Block), vs = [.ref a] ∧ BA t H a b ∧ Q (.int b.halt_) H
def sp_row_length (t : Adr) : Sp := fun vs H Q _ => ∃ (a : Addr) (r : Gk.Row), vs = [.ref a] ∧ RA t H a r ∧ Q (.int ((r.2 : Int) - (r.1 : Int))) H
def sp_least_multiple : Sp := fun vs H Q _ => ∃ p a : Nat, vs = [.int p, .int a] ∧ 1 ≤ a ∧ a ≤ 256 ∧ Q (.int (Gk.up a p)) H
def sp_least_in_row (t : Adr) : Sp := fun vs H Q _ => ∃ (a : Addr) (r : Gk.Row) (k al m : Nat), vs = [.ref a, .int k, .int al, .int m] ∧ RA t H a r ∧ 1 ≤ al ∧ al ≤ 256 ∧ Q (optV (Gk.lowIn k al (max r.1 m, r.2))) H
def sp_greatest_in_row (t : Adr) : Sp := fun vs H Q _ => ∃ (a : Addr) (r : Gk.Row) (k al : Nat), vs = [.ref a, .int k, .int al] ∧ RA t H a r ∧ 1 ≤ al ∧ al ≤ 256 ∧ 1 ≤ k ∧ Q (optV (Gk.highIn k al r)) H
def sp_has_bytes (t : Adr) : Sp := fun vs H Q _ => ∃ (a : Addr) (b : Gk.Block) (i k : Nat), vs = [.ref a, .int i, .int k] ∧ BA t H a b ∧ Q (.bl (decide (i + k ≤ b.n))) H

section
variable {P : Program} {w : World} {K : PySem.W.Frag} {mg : Str → Option Value} {base : Heap} {t : Adr}
theorem ok_Block_init (T : Txt P w K mg t) : FnOk P w K mg base CX0 1 t.f_Block_init t.d_Block_init ["self", "address", "n", "alignment", "group"] (sp_Block_init t) := by
  refine T.F_Block_init.ok sc_Block_init (fun vs H Q E h => ?_) (fun cdv A outer s H vs Q E hr h => ?_)
  · obtain ⟨p, dx, b, rfl, _⟩ := h
    rfl
  · obtain ⟨p, dx, b, rfl, hp, k⟩ := h
    refine ⟨_, (pss_cons (ps_fld (pv 0) (pv 1) rfl)
      (pss_cons (ps_fld (pv 0) (pv 2) rfl)
      (pss_cons (ps_fld (pv 0) (pv 3) rfl)
      (pss_one (ps_fld (pv 0) (pv 4) rfl))))), ?_⟩
    refine ⟨_, rfl, _, rfl, p, t.c_Block, dx, [], rfl, hp, T.C_Block, T.n_Block_address, few (Nat.le_refl 0), ?_⟩
    refine ⟨_, rfl, _, rfl, p, t.c_Block, dx, _, rfl, upd_same, T.C_Block, T.n_Block_n, few (fl (Nat.le_refl 0)), ?_⟩
    refine ⟨_, rfl, _, rfl, p, t.c_Block, dx, _, rfl, upd_same, T.C_Block, T.n_Block_alignment, few (fl (fl (Nat.le_refl 0))), ?_⟩
    refine ⟨_, rfl, _, rfl, p, t.c_Block, dx, _, rfl, upd_same, T.C_Block, T.n_Block_group, few (fl (fl (fl (Nat.le_refl 0)))), ?_⟩
    refine k _ ⟨dx, ?_⟩ fun c o e hc => by rw [upd_ne hc, upd_ne hc, upd_ne hc, upd_ne hc]; exact e
    rw [upd_same, bkF_new0, bkF_new1, bkF_new2, bkF_new3]
    rfl
theorem ok_Row_init (T : Txt P w K mg t) : FnOk P w K mg base CX0 1 t.f_Row_init t.d_Row_init ["self", "first", "end"] (sp_Row_init t) := by
  refine T.F_Row_init.ok sc_Row_init (fun vs H Q E h => ?_) (fun cdv A outer s H vs Q E hr h => ?_)
  · obtain ⟨p, dx, b, rfl, _⟩ := h
    rfl
  · obtain ⟨p, dx, b, rfl, hp, k⟩ := h
    refine ⟨_, (pss_cons (ps_fld (pv 0) (pv 1) rfl)
      (pss_one (ps_fld (pv 0) (pv 2) rfl))), ?_⟩
    refine ⟨_, rfl, _, rfl, p, t.c_Row, dx, [], rfl, hp, T.C_Row, T.n_Row_first, few (Nat.le_refl 0), ?_⟩
    refine ⟨_, rfl, _, rfl, p, t.c_Row, dx, _, rfl, upd_same, T.C_Row, T.n_Row_end, few (fl (Nat.le_refl 0)), ?_⟩
    refine k _ ⟨dx, ?_⟩ fun c o e hc => by rw [upd_ne hc, upd_ne hc]; exact e
    rw [upd_same, rwF_new0, rwF_new1]
    rfl
theorem ok_reach_of (T : Txt P w K mg t) : FnOk P w K mg base CX0 1 t.f_reach_of t.d_reach_of ["n"] sp_reach_of := by
  refine T.F_reach_of.ok sc_reach_of (fun vs H Q E h => ?_) (fun cdv A outer s H vs Q E hr h => ?_)
  · obtain ⟨n, rfl, _⟩ := h
    rfl
  · obtain ⟨n, rfl, k⟩ := h
    refine ⟨_, (pss_one (ps_ret (pe_callB (call_max2 rfl) (by rfl) T.b_max boot_max (pa_cons (pv 0) (pa_cons pe_int pa_nil))))), ?_⟩
    refine ⟨_, rfl, _, _, rfl, ?_⟩
    rw [← one_max] at k
    exact k
theorem ok_place_behind (T : Txt P w K mg t) : FnOk P w K mg base CX0 2 t.f_place_behind t.d_place_behind ["block"] (sp_place_behind t) := by
  have G_reach_of : FnOk P w K mg base CX0 1 t.f_reach_of t.d_reach_of ["n"] sp_reach_of := ok_reach_of T
  refine T.F_place_behind.ok sc_place_behind (fun vs H Q E h => ?_) (fun cdv A outer s H vs Q E hr h => ?_)
  · obtain ⟨a, b, rfl, _⟩ := h
    rfl
  · obtain ⟨a, b, rfl, ⟨dx, hb⟩, k⟩ := h
    refine ⟨_, (pss_one (ps_ret (pe_op op_add (pe_fld (pv 0) rfl) (pe_call G_reach_of hr rfl T.m_reach_of T.F_reach_of.kp T.B_reach_of .nil pass0 (pa_cons (pe_fld (pv 0) rfl) pa_nil))))), ?_⟩
    refine ⟨_, rfl, a, _, dx, _, _, rfl, hb, T.C_Block, T.n_Block_address, bkF_address _ _ _ _, _, rfl, a, _, dx, _, _, rfl, hb, T.C_Block, T.n_Block_n, bkF_n _ _ _ _, b.n, rfl, _, _, rfl, rfl, ?_⟩
    rw [← halt_int] at k
    exact k
theorem ok_row_length (T : Txt P w K mg t) : FnOk P w K mg base CX0 1 t.f_row_length t.d_row_length ["row"] (sp_row_length t) := by
  refine T.F_row_length.ok sc_row_length (fun vs H Q E h => ?_) (fun cdv A outer s H vs Q E hr h => ?_)
  · obtain ⟨a, b, rfl, _⟩ := h
    rfl
  · obtain ⟨a, b, rfl, ⟨dx, hb⟩, k⟩ := h
    refine ⟨_, (pss_one (ps_ret (pe_op op_sub (pe_fld (pv 0) rfl) (pe_fld (pv 0) rfl)))), ?_⟩
    exact ⟨_, rfl, a, _, dx, _, _, rfl, hb, T.C_Row, T.n_Row_end, rwF_end _ _, _, rfl, a, _, dx, _, _, rfl, hb, T.C_Row, T.n_Row_first, rwF_first _ _, _, _, rfl, rfl, k⟩
theorem ok_least_multiple (T : Txt P w K mg t) : FnOk P w K mg base CX0 1 t.f_least_multiple t.d_least_multiple ["place", "alignment"] sp_least_multiple := by
  refine T.F_least_multiple.ok sc_least_multiple (fun vs H Q E h => ?_) (fun cdv A outer s H vs Q E hr h => ?_)
  · obtain ⟨p, a, rfl, _⟩ := h
    rfl
  · obtain ⟨p, a, rfl, h1, h2, k⟩ := h
    refine ⟨_, (pss_one (ps_ret (pe_op op_mul (pe_op op_fdiv (pe_op op_sub (pe_op op_add (pv 0) (pv 1)) pe_int) (pv 1)) (pv 1)))), ?_⟩
    refine ⟨_, rfl, _, rfl, _, _, rfl, rfl, _, _, rfl, rfl, _, rfl, _, _, rfl, rfl, ⟨by omega, by omega⟩, _, rfl, _, _, rfl, rfl, .inr ⟨by omega, by omega⟩, ?_⟩
    rw [← Gk.up_int h1] at k
    exact k
theorem ok_least_in_row (T : Txt P w K mg t) : FnOk P w K mg base CX0 2 t.f_least_in_row t.d_least_in_row ["row", "reach", "alignment", "mark"] (sp_least_in_row t) := by
  have G_least_multiple : FnOk P w K mg base CX0 1 t.f_least_multiple t.d_least_multiple ["place", "alignment"] sp_least_multiple := ok_least_multiple T
  refine T.F_least_in_row.ok sc_least_in_row (fun vs H Q E h => ?_) (fun cdv A outer s H vs Q E hr h => ?_)
  · obtain ⟨a, r, k, al, m, rfl, _⟩ := h
    rfl
  · obtain ⟨a, r, n, al, m, rfl, ⟨dx, hb⟩, h1, h2, k⟩ := h
    refine ⟨_, (pss_cons (ps_set (i := 4) sc_least_in_row.nd rfl (Or.inl rfl) (pe_call G_least_multiple hr rfl T.m_least_multiple T.F_least_multiple.kp T.B_least_multiple .nil pass0 (pa_cons (pe_callB (call_max2 rfl) (by rfl) T.b_max boot_max (pa_cons (pe_fld (pv 0) rfl) (pa_cons (pv 3) pa_nil))) (pa_cons (pv 2) pa_nil))))
      (pss_cons (ps_if (pt_cmpR op_gt (pe_op op_add (pv 4) (pv 1)) (pe_fld (pv 0) rfl) (nomark _)) (pss_one (ps_ret pe_non)) pss_nil)
      (pss_one (ps_ret (pv 4))))), ?_⟩
    refine ⟨_, rfl, a, _, dx, _, _, rfl, hb, T.C_Row, T.n_Row_first, rwF_first _ _, _, rfl, _, _, rfl, _, rfl, max r.1 m, al, ?_, h1, h2, ?_⟩
    · show [V.int (if (m : Int) > (r.1 : Int) then (m : Int) else (r.1 : Int)), V.int al] = _
      rw [Gk.max_int]
    · refine ⟨_, rfl, _, rfl, _, _, rfl, rfl, _, rfl, a, _, dx, _, _, rfl, hb, T.C_Row, T.n_Row_end, rwF_end _ _, _, _, rfl, rfl, _, rfl, ite2 (fun hc => ?_) fun hc => ?_⟩
      · have hc := of_decide_eq_true hc
        have e : Gk.lowIn n al (max r.1 m, r.2) = none := by
          unfold Gk.lowIn
          rw [if_neg (by show ¬ Gk.up al (max r.1 m) + n ≤ r.2; omega)]
        rw [e] at k
        exact k
      · have hc : ¬ (r.2 : Int) < (Gk.up al (max r.1 m) : Int) + (n : Int) := fun q => hc (decide_eq_true q)
        have e : Gk.lowIn n al (max r.1 m, r.2) = some (Gk.up al (max r.1 m)) := by
          unfold Gk.lowIn
          rw [if_pos (by show Gk.up al (max r.1 m) + n ≤ r.2; omega)]
        rw [e] at k
        exact ⟨_, rfl, k⟩
theorem ok_greatest_in_row (T : Txt P w K mg t) : FnOk P w K mg base CX0 1 t.f_greatest_in_row t.d_greatest_in_row ["row", "reach", "alignment"] (sp_greatest_in_row t) := by
  refine T.F_greatest_in_row.ok sc_greatest_in_row (fun vs H Q E h => ?_) (fun cdv A outer s H vs Q E hr h => ?_)
  · obtain ⟨a, r, k, al, rfl, _⟩ := h
    rfl
  · obtain ⟨a, r, n, al, rfl, ⟨dx, hb⟩, h1, h2, h3, k⟩ := h
    refine ⟨_, (pss_cons (ps_set (i := 3) sc_greatest_in_row.nd rfl (Or.inl rfl) (pe_op op_mul (pe_op op_fdiv (pe_op op_sub (pe_fld (pv 0) rfl) (pv 1)) (pv 2)) (pv 2)))
      (pss_cons (ps_if (pt_cmpR op_lt (pv 3) (pe_fld (pv 0) rfl) (nomark _)) (pss_one (ps_ret pe_non)) pss_nil)
      (pss_one (ps_ret (pv 3))))), ?_⟩
    refine ⟨_, rfl, a, _, dx, _, _, rfl, hb, T.C_Row, T.n_Row_end, rwF_end _ _, _, rfl, _, _, rfl, rfl, _, rfl, _, _, rfl, rfl, ⟨by omega, by omega⟩, _, rfl, _, _, rfl, rfl, .inr ⟨by omega, by omega⟩, ?_⟩
    refine ⟨_, rfl, _, rfl, a, _, dx, _, _, rfl, hb, T.C_Row, T.n_Row_first, rwF_first _ _, _, _, rfl, rfl, _, rfl, ite2 (fun hc => ?_) fun hc => ?_⟩
    · have hc := of_decide_eq_true hc
      rw [Gk.high_none h1 hc] at k
      exact k
    · have hc : ¬ ((r.2 : Int) - (n : Int)) / (al : Int) * (al : Int) < (r.1 : Int) := fun q => hc (decide_eq_true q)
      obtain ⟨v, e1, e2⟩ : ∃ v : Nat, Gk.highIn n al r = some v ∧ ((r.2 : Int) - (n : Int)) / (al : Int) * (al : Int) = (v : Int) := Gk.high_some h1 h3 hc
      rw [e1] at k
      have k : Q (.int (v : Int)) H := k
      rw [← e2] at k
      exact ⟨_, rfl, k⟩
theorem ok_has_bytes (T : Txt P w K mg t) : FnOk P w K mg base CX0 1 t.f_has_bytes t.d_has_bytes ["block", "first", "how_many"] (sp_has_bytes t) := by
  refine T.F_has_bytes.ok sc_has_bytes (fun vs H Q E h => ?_) (fun cdv A outer s H vs Q E hr h => ?_)
  · obtain ⟨a, b, i, k, rfl, _⟩ := h
    rfl
  · obtain ⟨a, b, i, n, rfl, ⟨dx, hb⟩, k⟩ := h
    refine ⟨_, (pss_one (ps_ret (pe_cmpR op_le (pe_op op_add (pv 1) (pv 2)) (pe_fld (pv 0) rfl) (nomark _)))), ?_⟩
    refine ⟨_, rfl, _, rfl, _, _, rfl, rfl, _, rfl, a, _, dx, _, _, rfl, hb, T.C_Block, T.n_Block_n, bkF_n _ _ _ _, _, _, rfl, rfl, ?_⟩
    have e : decide (((i : Int) + (n : Int)) ≤ (b.n : Int)) = decide (i + n ≤ b.n) := by
      by_cases q : i + n ≤ b.n
      · rw [decide_eq_true q, decide_eq_true (by omega)]
      · rw [decide_eq_false q, decide_eq_false (by omega)]
    rw [← e] at k
    exact k
end
end Gp

set_option Elab.async false
set_option linter.all false
set_option maxRecDepth 100000
set_option maxHeartbeats 4000000
/-! Rows of free places, and where a block comes to lie. -/
namespace Gp
open PySem PySem.Spec PyProof.Rows L2

def sp_rows_between (t : Adr) : Sp := fun vs H Q _ => ∃ (size : Nat) (l : Addr) (qs : List (Gk.Block × Addr)), vs = [.int size, .ref l] ∧ H l = some (.lst (qs.map fun q => V.ref q.2)) ∧ (∀ q ∈ qs, BA t H q.2 q.1) ∧ qs.length ≤ 2048 ∧
  ∀ (H' : Hp) (p : Addr), RsA t H' p (Gk.rowsFrom size 0 (qs.map (·.1))) → Same H H' → H p = none → Q (.ref p) H'
def sp_least_address (t : Adr) : Sp := fun vs H Q _ => ∃ (l : Addr) (rs : List Gk.Row) (k al m : Nat), vs = [.ref l, .int k, .int al, .int m] ∧ RsA t H l rs ∧ 1 ≤ al ∧ al ≤ 256 ∧ Q (optV (rs.findSome? fun r => Gk.lowIn k al (max r.1 m, r.2))) H
def sp_greatest_address (t : Adr) : Sp := fun vs H Q _ => ∃ (l : Addr) (rs : List Gk.Row) (k al : Nat), vs = [.ref l, .int k, .int al] ∧ RsA t H l rs ∧ 1 ≤ al ∧ al ≤ 256 ∧ 1 ≤ k ∧ Q (optV (rs.reverse.findSome? (Gk.highIn k al))) H
def sp_rows_that_fit (t : Adr) : Sp := fun vs H Q _ => ∃ (l : Addr) (rs : List Gk.Row) (k al : Nat), vs = [.ref l, .int k, .int al] ∧ RsA t H l rs ∧ 1 ≤ al ∧ al ≤ 256 ∧ rs.length ≤ 2049 ∧
  ∀ (H' : Hp) (p : Addr), RsA t H' p (Gk.fitting k al rs) → Same H H' → Q (.ref p) H'
def toTry (rule : Nat) (rs : List Gk.Row) (k al : Nat) : List Gk.Row := if rule = 2 then (Gk.shortest (Gk.fitting k al rs)).toList else if rule = 3 then (Gk.longest (Gk.fitting k al rs)).toList else rs
def sp_rows_to_try (t : Adr) : Sp := fun vs H Q _ => ∃ (l : Addr) (rs : List Gk.Row) (rule k al : Nat), vs = [.ref l, .int rule, .int k, .int al] ∧ RsA t H l rs ∧ 1 ≤ al ∧ al ≤ 256 ∧ rs.length ≤ 2049 ∧ (∀ r ∈ rs, r.1 ≤ r.2) ∧
  ∀ (H' : Hp) (p : Addr), RsA t H' p (toTry rule rs k al) → Same H H' → Q (.ref p) H'
def sp_choose_address (t : Adr) : Sp := fun vs H Q _ => ∃ (l : Addr) (rs : List Gk.Row) (rule mark n al : Nat), vs = [.ref l, .int rule, .int mark, .int ((max n 1 : Nat) : Int), .int al] ∧ RsA t H l rs ∧ 1 ≤ al ∧ al ≤ 256 ∧ rs.length ≤ 2049 ∧ (∀ r ∈ rs, r.1 ≤ r.2) ∧ rule ≤ 4 ∧
  ∀ H' : Hp, Same H H' → Q (optV (Gk.place rule mark rs n al)) H'

section
variable {P : Program} {w : World} {K : PySem.W.Frag} {mg : Str → Option Value} {base : Heap} {t : Adr}
theorem RsA.push {t : Adr} {H5 : Hp} {l x : Addr} {as : List Addr} {rs : List Gk.Row} {r : Gk.Row} (hl : H5 l = some (.lst (as.map V.ref))) (f : Al (RA t H5) as rs) (hx : RA t H5 x r) : RsA t (upd H5 l (.lst (as.map V.ref ++ [V.ref x]))) l (rs ++ [r]) := by
  have kp : ∀ (a : Addr) (q : Gk.Row), RA t H5 a q → RA t (upd H5 l (.lst (as.map V.ref ++ [V.ref x]))) a q := fun a q ⟨dx, e⟩ => ⟨dx, by
    rw [upd_ne (ne_of e hl (by intro z; cases z))]
    exact e⟩
  refine ⟨as ++ [x], ?_, (f.imp kp).snoc (kp _ _ hx)⟩
  rw [upd_same, List.map_append]
  rfl
theorem ok_rows_between (T : Txt P w K mg t) : FnOk P w K mg base CX0 3 t.f_rows_between t.d_rows_between ["size", "blocks"] (sp_rows_between t) := by
  have G_place_behind : FnOk P w K mg base CX0 2 t.f_place_behind t.d_place_behind ["block"] (sp_place_behind t) := ok_place_behind T
  have G_Row_init : FnOk P w K mg base CX0 1 t.f_Row_init t.d_Row_init ["self", "first", "end"] (sp_Row_init t) := ok_Row_init T
  refine T.F_rows_between.ok sc_rows_between (fun vs H Q E h => ?_) (fun cdv A outer s H vs Q E hr h => ?_)
  · obtain ⟨size, l, qs, rfl, _⟩ := h
    rfl
  · obtain ⟨size, l, qs, rfl, hl, hB, hlen, k⟩ := h
    refine ⟨_, (pss_cons (ps_set (i := 2) sc_rows_between.nd rfl (Or.inl rfl) (pe_lst pa_nil))
      (pss_cons (ps_set (i := 3) sc_rows_between.nd rfl (Or.inl rfl) pe_int)
      (pss_cons (ps_for PassesOwn.never rfl (pi_list (pv 1)) (pg_name (i := 4) sc_rows_between.nd rfl (Or.inl rfl))
        (pss_cons (ps_if (pt_cmpR op_lt (pv 3) (pe_fld (pv 4) rfl) (nomark _)) (pss_one (ps_expr (pe_bm PySem.F.plainAttrs_list PySem.F.slot_list_append PySem.F.type_list_append mt_append (pv 2) (pa_cons (pe_make T.K_Row G_Row_init hr rfl T.m_Row T.B_Row_init .nil pass0 (pa_cons (pv 3) (pa_cons (pe_fld (pv 4) rfl) pa_nil))) pa_nil)))) pss_nil)
        (pss_one (ps_set (i := 3) sc_rows_between.nd rfl (Or.inl rfl) (pe_call G_place_behind hr rfl T.m_place_behind T.F_place_behind.kp T.B_place_behind .nil pass0 (pa_cons (pv 4) pa_nil))))))
      (pss_cons (ps_if (pt_cmpR op_lt (pv 3) (pv 0) (nomark _)) (pss_one (ps_expr (pe_bm PySem.F.plainAttrs_list PySem.F.slot_list_append PySem.F.type_list_append mt_append (pv 2) (pa_cons (pe_make T.K_Row G_Row_init hr rfl T.m_Row T.B_Row_init .nil pass0 (pa_cons (pv 3) (pa_cons (pv 0) pa_nil))) pa_nil)))) pss_nil)
      (pss_one (ps_ret (pv 2))))))), ?_⟩
    refine ⟨Nat.zero_le _, fun q hq => ?_⟩
    have s0 : Same H (upd H q (.lst [])) := Same.new hq
    refine ⟨_, rfl, l, rfl, ⟨_, SqL.of (s0 _ _ hl)⟩, for_list (K := K) (a := l) (xs := qs.map fun q => V.ref q.2)
      (fun i σ H' => ∃ (v : Option V) (f : Nat) (acc : List Gk.Row), σ = [some (.int size), some (.ref l), some (.ref q), some (.int f), v] ∧ Same H H' ∧ RsA t H' q acc ∧ acc.length ≤ i ∧ Gk.rowsFrom size 0 (qs.map (·.1)) = acc ++ Gk.rowsFrom size f ((qs.drop i).map (·.1)))
      ⟨none, 0, [], rfl, s0, ⟨[], upd_same, Al.nil⟩, Nat.le_refl _, rfl⟩ (fun i σ H' _ ⟨_, _, _, _, s5, _⟩ => s5.seq (SqL.of hl)) ?_ ?_⟩
    · rintro i y σ H' hi ⟨v, f, acc, rfl, s5, ⟨as, hr5, al5⟩, hacc, heq⟩
      obtain ⟨⟨b, a⟩, hb, rfl⟩ := map_get hi
      have hib : i < 2049 := Nat.lt_of_lt_of_le (get_lt hb) (Nat.le_trans hlen (by decide))
      obtain ⟨db, eb⟩ := (hB _ (List.mem_of_getElem? hb)).same s5
      have hd : Gk.rowsFrom size f ((qs.drop i).map (·.1)) = (if f < b.at_ then [(f, b.at_)] else []) ++ Gk.rowsFrom size b.halt_ ((qs.drop (i + 1)).map (·.1)) := by
        rw [drop_get hb]
        rfl
      have hsz : (2049 : Nat) < sizeLine := by decide
      refine ⟨_, rfl, _, rfl, a, _, db, _, _, rfl, eb, T.C_Block, T.n_Block_address, bkF_address _ _ _ _, _, _, rfl, rfl, _, rfl, ite2 (fun hc => ?_) fun hc => ?_⟩
      · have hc : (f : Int) < (b.at_ : Int) := of_decide_eq_true hc
        refine ⟨_, rfl, .inl ⟨rfl, _, SqL.of hr5⟩, _, rfl, _, rfl, a, _, db, _, _, rfl, eb, T.C_Block, T.n_Block_address, bkF_address _ _ _ _, fun x dx nx ndx nex => ?_⟩
        refine ⟨x, dx, (f, b.at_), rfl, upd_same, fun H6 hR k6 => ⟨rfl, ?_⟩⟩
        have s6 : Same H' H6 := Same.made nx ndx k6
        refine ⟨q, _, _, rfl, rfl, s6 _ _ hr5, ?_, ?_⟩
        · rw [List.length_map, al5.1]
          omega
        have hq5 : ∀ b o, H b = some o → b ≠ q := fun b o e => ne_of_none e hq
        have ea := s6 _ _ eb
        have eb6 : upd H6 q (.lst (as.map V.ref ++ [V.ref x])) a = some (.ins t.c_Block db (bkF b.at_ b.n b.align b.group)) := by
          rw [upd_ne (ne_of ea (s6 _ _ hr5) (by intro z; cases z))]
          exact ea
        refine ⟨_, rfl, a, b, rfl, ⟨db, eb6⟩, ?_⟩
        refine ⟨some (.ref a), b.halt_, acc ++ [(f, b.at_)], rfl, (s5.trans s6).upd hq, RsA.push (s6 _ _ hr5) (al5.imp fun _ _ z => z.same s6) hR, ?_, ?_⟩
        · rw [List.length_append]
          exact Nat.succ_le_succ hacc
        · rw [heq, hd, if_pos (by omega), List.append_assoc]
      · have hc : ¬ (f : Int) < (b.at_ : Int) := fun z => hc (decide_eq_true z)
        refine ⟨_, rfl, a, b, rfl, ⟨db, eb⟩, ?_⟩
        refine ⟨some (.ref a), b.halt_, acc, rfl, s5, ⟨as, hr5, al5⟩, Nat.le_succ_of_le hacc, ?_⟩
        rw [heq, hd, if_neg (by omega), List.nil_append]
    · rintro σ H' ⟨v, f, acc, rfl, s5, ⟨as, hr5, al5⟩, hacc, heq⟩
      rw [List.length_map] at hacc heq
      rw [List.drop_length] at heq
      have hsz : (2049 : Nat) < sizeLine := by decide
      refine ⟨_, rfl, _, rfl, _, _, rfl, rfl, _, rfl, ite2 (fun hc => ?_) fun hc => ?_⟩
      · have hc := of_decide_eq_true hc
        refine ⟨_, rfl, .inl ⟨rfl, _, SqL.of hr5⟩, _, rfl, _, rfl, fun x dx nx ndx nex => ?_⟩
        refine ⟨x, dx, (f, size), rfl, upd_same, fun H6 hR k6 => ⟨rfl, ?_⟩⟩
        have s6 : Same H' H6 := Same.made nx ndx k6
        refine ⟨q, _, _, rfl, rfl, s6 _ _ hr5, ?_, ?_⟩
        · rw [List.length_map, al5.1]
          omega
        refine ⟨_, rfl, k _ q ?_ ((s5.trans s6).upd hq) hq⟩
        have e : Gk.rowsFrom size 0 (qs.map (·.1)) = acc ++ [(f, size)] := by
          rw [heq]
          show acc ++ (if f < size then [(f, size)] else []) = _
          rw [if_pos (by omega)]
        rw [e]
        exact RsA.push (s6 _ _ hr5) (al5.imp fun _ _ z => z.same s6) hR
      · have hc : ¬ (f : Int) < (size : Int) := fun z => hc (decide_eq_true z)
        refine ⟨_, rfl, k _ q ?_ s5 hq⟩
        have e : Gk.rowsFrom size 0 (qs.map (·.1)) = acc := by
          rw [heq]
          show acc ++ (if f < size then [(f, size)] else []) = _
          rw [if_neg (by omega), List.append_nil]
        rw [e]
        exact ⟨as, hr5, al5⟩
theorem optV_non {o : Option Nat} (h : optV o = .non) : o = none := by
  cases o with
  | none => rfl
  | some n => cases h
theorem ok_least_address (T : Txt P w K mg t) : FnOk P w K mg base CX0 3 t.f_least_address t.d_least_address ["rows", "reach", "alignment", "mark"] (sp_least_address t) := by
  have G_least_in_row : FnOk P w K mg base CX0 2 t.f_least_in_row t.d_least_in_row ["row", "reach", "alignment", "mark"] (sp_least_in_row t) := ok_least_in_row T
  refine T.F_least_address.ok sc_least_address (fun vs H Q E h => ?_) (fun cdv A outer s H vs Q E hr h => ?_)
  · obtain ⟨l, rs, n, al, m, rfl, _⟩ := h
    rfl
  · obtain ⟨l, rs, n, al, m, rfl, ⟨as, hl, hA⟩, h1, h2, k⟩ := h
    refine ⟨_, (pss_cons (ps_for PassesOwn.never rfl (pi_list (pv 0)) (pg_name (i := 4) sc_least_address.nd rfl (Or.inl rfl))
        (pss_cons (ps_set (i := 5) sc_least_address.nd rfl (Or.inl rfl) (pe_call G_least_in_row hr rfl T.m_least_in_row T.F_least_in_row.kp T.B_least_in_row .nil pass0 (pa_cons (pv 4) (pa_cons (pv 1) (pa_cons (pv 2) (pa_cons (pv 3) pa_nil))))))
        (pss_one (ps_if (pt_cmp (pc_notN (pv 5))) (pss_one (ps_ret (pv 5))) pss_nil))))
      (pss_one (ps_ret pe_non))), ?_⟩
    refine ⟨_, rfl, l, rfl, ⟨_, SqL.of hl⟩, for_list (K := K) (a := l) (xs := as.map V.ref)
      (fun i σ H' => ∃ (v u : Option V), σ = [some (.ref l), some (.int n), some (.int al), some (.int m), v, u] ∧ H' = H ∧ (rs.findSome? fun r => Gk.lowIn n al (max r.1 m, r.2)) = (rs.drop i).findSome? fun r => Gk.lowIn n al (max r.1 m, r.2))
      ⟨none, none, rfl, rfl, rfl⟩ (fun i σ H' _ ⟨_, _, _, e, _⟩ => by rw [e]; exact SqL.of hl) ?_ ?_⟩
    · rintro i y σ H' hi ⟨v, u, rfl, rfl, heq⟩
      obtain ⟨a, ha, rfl⟩ := map_get hi
      obtain ⟨r, hr5, hR⟩ := hA.get ha
      rw [drop_get hr5, List.findSome?_cons] at heq
      refine ⟨_, rfl, _, rfl, _, rfl, _, rfl, a, r, n, al, m, rfl, hR, h1, h2, ?_⟩
      refine ⟨_, rfl, _, rfl, ?_⟩
      cases e : Gk.lowIn n al (max r.1 m, r.2) with
      | none =>
        rw [e] at heq
        exact iteF ⟨_, _, rfl, rfl, heq⟩
      | some p =>
        rw [e] at heq
        rw [heq] at k
        exact iteT ⟨_, rfl, k⟩
    · rintro σ H' ⟨v, u, rfl, rfl, heq⟩
      rw [List.length_map, hA.1, List.drop_length] at heq
      rw [heq] at k
      exact k
theorem ok_greatest_address (T : Txt P w K mg t) : FnOk P w K mg base CX0 2 t.f_greatest_address t.d_greatest_address ["rows", "reach", "alignment"] (sp_greatest_address t) := by
  have G_greatest_in_row : FnOk P w K mg base CX0 1 t.f_greatest_in_row t.d_greatest_in_row ["row", "reach", "alignment"] (sp_greatest_in_row t) := ok_greatest_in_row T
  refine T.F_greatest_address.ok sc_greatest_address (fun vs H Q E h => ?_) (fun cdv A outer s H vs Q E hr h => ?_)
  · obtain ⟨l, rs, n, al, rfl, _⟩ := h
    rfl
  · obtain ⟨l, rs, n, al, rfl, ⟨as, hl, hA⟩, h1, h2, h3, k⟩ := h
    refine ⟨_, (pss_cons (ps_for PassesOwn.never rfl (pi_reversed rfl T.b_reversed (pa_cons (pv 0) pa_nil)) (pg_name (i := 3) sc_greatest_address.nd rfl (Or.inl rfl))
        (pss_cons (ps_set (i := 4) sc_greatest_address.nd rfl (Or.inl rfl) (pe_call G_greatest_in_row hr rfl T.m_greatest_in_row T.F_greatest_in_row.kp T.B_greatest_in_row .nil pass0 (pa_cons (pv 3) (pa_cons (pv 1) (pa_cons (pv 2) pa_nil)))))
        (pss_one (ps_if (pt_cmp (pc_notN (pv 4))) (pss_one (ps_ret (pv 4))) pss_nil))))
      (pss_one (ps_ret pe_non))), ?_⟩
    have hal := hA.1
    refine ⟨_, rfl, l, as.map V.ref, rfl, SqL.of hl, fun i m σ H' => m + i = rs.length ∧ ∃ (v u : Option V), σ = [some (.ref l), some (.int n), some (.int al), v, u] ∧ H' = H ∧ rs.reverse.findSome? (Gk.highIn n al) = (rs.reverse.drop i).findSome? (Gk.highIn n al),
      ⟨rs.length, rfl, none, none, rfl, rfl, rfl⟩, ?_⟩
    rintro i m σ H' ⟨hm, v, u, rfl, rfl, heq⟩
    by_cases hi : rs.length ≤ i
    · refine .inl ⟨?_, ?_⟩
      · show (as.map V.ref).length ≤ i
        rw [List.length_map, hal]
        exact hi
      · rw [List.drop_eq_nil_of_le (by rw [List.length_reverse]; exact hi)] at heq
        rw [heq] at k
        exact k
    · have hlt : i < rs.length := by omega
      have hidx : as.length - 1 - i < as.length := by omega
      obtain ⟨a, ha⟩ : ∃ a, as[as.length - 1 - i]? = some a := ⟨_, List.getElem?_eq_getElem hidx⟩
      obtain ⟨r, hr5, hR⟩ := hA.get ha
      have hrev : rs.reverse[i]? = some r := by
        rw [List.getElem?_reverse hlt, ← hr5, hal]
      rw [drop_get hrev, List.findSome?_cons] at heq
      refine .inr ⟨⟨by rw [List.length_map, hal]; exact hlt, as.map V.ref, .ref a, SqL.of hl, by rw [List.length_map, List.getElem?_map, ha]; rfl⟩, fun σ' H'' => ∃ (v u : Option V), σ' = [some (.ref l), some (.int n), some (.int al), v, u] ∧ H'' = H' ∧ rs.reverse.findSome? (Gk.highIn n al) = (rs.reverse.drop (i + 1)).findSome? (Gk.highIn n al), ?_, ?_⟩
      · rintro σ' H'' ⟨v', u', e1, e2, e3⟩
        exact ⟨m - 1, by omega, by omega, v', u', e1, e2, e3⟩
      · rintro x H'' ⟨rfl, hx⟩
        have hx := hx _ (SqL.of hl)
        rw [List.length_map, List.getElem?_map, ha] at hx
        have hx : x = V.ref a := (Option.some.inj hx).symm
        subst hx
        refine ⟨_, rfl, _, rfl, _, rfl, a, r, n, al, rfl, hR, h1, h2, h3, ?_⟩
        refine ⟨_, rfl, _, rfl, ?_⟩
        cases e : Gk.highIn n al r with
        | none =>
          rw [e] at heq
          exact iteF ⟨_, _, rfl, rfl, heq⟩
        | some p =>
          rw [e] at heq
          rw [heq] at k
          exact iteT ⟨_, rfl, k⟩
end
end Gp

set_option Elab.async false
set_option linter.all false
set_option maxRecDepth 100000
set_option maxHeartbeats 4000000
namespace Gp
open PySem PySem.Spec PyProof.Rows L2
theorem iteNT {c A B : Prop} [Decidable c] (hc : ¬ c) (h : A) : if (!decide c) = true then A else B := by
  rw [decide_eq_false hc]
  exact iteT h
theorem iteDT {c A B : Prop} [Decidable c] (hc : c) (h : A) : if decide c = true then A else B := by
  rw [decide_eq_true hc]
  exact iteT h
theorem iteDF {c A B : Prop} [Decidable c] (hc : ¬ c) (h : B) : if decide c = true then A else B := by
  rw [decide_eq_false hc]
  exact iteF h
theorem vne {n : Nat} {z : Int} (h : (n : Int) ≠ z) : ¬ (V.int (n : Int) = V.int z) := fun e => h (V.int.inj e)
theorem veq {n : Nat} {z : Int} (h : (n : Int) = z) : V.int (n : Int) = V.int z := congrArg V.int h
theorem fitting_snoc {k al : Nat} {rs : List Gk.Row} {r : Gk.Row} : Gk.fitting k al (rs ++ [r]) = Gk.fitting k al rs ++ (if (Gk.lowIn k al r).isSome = true then [r] else []) := by
  unfold Gk.fitting
  rw [List.filter_append, List.filter_cons, List.filter_nil]
def keyAt (rs : List Gk.Row) (j : Nat) : Int := match rs[j]? with
  | some r => (r.2 : Int) - (r.1 : Int)
  | none => 0
theorem keyAt_of {rs : List Gk.Row} {j : Nat} {r : Gk.Row} (h : rs[j]? = some r) : keyAt rs j = (r.2 : Int) - (r.1 : Int) := by
  unfold keyAt
  rw [h]
section
variable {P : Program} {w : World} {K : PySem.W.Frag} {mg : Str → Option Value} {base : Heap} {t : Adr}
theorem ok_rows_that_fit (T : Txt P w K mg t) : FnOk P w K mg base CX0 3 t.f_rows_that_fit t.d_rows_that_fit ["rows", "reach", "alignment"] (sp_rows_that_fit t) := by
  have G_least_in_row : FnOk P w K mg base CX0 2 t.f_least_in_row t.d_least_in_row ["row", "reach", "alignment", "mark"] (sp_least_in_row t) := ok_least_in_row T
  refine T.F_rows_that_fit.ok sc_rows_that_fit (fun vs H Q E h => ?_) (fun cdv A outer s H vs Q E hr h => ?_)
  · obtain ⟨l, rs, n, al, rfl, _⟩ := h
    rfl
  · obtain ⟨l, rs, n, al, rfl, ⟨as, hl, hA⟩, h1, h2, hlen, k⟩ := h
    refine ⟨_, (pss_one (ps_ret (pe_lc (own := [("row", 3)]) rfl sc_rows_that_fit.nd (pi_list (pv 0)) (blkOk_by (by show blkC ["rows", "reach", "alignment", "row"] (defScope s_rows_that_fit) _ [("row", 3)] = true; decide +kernel)) (fun _ _ _ _ _ => pg_name (i := 3) sc_rows_that_fit.nd rfl (Or.inl rfl)) (fun _ _ _ _ _ => pts_one (pt_cmp (pc_notN (pe_call G_least_in_row hr rfl T.m_least_in_row T.F_least_in_row.kp T.B_least_in_row .nil pass0 (pa_cons (pv 3) (pa_cons (pv 1) (pa_cons (pv 2) (pa_cons pe_int pa_nil)))))))) (fun _ _ _ _ _ => (pv 3))))), ?_⟩
    refine ⟨_, rfl, l, rfl, ⟨_, SqL.of hl⟩, fun D hD => lc_list (K := K) (a := l) (xs := as.map V.ref)
      (fun i H' => Same H H' ∧ ∃ as' : List Addr, H' D = some (.lst (as'.map V.ref)) ∧ Al (RA t H') as' (Gk.fitting n al (rs.take i)) ∧ as'.length ≤ i)
      ⟨Same.new hD, [], upd_same, Al.nil, Nat.le_refl _⟩ (fun i H' _ ⟨s5, _⟩ => s5.seq (SqL.of hl)) ?_ ?_⟩
    · rintro i y H' hi ⟨s5, as', hD', hA', hlen'⟩
      obtain ⟨a, ha, rfl⟩ := map_get hi
      obtain ⟨r, hr5, hR⟩ := hA.get ha
      have hib : i < 2049 := Nat.lt_of_lt_of_le (get_lt hr5) hlen
      have hsz : (2049 : Nat) < sizeLine := by decide
      refine ⟨rfl, _, rfl, _, rfl, _, rfl, a, r, n, al, 0, rfl, hR.same s5, h1, h2, ?_⟩
      rw [Gk.max_zero]
      refine ⟨_, rfl, ?_⟩
      cases e : Gk.lowIn n al r with
      | none =>
        refine iteF ⟨s5, as', hD', ?_, Nat.le_succ_of_le hlen'⟩
        rw [take_get hr5, fitting_snoc, e]
        simpa using hA'
      | some p =>
        refine iteT ⟨_, rfl, _, hD', by rw [List.length_map]; omega, ?_⟩
        have kp : ∀ (c : Addr) (q : Gk.Row), RA t H' c q → RA t (upd H' D (.lst (as'.map V.ref ++ [V.ref a]))) c q := fun c q ⟨dx, e⟩ => ⟨dx, by
          rw [upd_ne (ne_of e hD' (by intro z; cases z))]
          exact e⟩
        refine ⟨s5.upd hD, as' ++ [a], ?_, ?_, ?_⟩
        · rw [upd_same, List.map_append]
          rfl
        · rw [take_get hr5, fitting_snoc, e]
          exact (hA'.imp kp).snoc (kp _ _ (hR.same s5))
        · rw [List.length_append]
          exact Nat.succ_le_succ hlen'
    · rintro H' ⟨s5, as', hD', hA', _⟩
      rw [List.length_map, hA.1, List.take_length] at hA'
      exact k H' D ⟨as', hD', hA'⟩ s5
theorem ok_rows_to_try (T : Txt P w K mg t) : FnOk P w K mg base CX0 4 t.f_rows_to_try t.d_rows_to_try ["rows", "rule", "reach", "alignment"] (sp_rows_to_try t) := by
  have G_rows_that_fit : FnOk P w K mg base CX0 3 t.f_rows_that_fit t.d_rows_that_fit ["rows", "reach", "alignment"] (sp_rows_that_fit t) := ok_rows_that_fit T
  have G_row_length : FnOk P w K mg base CX0 1 t.f_row_length t.d_row_length ["row"] (sp_row_length t) := ok_row_length T
  refine T.F_rows_to_try.ok sc_rows_to_try (fun vs H Q E h => ?_) (fun cdv A outer s H vs Q E hr h => ?_)
  · obtain ⟨l, rs, rule, n, al, rfl, _⟩ := h
    rfl
  · obtain ⟨l, rs, rule, n, al, rfl, hRs, h1, h2, hlen, hle, k⟩ := h
    refine ⟨_, (pss_cons (ps_if (PW.pt (pw_and (pt_cmpR op_ne (pv 1) (pe_glob rfl T.m_SHORTEST_ROW T.r_SHORTEST_ROW) (nomark _)) (pw_and1 (pt_cmpR op_ne (pv 1) (pe_glob rfl T.m_LONGEST_ROW T.r_LONGEST_ROW) (nomark _))))) (pss_one (ps_ret (pv 0))) pss_nil)
      (pss_cons (ps_set (i := 4) sc_rows_to_try.nd rfl (Or.inl rfl) (pe_call G_rows_that_fit hr rfl T.m_rows_that_fit T.F_rows_that_fit.kp T.B_rows_that_fit .nil pass0 (pa_cons (pv 0) (pa_cons (pv 2) (pa_cons (pv 3) pa_nil)))))
      (pss_cons (ps_if (pt_cmpR op_eq (pe_callB call_len (by rfl) T.b_len PySem.boot_len (pa_cons (pv 4) pa_nil)) pe_int (nomark _)) (pss_one (ps_ret (pv 4))) pss_nil)
      (pss_cons (ps_if (pt_cmpR op_eq (pv 1) (pe_glob rfl T.m_SHORTEST_ROW T.r_SHORTEST_ROW) (nomark _)) (pss_one (ps_ret (pe_lst (pa_cons (pe_minK rfl G_row_length (hr.mono (by decide : 2 ≤ 3)).in1 T.B_row_length rfl T.b_min rfl T.m_row_length (pa_cons (pv 4) pa_nil)) pa_nil)))) pss_nil)
      (pss_one (ps_ret (pe_lst (pa_cons (pe_maxK rfl G_row_length (hr.mono (by decide : 2 ≤ 3)).in1 T.B_row_length rfl T.b_max rfl T.m_row_length (pa_cons (pv 4) pa_nil)) pa_nil)))))))), ?_⟩
    have rest : (rule = 2 ∨ rule = 3) → ∀ (p : Addr) (H' : Hp), RsA t H' p (Gk.fitting n al rs) → Same H H' → ∀ (i : Nat) (y : Gk.Row), (Gk.fitting n al rs)[i]? = some y → ∀ a : Addr, RA t H' a y →
        (if rule = 2 then Gk.shortest (Gk.fitting n al rs) = some y else Gk.longest (Gk.fitting n al rs) = some y) → ∀ p2, H' p2 = none → Q (.ref p2) (upd H' p2 (.lst [V.ref a])) := by
      intro h23 p H' hF s5 i y hi a hR hb p2 hp2
      refine k _ p2 ⟨[a], upd_same, ?_⟩ (s5.trans (Same.new hp2))
      have e : toTry rule rs n al = [y] := by
        unfold toTry
        rcases h23 with e2 | e3
        · rw [if_pos e2] at hb ⊢
          rw [hb]
          rfl
        · rw [if_neg (by omega)] at hb ⊢
          rw [if_pos e3, hb]
          rfl
      rw [e]
      exact Al.nil.snoc (hR.same (Same.new hp2))
    have fit : (rule = 2 ∨ rule = 3) → sp_rows_that_fit t [.ref l, .int n, .int al] H (fun v H' => ∃ p, v = .ref p ∧ RsA t H' p (Gk.fitting n al rs) ∧ Same H H') E0 := fun _ => ⟨l, rs, n, al, rfl, hRs, h1, h2, hlen, fun H' p hF s5 => ⟨p, rfl, hF, s5⟩⟩
    have hlf : ∀ r ∈ Gk.fitting n al rs, r.1 ≤ r.2 := fun r hr => hle r (List.mem_filter.mp hr).1
    by_cases e2 : rule = 2
    · refine ⟨_, rfl, rfl, _, rfl, iteNS (veq (by omega)) ?_⟩
      refine iteF ?_
      refine ⟨_, rfl, _, rfl, _, rfl, l, rs, n, al, rfl, hRs, h1, h2, hlen, fun H' p hF s5 => ?_⟩
      obtain ⟨as, hp, hA⟩ := hF
      refine ⟨_, rfl, _, _, rfl, .inl ⟨_, SqL.of hp, rfl⟩, rfl, _, rfl, ?_⟩
      by_cases ez : (as.map V.ref).length = 0
      · refine iteDT (veq (by omega)) ⟨_, rfl, k H' p ?_ s5⟩
        have e : Gk.fitting n al rs = [] := by
          refine List.eq_nil_of_length_eq_zero ?_
          rw [← hA.1, ← List.length_map (f := V.ref)]
          exact ez
        unfold toTry
        rw [if_pos e2, e]
        exact ⟨as, hp, by rw [e] at hA; exact hA⟩
      · refine iteDF (vne (by omega)) ?_
        refine ⟨_, rfl, rfl, _, rfl, iteDT (veq (by omega)) ?_⟩
        refine ⟨_, rfl, p, as.map V.ref, keyAt (Gk.fitting n al rs), fun H2 => H2 = H', rfl, by omega, rfl, fun H2 e => by rw [e]; exact SqL.of hp, ?_, ?_⟩
        · rintro j x H2 hx rfl
          obtain ⟨a, ha, rfl⟩ := map_get hx
          obtain ⟨r, hr5, hR⟩ := hA.get ha
          exact ⟨a, r, rfl, hR, by rw [keyAt_of hr5], rfl⟩
        · rintro i x H2 hx best rfl
          obtain ⟨a, ha, rfl⟩ := map_get hx
          obtain ⟨r, hr5, hR⟩ := hA.get ha
          refine ⟨by show 1 ≤ sizeLine; decide, fun p2 hp2 => rest (.inl e2) p _ ⟨as, hp, hA⟩ s5 i r hr5 a hR ?_ p2 hp2⟩
          rw [if_pos e2]
          refine Gk.shortest_first hr5 fun j q hq => ?_
          have b := best j (by rw [List.length_map, hA.1]; exact get_lt hq)
          rw [keyAt_of hr5, keyAt_of hq] at b
          have l1 := hlf _ (List.mem_of_getElem? hr5)
          have l2 := hlf _ (List.mem_of_getElem? hq)
          unfold Gk.long
          exact ⟨by omega, fun z => by have := b.2 z; omega⟩
    · by_cases e3 : rule = 3
      · refine ⟨_, rfl, rfl, _, rfl, iteNT (vne (by omega)) ?_⟩
        refine ⟨_, rfl, rfl, _, rfl, iteNS (veq (by omega)) ?_⟩
        refine ⟨_, rfl, _, rfl, _, rfl, l, rs, n, al, rfl, hRs, h1, h2, hlen, fun H' p hF s5 => ?_⟩
        obtain ⟨as, hp, hA⟩ := hF
        refine ⟨_, rfl, _, _, rfl, .inl ⟨_, SqL.of hp, rfl⟩, rfl, _, rfl, ?_⟩
        by_cases ez : (as.map V.ref).length = 0
        · refine iteDT (veq (by omega)) ⟨_, rfl, k H' p ?_ s5⟩
          have e : Gk.fitting n al rs = [] := by
            refine List.eq_nil_of_length_eq_zero ?_
            rw [← hA.1, ← List.length_map (f := V.ref)]
            exact ez
          unfold toTry
          rw [if_neg e2, if_pos e3, e]
          exact ⟨as, hp, by rw [e] at hA; exact hA⟩
        · refine iteDF (vne (by omega)) ?_
          refine ⟨_, rfl, rfl, _, rfl, iteDF (vne (by omega)) ?_⟩
          refine ⟨_, rfl, p, as.map V.ref, keyAt (Gk.fitting n al rs), fun H2 => H2 = H', rfl, by omega, rfl, fun H2 e => by rw [e]; exact SqL.of hp, ?_, ?_⟩
          · rintro j x H2 hx rfl
            obtain ⟨a, ha, rfl⟩ := map_get hx
            obtain ⟨r, hr5, hR⟩ := hA.get ha
            exact ⟨a, r, rfl, hR, by rw [keyAt_of hr5], rfl⟩
          · rintro i x H2 hx best rfl
            obtain ⟨a, ha, rfl⟩ := map_get hx
            obtain ⟨r, hr5, hR⟩ := hA.get ha
            refine ⟨by show 1 ≤ sizeLine; decide, fun p2 hp2 => rest (.inr e3) p _ ⟨as, hp, hA⟩ s5 i r hr5 a hR ?_ p2 hp2⟩
            rw [if_neg e2]
            refine Gk.longest_first hr5 fun j q hq => ?_
            have b := best j (by rw [List.length_map, hA.1]; exact get_lt hq)
            rw [keyAt_of hr5, keyAt_of hq] at b
            have l1 := hlf _ (List.mem_of_getElem? hr5)
            have l2 := hlf _ (List.mem_of_getElem? hq)
            unfold Gk.long
            exact ⟨by omega, fun z => by have := b.2 z; omega⟩
      · refine ⟨_, rfl, rfl, _, rfl, iteNT (vne (by omega)) ?_⟩
        refine ⟨_, rfl, rfl, _, rfl, iteNT (vne (by omega)) ?_⟩
        refine ⟨_, rfl, k H l ?_ (Same.refl H)⟩
        unfold toTry
        rw [if_neg e2, if_neg e3]
        exact hRs
theorem ok_choose_address (T : Txt P w K mg t) : FnOk P w K mg base CX0 5 t.f_choose_address t.d_choose_address ["rows", "rule", "mark", "reach", "alignment"] (sp_choose_address t) := by
  have G_greatest_address : FnOk P w K mg base CX0 2 t.f_greatest_address t.d_greatest_address ["rows", "reach", "alignment"] (sp_greatest_address t) := ok_greatest_address T
  have G_least_address : FnOk P w K mg base CX0 3 t.f_least_address t.d_least_address ["rows", "reach", "alignment", "mark"] (sp_least_address t) := ok_least_address T
  have G_rows_to_try : FnOk P w K mg base CX0 4 t.f_rows_to_try t.d_rows_to_try ["rows", "rule", "reach", "alignment"] (sp_rows_to_try t) := ok_rows_to_try T
  refine T.F_choose_address.ok sc_choose_address (fun vs H Q E h => ?_) (fun cdv A outer s H vs Q E hr h => ?_)
  · obtain ⟨l, rs, rule, mark, n, al, rfl, _⟩ := h
    rfl
  · obtain ⟨l, rs, rule, mark, n, al, rfl, hRs, h1, h2, hlen, hle, h4, k⟩ := h
    refine ⟨_, (pss_cons (ps_if (pt_cmpR op_eq (pv 1) (pe_glob rfl T.m_GREATEST_ADDRESS T.r_GREATEST_ADDRESS) (nomark _)) (pss_one (ps_ret (pe_call G_greatest_address (hr.mono (by decide : 2 ≤ 4)) rfl T.m_greatest_address T.F_greatest_address.kp T.B_greatest_address .nil pass0 (pa_cons (pv 0) (pa_cons (pv 3) (pa_cons (pv 4) pa_nil)))))) pss_nil)
      (pss_cons (ps_if (pt_cmpR op_eq (pv 1) (pe_glob rfl T.m_BEHIND_MARK T.r_BEHIND_MARK) (nomark _)) (pss_cons (ps_set (i := 5) sc_choose_address.nd rfl (Or.inl rfl) (pe_call G_least_address (hr.mono (by decide : 3 ≤ 4)) rfl T.m_least_address T.F_least_address.kp T.B_least_address .nil pass0 (pa_cons (pv 0) (pa_cons (pv 3) (pa_cons (pv 4) (pa_cons (pv 2) pa_nil))))))
        (pss_one (ps_if (pt_cmp (pc_notN (pv 5))) (pss_one (ps_ret (pv 5))) pss_nil))) pss_nil)
      (pss_one (ps_ret (pe_call G_least_address (hr.mono (by decide : 3 ≤ 4)) rfl T.m_least_address T.F_least_address.kp T.B_least_address .nil pass0 (pa_cons (pe_call G_rows_to_try hr rfl T.m_rows_to_try T.F_rows_to_try.kp T.B_rows_to_try .nil pass0 (pa_cons (pv 0) (pa_cons (pv 1) (pa_cons (pv 3) (pa_cons (pv 4) pa_nil))))) (pa_cons (pv 3) (pa_cons (pv 4) (pa_cons pe_int pa_nil))))))))), ?_⟩
    have hk : 1 ≤ max n 1 := Nat.le_max_right _ _
    have last : ∀ rs' : List Gk.Row, toTry rule rs (max n 1) al = rs' → Gk.place rule mark rs n al = rs'.findSome? (Gk.lowIn (max n 1) al) → sp_rows_to_try t [.ref l, .int rule, .int ((max n 1 : Nat) : Int), .int al] H (fun x H1 => sp_least_address t [x, .int ((max n 1 : Nat) : Int), .int al, .int 0] H1 Q E0) E0 := by
      intro rs' e1 e2
      refine ⟨l, rs, rule, max n 1, al, rfl, hRs, h1, h2, hlen, hle, fun H' p hF s5 => ?_⟩
      refine ⟨p, rs', max n 1, al, 0, rfl, by rw [← e1]; exact hF, h1, h2, ?_⟩
      have e3 : (rs'.findSome? fun r => Gk.lowIn (max n 1) al (max r.1 0, r.2)) = rs'.findSome? (Gk.lowIn (max n 1) al) := by
        congr 1
        funext r
        rw [Gk.max_zero]
      rw [e3, ← e2]
      exact k H' s5
    by_cases e1 : rule = 1
    · refine ⟨_, rfl, rfl, _, rfl, iteDT (veq (by omega)) ?_⟩
      refine ⟨_, rfl, _, rfl, _, rfl, l, rs, max n 1, al, rfl, hRs, h1, h2, hk, ?_⟩
      have k := k H (Same.refl H)
      unfold Gk.place at k
      rw [if_neg (by omega), if_pos e1] at k
      exact k
    · refine ⟨_, rfl, rfl, _, rfl, iteDF (vne (by omega)) ?_⟩
      by_cases e4 : rule = 4
      · refine ⟨_, rfl, rfl, _, rfl, iteDT (veq (by omega)) ?_⟩
        refine ⟨_, rfl, _, rfl, _, rfl, _, rfl, l, rs, max n 1, al, mark, rfl, hRs, h1, h2, ?_⟩
        refine ⟨_, rfl, _, rfl, ?_⟩
        have pl : Gk.place rule mark rs n al = match (rs.findSome? fun r => Gk.lowIn (max n 1) al (max r.1 mark, r.2)) with
          | some p => some p
          | none => rs.findSome? (Gk.lowIn (max n 1) al) := by
          unfold Gk.place
          rw [if_neg (by omega), if_neg e1, if_neg (by omega), if_neg (by omega), Gk.behind_low h1 hk]
          rfl
        cases e : (rs.findSome? fun r => Gk.lowIn (max n 1) al (max r.1 mark, r.2)) with
        | none =>
          rw [e] at pl
          refine iteF ?_
          refine ⟨_, rfl, _, rfl, _, rfl, _, rfl, ?_⟩
          obtain ⟨l', rs1, rule', n', al', q1, q2, q3, q4, q5, q6, q7⟩ := last rs (by unfold toTry; rw [if_neg (by omega), if_neg (by omega)]) pl
          exact ⟨l', rs1, rule', n', al', q1, q2, q3, q4, q5, q6, fun H' p z1 z2 => ⟨_, rfl, _, rfl, q7 H' p z1 z2⟩⟩
        | some p =>
          rw [e] at pl
          have k := k H (Same.refl H)
          rw [pl] at k
          exact iteT ⟨_, rfl, k⟩
      · refine ⟨_, rfl, rfl, _, rfl, iteDF (vne (by omega)) ?_⟩
        refine ⟨_, rfl, _, rfl, _, rfl, _, rfl, ?_⟩
        have fin : ∀ rs' : List Gk.Row, toTry rule rs (max n 1) al = rs' → Gk.place rule mark rs n al = rs'.findSome? (Gk.lowIn (max n 1) al) → _ := fun rs' z1 z2 => last rs' z1 z2
        have done : sp_rows_to_try t [.ref l, .int rule, .int ((max n 1 : Nat) : Int), .int al] H (fun x H1 => sp_least_address t [x, .int ((max n 1 : Nat) : Int), .int al, .int 0] H1 Q E0) E0 := by
          by_cases e2 : rule = 2
          · refine last (Gk.shortest (Gk.fitting (max n 1) al rs)).toList (by unfold toTry; rw [if_pos e2]) ?_
            unfold Gk.place
            rw [if_neg (by omega), if_neg e1, if_pos e2]
            cases Gk.shortest (Gk.fitting (max n 1) al rs) with
            | none => rfl
            | some r =>
              show Gk.lowIn (max n 1) al r = [r].findSome? (Gk.lowIn (max n 1) al)
              rw [List.findSome?_cons]
              cases Gk.lowIn (max n 1) al r <;> rfl
          · by_cases e3 : rule = 3
            · refine last (Gk.longest (Gk.fitting (max n 1) al rs)).toList (by unfold toTry; rw [if_neg e2, if_pos e3]) ?_
              unfold Gk.place
              rw [if_neg (by omega), if_neg e1, if_neg e2, if_pos e3]
              cases Gk.longest (Gk.fitting (max n 1) al rs) with
              | none => rfl
              | some r =>
                show Gk.lowIn (max n 1) al r = [r].findSome? (Gk.lowIn (max n 1) al)
                rw [List.findSome?_cons]
                cases Gk.lowIn (max n 1) al r <;> rfl
            · refine last rs (by unfold toTry; rw [if_neg e2, if_neg e3]) ?_
              unfold Gk.place
              rw [if_pos (by omega)]
        obtain ⟨l', rs1, rule', n', al', q1, q2, q3, q4, q5, q6, q7⟩ := done
        exact ⟨l', rs1, rule', n', al', q1, q2, q3, q4, q5, q6, fun H' p z1 z2 => ⟨_, rfl, _, rfl, q7 H' p z1 z2⟩⟩
end
end Gp

set_option Elab.async false
set_option linter.all false
set_option maxRecDepth 100000
set_option maxHeartbeats 4000000
/-! What stands for the ground; its reckoning. -/
namespace Gp
open PySem PySem.Spec PyProof.Rows L2

/-! ### tables -/
theorem valV_mem {κ : Type} [DecidableEq κ] : ∀ {l : List (κ × V)} {k : κ} {v : V}, (l.map (·.1)).Nodup → (k, v) ∈ l → valV l k = some v
  | [], _, _, _, h => by simp at h
  | p :: r, k, v, nd, h => by
    have nd : (p.1 :: r.map (·.1)).Nodup := nd
    obtain ⟨n1, n2⟩ := List.nodup_cons.mp nd
    rcases List.mem_cons.mp h with e | h
    · rw [← e]
      exact valV_pos rfl
    · rw [valV_neg (fun e => n1 (by rw [e]; exact List.mem_map.mpr ⟨_, h, rfl⟩))]
      exact valV_mem n2 h
theorem valV_none {κ : Type} [DecidableEq κ] {l : List (κ × V)} {k : κ} (h : ∀ p ∈ l, p.1 ≠ k) : valV l k = none := by
  unfold valV
  rw [List.find?_eq_none.mpr (fun p hp => by simpa using h p hp)]
  rfl
theorem mem_of_valV {κ : Type} [DecidableEq κ] {l : List (κ × V)} {k : κ} {v : V} (h : valV l k = some v) : (k, v) ∈ l := by
  unfold valV at h
  obtain ⟨p, e1, e2⟩ := Option.map_eq_some_iff.mp h
  have m := List.mem_of_find?_eq_some e1
  have q := List.find?_some e1
  have q : p.1 = k := by simpa using q
  rw [← q, ← e2]
  exact m
theorem perm_nodup {κ : Type} {l m : List (κ × V)} (p : l.Perm m) (h : (m.map (·.1)).Nodup) : (l.map (·.1)).Nodup := (p.map (·.1)).nodup_iff.mpr h
theorem valV_perm {κ : Type} [DecidableEq κ] {l m : List (κ × V)} {k : κ} (p : l.Perm m) (h : (m.map (·.1)).Nodup) : valV l k = valV m k := by
  cases e : valV m k with
  | none => exact valV_none fun q hq z => valV_not e (by rw [← z]; exact List.mem_map.mpr ⟨q, p.mem_iff.mp hq, rfl⟩)
  | some v => exact valV_mem (perm_nodup p h) (p.mem_iff.mpr (mem_of_valV e))
/-- keys that are ints, in any order -/
def keyI : Key → Int
  | .inl i => i
  | .inr _ => 0
def kvOf (q : Gk.Block × Addr) : Key × V := (Sum.inl (q.1.at_ : Int), V.ref q.2)
theorem keys_of {kvs : List (Key × V)} {bs : List (Gk.Block × Addr)} (p : kvs.Perm (bs.map kvOf)) : kvs.map (·.1) = ((kvs.map fun kv => keyI kv.1)).map Sum.inl ∧ (kvs.map fun kv => keyI kv.1).Perm (bs.map fun q => (q.1.at_ : Int)) := by
  refine ⟨?_, ?_⟩
  · rw [List.map_map]
    refine List.map_congr_left fun kv hk => ?_
    obtain ⟨q, _, e⟩ := List.mem_map.mp (p.mem_iff.mp hk)
    rw [← e]
    rfl
  · have e : (bs.map fun q => (q.1.at_ : Int)) = (bs.map kvOf).map fun kv => keyI kv.1 := by
      rw [List.map_map]
      rfl
    rw [e]
    exact p.map _

/-! ### bytes -/
def bV (s : Gk.Bytes) : List V := s.map fun b => V.int (b.toNat : Int)
theorem bV_len (s : Gk.Bytes) : (bV s).length = s.length := List.length_map _
theorem bV_zeros (n : Nat) : (List.replicate n [V.int 0]).flatten = bV (List.replicate n 0) := by
  induction n with
  | zero => rfl
  | succ n ih =>
    rw [List.replicate_succ, List.flatten_cons, ih, List.replicate_succ]
    rfl
theorem ixN_nat {n j : Nat} (h : j < n) : ixN n (j : Int) = some j := by
  unfold ixN
  rw [if_pos (by omega), if_pos (by omega), Int.toNat_natCast]
theorem set_write {s l : Gk.Bytes} {p : Nat} {w : UInt8} (h : p + l.length < s.length) : (bV (Gk.writeAt s p l)).set (p + l.length) (V.int (w.toNat : Int)) = bV (Gk.writeAt s p (l ++ [w])) := by
  have e : (Gk.writeAt s p l).set (p + l.length) w = Gk.writeAt s p (l ++ [w]) := by
    unfold Gk.writeAt
    have h1 : (s.take p).length = p := by rw [List.length_take]; omega
    rw [List.set_append_right _ _ (by omega), h1, Nat.add_sub_cancel_left, List.set_append_right _ _ (Nat.le_refl _), Nat.sub_self]
    obtain ⟨x, hx⟩ : ∃ x, s[p + l.length]? = some x := ⟨_, List.getElem?_eq_getElem h⟩
    rw [drop_get hx, List.length_append, List.append_assoc]
    rfl
  rw [← e]
  unfold bV
  rw [List.map_set]
theorem cut_read {s : Gk.Bytes} {p n : Nat} (h : p + n ≤ s.length) : cutV (bV s) (some (p : Int)) (some ((p : Int) + (n : Int))) = bV (Gk.readAt s p n) := by
  unfold cutV
  rw [show ((p : Int) + (n : Int)) = ((p + n : Nat) : Int) by omega, HT.sIx_nat, HT.sIx_nat, bV_len, Nat.min_eq_left (show p ≤ s.length by omega), Nat.min_eq_left h, Nat.add_sub_cancel_left]
  unfold bV Gk.readAt
  rw [List.map_take, List.map_drop]

/-! ### walks -/
def WK (ws : List (Option Nat)) (kv : List (Key × V)) : Prop := (kv.map (·.1)).Nodup ∧ kv.length = (ws.filter Option.isSome).length ∧ ∀ i : Nat, valV kv (.inl (i : Int)) = (ws.getD i none).map fun n => V.int (n : Int)
theorem wk_none (n : Nat) : WK (List.replicate n none) [] := by
  refine ⟨List.nodup_nil, ?_, fun i => ?_⟩
  · induction n with
    | zero => rfl
    | succ n ih =>
      rw [List.replicate_succ, List.filter_cons]
      exact ih
  · rw [valV_nil]
    have e : (List.replicate n (none : Option Nat)).getD i none = none := by
      rw [List.getD_eq_getElem?_getD, List.getElem?_replicate]
      split <;> rfl
    rw [e]
    rfl
theorem WK.few {ws : List (Option Nat)} {kv : List (Key × V)} (h : WK ws kv) : kv.length ≤ ws.length := by
  rw [h.2.1]
  exact List.length_filter_le _ _
theorem count_set : ∀ {ws : List (Option Nat)} {i : Nat} {o n : Option Nat}, ws[i]? = some o → ((ws.set i n).filter Option.isSome).length + (if o.isSome = true then 1 else 0) = (ws.filter Option.isSome).length + (if n.isSome = true then 1 else 0)
  | [], i, o, n, h => by simp at h
  | a :: r, 0, o, n, h => by
    have e : a = o := Option.some.inj h
    subst e
    show ((n :: r).filter Option.isSome).length + _ = ((a :: r).filter Option.isSome).length + _
    rw [List.filter_cons, List.filter_cons]
    split <;> split <;> simp_all <;> omega
  | a :: r, i + 1, o, n, h => by
    have ih := count_set (ws := r) (i := i) (o := o) (n := n) h
    show ((a :: r.set i n).filter Option.isSome).length + _ = ((a :: r).filter Option.isSome).length + _
    rw [List.filter_cons, List.filter_cons]
    by_cases q : a.isSome = true
    · rw [if_pos q, if_pos q, List.length_cons, List.length_cons]
      omega
    · rw [if_neg q, if_neg q]
      exact ih
theorem getD_set {ws : List (Option Nat)} {i j : Nat} {n : Option Nat} (h : i < ws.length) : (ws.set i n).getD j none = if j = i then n else ws.getD j none := by
  rw [List.getD_eq_getElem?_getD, List.getD_eq_getElem?_getD]
  by_cases e : j = i
  · rw [if_pos e, e, List.getElem?_set_self h]
    rfl
  · rw [if_neg e, List.getElem?_set_ne (fun q => e q.symm)]
theorem key_int {i j : Nat} : ((Sum.inl (i : Int) : Key) = Sum.inl (j : Int)) ↔ i = j := ⟨fun e => by have := Sum.inl.inj e; omega, fun e => by rw [e]⟩
/-- a walk begins -/
theorem WK.begin {ws : List (Option Nat)} {kv : List (Key × V)} {i p : Nat} (h : WK ws kv) (hi : ws[i]? = some none) : WK (ws.set i (some p)) (putK kv (.inl (i : Int)) (.int (p : Int))) := by
  have hlt := get_lt hi
  have hv : valV kv (.inl (i : Int)) = none := by
    rw [h.2.2 i, List.getD_eq_getElem?_getD, hi]
    rfl
  refine ⟨nd_putK _ h.1 hv, ?_, fun j => ?_⟩
  · have c := count_set (n := some p) hi
    rw [putK_new _ hv, List.length_append, h.2.1]
    simp at c ⊢
    omega
  · rw [valV_put, getD_set hlt, h.2.2 j]
    by_cases e : j = i
    · rw [if_pos (by rw [e]), if_pos e]
      rfl
    · rw [if_neg (fun z => e (key_int.mp z)), if_neg e]
theorem putK_keys {κ : Type} [DecidableEq κ] {kv : List (κ × V)} {k : κ} {v u : V} (h : valV kv k = some u) : (putK kv k v).map (·.1) = kv.map (·.1) := by
  unfold putK
  rw [valV_any, h, if_pos (show (some u).isSome = true from rfl), List.map_map]
  refine List.map_congr_left fun q _ => ?_
  show (if q.1 = k then (q.1, v) else q).1 = q.1
  split <;> rfl
/-- a walk goes on -/
theorem WK.turn {ws : List (Option Nat)} {kv : List (Key × V)} {i p p' : Nat} (h : WK ws kv) (hi : ws[i]? = some (some p)) : WK (ws.set i (some p')) (putK kv (.inl (i : Int)) (.int (p' : Int))) := by
  have hlt := get_lt hi
  have hv : valV kv (.inl (i : Int)) = some (.int (p : Int)) := by
    rw [h.2.2 i, List.getD_eq_getElem?_getD, hi]
    rfl
  have hk := putK_keys (v := .int (p' : Int)) hv
  refine ⟨by rw [hk]; exact h.1, ?_, fun j => ?_⟩
  · have c := count_set (n := some p') hi
    have e : (putK kv (.inl (i : Int)) (.int (p' : Int))).length = kv.length := by
      have := congrArg List.length hk
      rw [List.length_map, List.length_map] at this
      exact this
    rw [e, h.2.1]
    simp at c
    omega
  · rw [valV_put, getD_set hlt, h.2.2 j]
    by_cases e : j = i
    · rw [if_pos (by rw [e]), if_pos e]
      rfl
    · rw [if_neg (fun z => e (key_int.mp z)), if_neg e]
theorem valV_drop {κ : Type} [DecidableEq κ] (k j : κ) : ∀ kv : List (κ × V), valV (dropK kv k) j = if j = k then none else valV kv j
  | [] => by
    show (none : Option V) = _
    split <;> rfl
  | p :: r => by
    have ih := valV_drop k j r
    by_cases e : p.1 = k
    · rw [dropK_pos e, ih]
      by_cases q : j = k
      · rw [if_pos q, if_pos q]
      · rw [if_neg q, if_neg q, valV_neg (fun z => q (z.symm.trans e))]
    · rw [dropK_neg e]
      by_cases z : p.1 = j
      · rw [valV_pos z, valV_pos z, if_neg (fun q => e (z.trans q))]
      · rw [valV_neg z, valV_neg z, ih]
/-- a walk ends -/
theorem WK.fin {ws : List (Option Nat)} {kv : List (Key × V)} {i p : Nat} (h : WK ws kv) (hi : ws[i]? = some (some p)) : WK (ws.set i none) (dropK kv (.inl (i : Int))) := by
  have hlt := get_lt hi
  have hv : valV kv (.inl (i : Int)) = some (.int (p : Int)) := by
    rw [h.2.2 i, List.getD_eq_getElem?_getD, hi]
    rfl
  refine ⟨nd_dropK h.1, ?_, fun j => ?_⟩
  · have c := count_set (n := none) hi
    have d := dropK_len h.1 (valV_in hv)
    rw [h.2.1] at d
    simp at c
    omega
  · rw [valV_drop, getD_set hlt, h.2.2 j]
    by_cases e : j = i
    · rw [if_pos (by rw [e]), if_pos e]
      rfl
    · rw [if_neg (fun z => e (key_int.mp z)), if_neg e]

/-! ### blocks with their objects -/
def placedP (q : Gk.Block × Addr) : List (Gk.Block × Addr) → List (Gk.Block × Addr)
  | [] => [q]
  | c :: r => if q.1.at_ < c.1.at_ then q :: c :: r else c :: placedP q r
theorem placedP_fst (q : Gk.Block × Addr) : ∀ l, (placedP q l).map (·.1) = Gk.placed q.1 (l.map (·.1))
  | [] => rfl
  | c :: r => by
    unfold placedP
    show _ = Gk.placed q.1 (c.1 :: r.map (·.1))
    unfold Gk.placed
    split
    · rfl
    · rw [List.map_cons, placedP_fst q r]
theorem placedP_perm (q : Gk.Block × Addr) : ∀ l, (placedP q l).Perm (q :: l)
  | [] => .refl _
  | c :: r => by
    unfold placedP
    split
    · exact .refl _
    · exact ((placedP_perm q r).cons c).trans (.swap _ _ _)

structure GD where
  dx : Addr
  st : Addr
  bl : Addr
  wk : Addr
  kvs : List (Key × V)
  bs : List (Gk.Block × Addr)
  wkv : List (Key × V)
/-- what the ground is made of -/
def Foot (p : Addr) (x : GD) (b : Addr) : Prop := b = p ∨ b = x.st ∨ b = x.bl ∨ b = x.wk ∨ ∃ q ∈ x.bs, b = q.2
theorem Foot.p {p : Addr} {x : GD} : Foot p x p := .inl rfl
theorem Foot.s {p : Addr} {x : GD} : Foot p x x.st := .inr (.inl rfl)
theorem Foot.b {p : Addr} {x : GD} : Foot p x x.bl := .inr (.inr (.inl rfl))
theorem Foot.w {p : Addr} {x : GD} : Foot p x x.wk := .inr (.inr (.inr (.inl rfl)))
theorem Foot.a {p : Addr} {x : GD} {q : Gk.Block × Addr} (h : q ∈ x.bs) : Foot p x q.2 := .inr (.inr (.inr (.inr ⟨q, h, rfl⟩)))
/-- THE GROUND g stands at p -/
structure GA (t : Adr) (H : Hp) (p : Addr) (g : Gk.Ground) (x : GD) : Prop where
  ins : H p = some (.ins t.c_Ground x.dx (gdF g.size g.rule x.st x.bl g.depth g.mark x.wk))
  sto : H x.st = some (.lst (bV g.bytes))
  blo : H x.bl = some (.dK x.kvs)
  wal : H x.wk = some (.dK x.wkv)
  bw : x.bl ≠ x.wk
  eqb : g.blocks = x.bs.map (·.1)
  perm : x.kvs.Perm (x.bs.map kvOf)
  blk : ∀ q ∈ x.bs, BA t H q.2 q.1
  wks : WK g.walks x.wkv
theorem GA.keep {t : Adr} {H H' : Hp} {p : Addr} {g : Gk.Ground} {x : GD} (G : GA t H p g x) (k : ∀ b o, Foot p x b → H b = some o → H' b = some o) : GA t H' p g x :=
  ⟨k _ _ Foot.p G.ins, k _ _ Foot.s G.sto, k _ _ Foot.b G.blo, k _ _ Foot.w G.wal, G.bw, G.eqb, G.perm, fun q hq => let ⟨dx, e⟩ := G.blk q hq; ⟨dx, k _ _ (Foot.a hq) e⟩, G.wks⟩
theorem GA.alive {t : Adr} {H : Hp} {p : Addr} {g : Gk.Ground} {x : GD} {b : Addr} (G : GA t H p g x) (h : Foot p x b) : ∃ o, H b = some o := by
  rcases h with h | h | h | h | ⟨q, hq, h⟩
  · rw [h]; exact ⟨_, G.ins⟩
  · rw [h]; exact ⟨_, G.sto⟩
  · rw [h]; exact ⟨_, G.blo⟩
  · rw [h]; exact ⟨_, G.wal⟩
  · obtain ⟨dx, e⟩ := G.blk q hq
    rw [h]; exact ⟨_, e⟩
theorem GA.out {t : Adr} {H : Hp} {p : Addr} {g : Gk.Ground} {x : GD} {b : Addr} (G : GA t H p g x) (h : H b = none) : ¬ Foot p x b := fun f => by
  obtain ⟨o, e⟩ := G.alive f
  rw [h] at e
  cases e
/-- a list that is not the store -/
theorem GA.outL {t : Adr} {H : Hp} {p : Addr} {g : Gk.Ground} {x : GD} {l : Addr} {xs : List V} (G : GA t H p g x) (h : H l = some (.lst xs)) (n : l ≠ x.st) : ¬ Foot p x l := fun f => by
  rcases f with e | e | e | e | ⟨q, hq, e⟩
  · rw [e, G.ins] at h; cases h
  · exact n e
  · rw [e, G.blo] at h; cases h
  · rw [e, G.wal] at h; cases h
  · obtain ⟨dx, z⟩ := G.blk q hq
    rw [e, z] at h; cases h
theorem GA.same {t : Adr} {H H' : Hp} {p : Addr} {g : Gk.Ground} {x : GD} (G : GA t H p g x) (s : Same H H') : GA t H' p g x := G.keep fun b o _ e => s b o e
section
variable {t : Adr} {H : Hp} {p : Addr} {g : Gk.Ground} {x : GD}
theorem GA.sorted (G : GA t H p g x) (W : Gk.Wf g) : x.bs.Pairwise fun b c => b.1.at_ < c.1.at_ := by
  have h := W.fit.sorted
  rw [G.eqb, List.pairwise_map] at h
  exact h
theorem GA.keysnd (G : GA t H p g x) (W : Gk.Wf g) : ((x.bs.map kvOf).map (·.1)).Nodup := by
  rw [List.map_map]
  refine List.Pairwise.map _ (R := fun b c => b.1.at_ < c.1.at_) (fun a b h e => ?_) (G.sorted W)
  have := key_int.mp e
  omega
theorem GA.addrs (G : GA t H p g x) (W : Gk.Wf g) : (x.bs.map (·.2)).Nodup := by
  have hp : x.bs.Pairwise fun b c => b.2 ≠ c.2 := by
    refine List.Pairwise.imp_of_mem (fun {a b} ha hb h e => ?_) (G.sorted W)
    obtain ⟨d1, e1⟩ := G.blk a ha
    obtain ⟨d2, e2⟩ := G.blk b hb
    rw [e, e2] at e1
    injection e1 with e1
    injection e1 with _ _ e1
    have l1 := bkF_address a.1.at_ a.1.n a.1.align a.1.group
    have l2 := bkF_address b.1.at_ b.1.n b.1.align b.1.group
    rw [← e1] at l1
    have := l2.symm.trans l1
    have := V.int.inj (Option.some.inj this)
    omega
  exact List.pairwise_map.mpr hp
theorem GA.len (G : GA t H p g x) (W : Gk.Wf g) : x.bs.length ≤ 2048 := by
  have h : ∀ {l : List Gk.Block} {e d q : Nat}, Gk.Fit e d q l → q + l.length ≤ e := by
    intro l
    induction l with
    | nil => exact fun f => f.le
    | cons b r ih =>
      intro e d q f
      have h1 := f.mem (List.mem_cons_self ..)
      have h2 : Gk.Fit e d b.halt_ r := f.2.2.2.2
      have := ih h2
      have := Gk.halt_gt b
      rw [List.length_cons]
      omega
  have := h W.fit
  rw [G.eqb, List.length_map] at this
  have := W.size
  omega
theorem GA.val (G : GA t H p g x) (W : Gk.Wf g) {q : Gk.Block × Addr} (hq : q ∈ x.bs) : valV x.kvs (.inl (q.1.at_ : Int)) = some (.ref q.2) := by
  rw [valV_perm G.perm (G.keysnd W)]
  exact valV_mem (G.keysnd W) (List.mem_map.mpr ⟨q, hq, rfl⟩)
theorem GA.find_none (G : GA t H p g x) {a : Nat} (h : g.find a = none) : valV x.kvs (.inl (a : Int)) = none := by
  refine valV_none fun kv hk e => ?_
  obtain ⟨q, hq, e2⟩ := List.mem_map.mp (G.perm.mem_iff.mp hk)
  unfold Gk.Ground.find at h
  have := List.find?_eq_none.mp h q.1 (by rw [G.eqb]; exact List.mem_map.mpr ⟨q, hq, rfl⟩)
  rw [← e2] at e
  exact this (by simpa using key_int.mp e)
theorem GA.find_some (G : GA t H p g x) (W : Gk.Wf g) {a : Nat} {b : Gk.Block} (h : g.find a = some b) : ∃ ad, (b, ad) ∈ x.bs ∧ b.at_ = a ∧ valV x.kvs (.inl (a : Int)) = some (.ref ad) ∧ BA t H ad b := by
  obtain ⟨hm, ha⟩ := Gk.find_mem h
  rw [G.eqb] at hm
  obtain ⟨q, hq, e⟩ := List.mem_map.mp hm
  have v := G.val W hq
  have e : q.1 = b := e
  rw [e, ha] at v
  have k := G.blk q hq
  rw [e] at k
  exact ⟨q.2, by rw [← e]; exact hq, ha, v, k⟩
theorem GA.ne_st (G : GA t H p g x) {l : Addr} {xs : List V} (h : H l = some (.lst xs)) : p ≠ l ∧ x.bl ≠ l ∧ x.wk ≠ l := ⟨ne_of G.ins h (by intro z; cases z), ne_of G.blo h (by intro z; cases z), ne_of G.wal h (by intro z; cases z)⟩
/-- a block and the ground itself stand apart -/
theorem bk_gd {t : Adr} {C C' dx dx' : Addr} {a n al gr s r : Int} {st bl : Addr} {d m : Int} {wk : Addr} : HO.ins C dx (bkF a n al gr) ≠ HO.ins C' dx' (gdF s r st bl d m wk) := by
  intro z
  injection z with _ _ z
  have := congrArg List.length z
  exact absurd this (by show ¬ 4 = 7; decide)
end
end Gp

set_option Elab.async false
set_option linter.all false
set_option maxRecDepth 100000
set_option maxHeartbeats 4000000
/-! The ground's methods. -/
namespace Gp
open PySem PySem.Spec PyProof.Rows L2

theorem yesT {σ : L2.St} {H : Hp} {A B : Hp → Prop} (h : A H) : tYes σ H (fun b H3 => if b = true then A H3 else B H3) := iteT (B := B H) h
def IsGd (fs : List (Str × V)) : Prop := fs = [] ∨ ∃ (a b : Int) (c d : Addr) (e f : Int) (g : Addr), fs = gdF a b c d e f g
theorem IsGd.len {fs : List (Str × V)} (h : IsGd fs) : fs.length ≤ 7 := by
  rcases h with rfl | ⟨a, b, c, d, e, f, g, rfl⟩
  · exact Nat.zero_le _
  · exact Nat.le_refl _
theorem gd_all {fs : List (Str × V)} (h : IsGd fs) (s r : Int) (st bl : Addr) (d m : Int) (wk : Addr) :
    putF "walks" (.ref wk) (putF "mark" (.int m) (putF "depth" (.int d) (putF "blocks" (.ref bl) (putF "store" (.ref st) (putF "rule" (.int r) (putF "size" (.int s) fs)))))) = gdF s r st bl d m wk := by
  rcases h with rfl | ⟨a, b, c, d', e, f, g, rfl⟩
  · rw [gdF_new0, gdF_new1, gdF_new2, gdF_new3, gdF_new4, gdF_new5, gdF_new6]
    rfl
  · rw [show putF "size" (V.int s) (gdF a b c d' e f g) = gdF s b c d' e f g from gdF_put_size a b c d' e f g (.int s),
      show putF "rule" (V.int r) (gdF s b c d' e f g) = gdF s r c d' e f g from gdF_put_rule s b c d' e f g (.int r),
      show putF "store" (V.ref st) (gdF s r c d' e f g) = gdF s r st d' e f g from gdF_put_store s r c d' e f g (.ref st),
      show putF "blocks" (V.ref bl) (gdF s r st d' e f g) = gdF s r st bl e f g from gdF_put_blocks s r st d' e f g (.ref bl),
      show putF "depth" (V.int d) (gdF s r st bl e f g) = gdF s r st bl d f g from gdF_put_depth s r st bl e f g (.int d),
      show putF "mark" (V.int m) (gdF s r st bl d f g) = gdF s r st bl d m g from gdF_put_mark s r st bl d f g (.int m),
      show putF "walks" (V.ref wk) (gdF s r st bl d m g) = gdF s r st bl d m wk from gdF_put_walks s r st bl d m g (.ref wk)]

def sp_Ground_begin (t : Adr) : Sp := fun vs H Q _ => ∃ (p dx : Addr) (fs : List (Str × V)) (size rule : Nat), vs = [.ref p, .int size, .int rule] ∧ H p = some (.ins t.c_Ground dx fs) ∧ IsGd fs ∧ size ≤ 2048 ∧
  ∀ (H' : Hp) (x : GD), GA t H' p (Gk.opened size rule) x → (∀ b, Foot p x b → b = p ∨ H b = none) → (∀ b o, H b = some o → b ≠ p → H' b = some o) → Q .non H'
def sp_Ground_init (t : Adr) : Sp := fun vs H Q _ => ∃ (p dx : Addr), vs = [.ref p] ∧ H p = some (.ins t.c_Ground dx []) ∧
  ∀ (H' : Hp) (x : GD), GA t H' p Gk.start x → (∀ b, Foot p x b → b = p ∨ H b = none) → (∀ b o, H b = some o → b ≠ p → H' b = some o) → Q .non H'
def sp_blocks_in_order (t : Adr) : Sp := fun vs H Q _ => ∃ (p : Addr) (g : Gk.Ground) (x : GD), vs = [.ref p] ∧ GA t H p g x ∧ Gk.Wf g ∧
  ∀ (H' : Hp) (l : Addr), H' l = some (.lst (x.bs.map fun q => V.ref q.2)) → Same H H' → H l = none → Q (.ref l) H'
def sp_innermost_blocks (t : Adr) : Sp := fun vs H Q _ => ∃ (p : Addr) (g : Gk.Ground) (x : GD), vs = [.ref p] ∧ GA t H p g x ∧ Gk.Wf g ∧
  ∀ (H' : Hp) (l : Addr), H' l = some (.lst ((x.bs.filter fun q => q.1.group == g.depth).map fun q => V.ref q.2)) → Same H H' → H l = none → Q (.ref l) H'
def sp_address_from (t : Adr) : Sp := fun vs H Q _ => ∃ (p : Addr) (g : Gk.Ground) (x : GD) (pl : Nat), vs = [.ref p, .int pl] ∧ GA t H p g x ∧ Gk.Wf g ∧
  ∀ H' : Hp, Same H H' → Q (optV ((g.blocks.find? fun b => decide (pl ≤ b.at_)).map Gk.Block.at_)) H'
def sp_Ground_rows (t : Adr) : Sp := fun vs H Q _ => ∃ (p : Addr) (g : Gk.Ground) (x : GD), vs = [.ref p] ∧ GA t H p g x ∧ Gk.Wf g ∧
  ∀ (H' : Hp) (l : Addr), RsA t H' l g.rows → Same H H' → Q (.ref l) H'
def sp_rows_without (t : Adr) : Sp := fun vs H Q _ => ∃ (p : Addr) (g : Gk.Ground) (x : GD) (a : Nat), vs = [.ref p, .int a] ∧ GA t H p g x ∧ Gk.Wf g ∧
  ∀ (H' : Hp) (l : Addr), RsA t H' l (Gk.rows g.size (Gk.without a g.blocks)) → Same H H' → Q (.ref l) H'
def sp_settle (t : Adr) : Sp := fun vs H Q _ => ∃ (p : Addr) (g : Gk.Ground) (x : GD) (a : Addr) (b : Gk.Block), vs = [.ref p, .ref a] ∧ GA t H p g x ∧ BA t H a b ∧ (∀ q ∈ x.bs, q.1.at_ ≠ b.at_) ∧ x.bs.length ≤ 3000 ∧
  ∀ (H' : Hp) (x' : GD), GA t H' p (g.put b) x' → (∀ c, Foot p x' c → Foot p x c ∨ c = a) → x'.st = x.st → (∀ c o, H c = some o → ¬ Foot p x c → H' c = some o) → Q .non H'
/-- the ground's store alone -/
def SA (t : Adr) (H : Hp) (p st : Addr) (s : Gk.Bytes) : Prop := (∃ (dx : Addr) (a b : Int) (d : Addr) (e f : Int) (g : Addr), H p = some (.ins t.c_Ground dx (gdF a b st d e f g))) ∧ H st = some (.lst (bV s))
def sp_bytes_from (t : Adr) : Sp := fun vs H Q _ => ∃ (p st : Addr) (s : Gk.Bytes) (ad n : Nat), vs = [.ref p, .int ad, .int n] ∧ SA t H p st s ∧ ad + n ≤ s.length ∧
  ∀ (H' : Hp) (l : Addr), H' l = some (.lst (bV (Gk.readAt s ad n))) → Same H H' → H l = none → Q (.ref l) H'
def sp_put (t : Adr) : Sp := fun vs H Q _ => ∃ (p st : Addr) (s : Gk.Bytes) (ad : Nat) (l : Addr) (ws : Gk.Bytes), vs = [.ref p, .int ad, .ref l] ∧ SA t H p st s ∧ H l = some (.lst (bV ws)) ∧ l ≠ st ∧ ad + ws.length ≤ s.length ∧
  ∀ H' : Hp, H' st = some (.lst (bV (Gk.writeAt s ad ws))) → (∀ c o, H c = some o → c ≠ st → H' c = some o) → Q .non H'
def sp_pack (t : Adr) : Sp := fun vs H Q _ => ∃ (p : Addr) (g : Gk.Ground) (x : GD), vs = [.ref p] ∧ GA t H p g x ∧ Gk.Wf g ∧
  ∀ (H' : Hp) (x' : GD), GA t H' p { g with blocks := (Gk.packs 0 g.bytes g.blocks).1, bytes := (Gk.packs 0 g.bytes g.blocks).2 } x' → (∀ c, Foot p x' c → Foot p x c ∨ H c = none) → (∀ c o, H c = some o → ¬ Foot p x c → H' c = some o) → Q .non H'

theorem GA.sa {t : Adr} {H : Hp} {p : Addr} {g : Gk.Ground} {x : GD} (G : GA t H p g x) : SA t H p x.st g.bytes := ⟨⟨_, _, _, _, _, _, _, G.ins⟩, G.sto⟩
/-- bytes written -/
theorem GA.wrote {t : Adr} {H H' : Hp} {p : Addr} {g : Gk.Ground} {x : GD} {s : Gk.Bytes} (G : GA t H p g x) (hs : s.length = g.bytes.length) (h : H' x.st = some (.lst (bV s))) (k : ∀ c o, H c = some o → c ≠ x.st → H' c = some o) :
    GA t H' p { g with bytes := s } x := by
  have n := G.ne_st G.sto
  refine ⟨?_, h, k _ _ G.blo n.2.1, k _ _ G.wal n.2.2, G.bw, G.eqb, G.perm, fun q hq => ?_, G.wks⟩
  · have e : ({ g with bytes := s } : Gk.Ground).size = g.size := hs
    rw [e]
    exact k _ _ G.ins n.1
  · obtain ⟨dx, e⟩ := G.blk q hq
    exact ⟨dx, k _ _ e (ne_of e G.sto (by intro z; cases z))⟩

section
variable {P : Program} {w : World} {K : PySem.W.Frag} {mg : Str → Option Value} {base : Heap} {t : Adr}
theorem ok_Ground_begin (T : Txt P w K mg t) : FnOk P w K mg base CX0 1 t.f_Ground_begin t.d_Ground_begin ["self", "size", "rule"] (sp_Ground_begin t) := by
  refine T.F_Ground_begin.ok sc_Ground_begin (fun vs H Q E h => ?_) (fun cdv A outer s H vs Q E hr h => ?_)
  · obtain ⟨p, dx, fs, size, rule, rfl, _⟩ := h
    rfl
  · obtain ⟨p, dx, fs, size, rule, rfl, hp, hg, hs, k⟩ := h
    refine ⟨_, (pss_cons (ps_fld (pv 0) (pv 1) rfl)
      (pss_cons (ps_fld (pv 0) (pv 2) rfl)
      (pss_cons (ps_fld (pv 0) (pe_op op_rep (pe_lst (pa_cons pe_int pa_nil)) (pv 1)) rfl)
      (pss_cons (ps_fld (pv 0) pe_dnewK rfl)
      (pss_cons (ps_fld (pv 0) pe_int rfl)
      (pss_cons (ps_fld (pv 0) pe_int rfl)
      (pss_one (ps_fld (pv 0) pe_dnewK rfl)))))))), ?_⟩
    have gl := hg.len
    refine ⟨_, rfl, _, rfl, p, t.c_Ground, dx, fs, rfl, hp, T.C_Ground, T.n_Ground_size, few gl, ?_⟩
    refine ⟨_, rfl, _, rfl, p, t.c_Ground, dx, _, rfl, upd_same, T.C_Ground, T.n_Ground_rule, few (fl gl), ?_⟩
    refine ⟨(by show 1 ≤ sizeLine; decide), fun l1 hl1 => ?_⟩
    have nl : p ≠ l1 := ne_of_none upd_same hl1
    have hl1' : H l1 = none := by
      rw [upd_ne nl.symm, upd_ne nl.symm] at hl1
      exact hl1
    have hsz : (2048 : Nat) ≤ sizeLine := by decide
    refine ⟨_, rfl, l1, size, [.int 0], rfl, rfl, upd_same, by omega, by omega, by rw [Int.toNat_natCast]; show 1 * size ≤ sizeLine; omega, fun st hst => ?_⟩
    have ns1 : st ≠ l1 := fun e => by rw [e, upd_same] at hst; cases hst
    have ns : p ≠ st := fun e => by rw [← e, upd_ne nl, upd_same] at hst; cases hst
    have hst' : H st = none := by
      rw [upd_ne ns1, upd_ne ns.symm, upd_ne ns.symm] at hst
      exact hst
    refine ⟨_, rfl, p, t.c_Ground, dx, _, rfl, (by rw [upd_ne ns, upd_ne nl, upd_same]), T.C_Ground, T.n_Ground_store, few (fl (fl gl)), ?_⟩
    intro bl hbl
    have nb : p ≠ bl := fun e => by rw [← e, upd_same] at hbl; cases hbl
    have nbs : bl ≠ st := fun e => by rw [e, upd_ne ns.symm, upd_same] at hbl; cases hbl
    have nb1 : bl ≠ l1 := fun e => by rw [e, upd_ne nl.symm, upd_ne ns1.symm, upd_same] at hbl; cases hbl
    have hbl' : H bl = none := by
      rw [upd_ne nb.symm, upd_ne nbs, upd_ne nb1, upd_ne nb.symm, upd_ne nb.symm] at hbl
      exact hbl
    refine ⟨_, rfl, p, t.c_Ground, dx, _, rfl, (by rw [upd_ne nb, upd_same]), T.C_Ground, T.n_Ground_blocks, few (fl (fl (fl gl))), ?_⟩
    refine ⟨_, rfl, p, t.c_Ground, dx, _, rfl, upd_same, T.C_Ground, T.n_Ground_depth, few (fl (fl (fl (fl gl)))), ?_⟩
    refine ⟨_, rfl, p, t.c_Ground, dx, _, rfl, upd_same, T.C_Ground, T.n_Ground_mark, few (fl (fl (fl (fl (fl gl))))), ?_⟩
    intro wk hwk
    have nw : p ≠ wk := fun e => by rw [← e, upd_same] at hwk; cases hwk
    have nwb : bl ≠ wk := fun e => by rw [← e, upd_ne nb.symm, upd_ne nb.symm, upd_ne nb.symm, upd_same] at hwk; cases hwk
    have nws : wk ≠ st := fun e => by rw [e, upd_ne ns.symm, upd_ne ns.symm, upd_ne ns.symm, upd_ne nbs.symm, upd_ne ns.symm, upd_same] at hwk; cases hwk
    have nw1 : wk ≠ l1 := fun e => by rw [e, upd_ne nl.symm, upd_ne nl.symm, upd_ne nl.symm, upd_ne nb1.symm, upd_ne nl.symm, upd_ne ns1.symm, upd_same] at hwk; cases hwk
    have hwk' : H wk = none := by
      rw [upd_ne nw.symm, upd_ne nw.symm, upd_ne nw.symm, upd_ne nwb.symm, upd_ne nw.symm, upd_ne nws, upd_ne nw1, upd_ne nw.symm, upd_ne nw.symm] at hwk
      exact hwk
    refine ⟨_, rfl, p, t.c_Ground, dx, _, rfl, (by rw [upd_ne nw, upd_same]), T.C_Ground, T.n_Ground_walks, few (fl (fl (fl (fl (fl (fl gl)))))), ?_⟩
    refine k _ ⟨dx, st, bl, wk, [], [], []⟩ ⟨?_, ?_, ?_, ?_, nwb, rfl, .nil, fun q hq => by simp at hq, wk_none 4⟩ ?_ ?_
    · rw [upd_same, gd_all hg]
      have e : (Gk.opened size rule).size = size := List.length_replicate ..
      rw [e]
      rfl
    · rw [upd_ne ns.symm, upd_ne nws.symm, upd_ne ns.symm, upd_ne ns.symm, upd_ne ns.symm, upd_ne nbs.symm, upd_ne ns.symm, upd_same, Int.toNat_natCast, bV_zeros]
      rfl
    · rw [upd_ne nb.symm, upd_ne nwb, upd_ne nb.symm, upd_ne nb.symm, upd_ne nb.symm, upd_same]
    · rw [upd_ne nw.symm, upd_same]
    · intro b hb
      rcases hb with e | e | e | e | ⟨q, hq, _⟩
      · exact .inl e
      · exact .inr (by rw [e]; exact hst')
      · exact .inr (by rw [e]; exact hbl')
      · exact .inr (by rw [e]; exact hwk')
      · simp at hq
    · intro b o e hb
      have b1 : b ≠ l1 := ne_of_none e hl1'
      have b2 : b ≠ st := ne_of_none e hst'
      have b3 : b ≠ bl := ne_of_none e hbl'
      have b4 : b ≠ wk := ne_of_none e hwk'
      rw [upd_ne hb, upd_ne b4, upd_ne hb, upd_ne hb, upd_ne hb, upd_ne b3, upd_ne hb, upd_ne b2, upd_ne b1, upd_ne hb, upd_ne hb]
      exact e
theorem ok_Ground_init (T : Txt P w K mg t) : FnOk P w K mg base CX0 2 t.f_Ground_init t.d_Ground_init ["self"] (sp_Ground_init t) := by
  have G_Ground_begin : FnOk P w K mg base CX0 1 t.f_Ground_begin t.d_Ground_begin ["self", "size", "rule"] (sp_Ground_begin t) := ok_Ground_begin T
  refine T.F_Ground_init.ok sc_Ground_init (fun vs H Q E h => ?_) (fun cdv A outer s H vs Q E hr h => ?_)
  · obtain ⟨p, dx, rfl, _⟩ := h
    rfl
  · obtain ⟨p, dx, rfl, hp, k⟩ := h
    refine ⟨_, (pss_one (ps_expr (pe_meth (pv 0) T.C_Ground T.H_Ground_begin G_Ground_begin hr T.B_Ground_begin .nil pass0 (pa_cons (pe_glob rfl T.m_FIRST_SIZE T.r_FIRST_SIZE) (pa_cons (pe_glob rfl T.m_FIRST_RULE T.r_FIRST_RULE) pa_nil))))), ?_⟩
    exact ⟨_, rfl, p, dx, [], rfl, hp, rfl, p, dx, [], 64, 0, rfl, hp, .inl rfl, by decide, fun H' x G ft fr => k H' x G ft fr⟩
theorem GA.srt {t : Adr} {H : Hp} {p : Addr} {g : Gk.Ground} {x : GD} (G : GA t H p g x) (W : Gk.Wf g) {ns' : List Int} (h1 : ns'.Perm (x.kvs.map fun kv => keyI kv.1)) (h2 : ns'.Pairwise (· ≤ ·)) : ns' = x.bs.map fun q => (q.1.at_ : Int) := by
  refine Gk.sorted_one h2 ?_ (h1.trans (keys_of G.perm).2)
  refine List.pairwise_map.mpr (List.Pairwise.imp (fun {a b} h => ?_) (G.sorted W))
  omega
theorem ok_blocks_in_order (T : Txt P w K mg t) : FnOk P w K mg base CX0 1 t.f_Ground_blocks_in_order t.d_Ground_blocks_in_order ["self"] (sp_blocks_in_order t) := by
  refine T.F_Ground_blocks_in_order.ok sc_Ground_blocks_in_order (fun vs H Q E h => ?_) (fun cdv A outer s H vs Q E hr h => ?_)
  · obtain ⟨p, g, x, rfl, _⟩ := h
    rfl
  · obtain ⟨p, g, x, rfl, G, W, k⟩ := h
    have hu := hu_of hr
    refine ⟨_, (pss_one (ps_ret (pe_lc (te := tDGet (tFld K (tVar 0) "blocks") (tVar 1)) (own := [("address", 1)]) rfl sc_Ground_blocks_in_order.nd (pi_list (pe_callB (cr_sortedD rfl) (by rfl) T.b_sorted boot_sorted (pa_cons (pe_fld (pv 0) rfl) pa_nil))) (blkOk_by (by show blkC ["self", "address"] (defScope s_Ground_blocks_in_order) _ [("address", 1)] = true; decide +kernel)) (fun _ _ _ _ _ => pg_name (i := 1) sc_Ground_blocks_in_order.nd rfl (Or.inl rfl)) (fun _ _ _ _ _ => pts_nil) (fun _ _ _ _ _ => (pe_dget hu (pe_fld (pv 0) rfl) (pv 1) (fun _ _ => rfl)))))), ?_⟩
    refine ⟨_, rfl, p, _, x.dx, _, _, rfl, G.ins, T.C_Ground, T.n_Ground_blocks, gdF_blocks _ _ _ _ _ _ _, x.bl, x.kvs, _, rfl, G.blo, (keys_of G.perm).1, fun ns' l1 hpm hso hl1 => ?_⟩
    have en := G.srt W hpm hso
    subst en
    have s1 : Same H (upd H l1 (.lst ((x.bs.map fun q => (q.1.at_ : Int)).map V.int))) := Same.new hl1
    refine ⟨l1, rfl, ⟨_, SqL.of upd_same⟩, fun l hl => ?_⟩
    have hl' : H l = none := s1.free hl
    have nl : l1 ≠ l := ne_of_none upd_same hl
    refine lc_list (K := K) (a := l1) (xs := (x.bs.map fun q => (q.1.at_ : Int)).map V.int)
      (fun i H' => Same H H' ∧ H' l1 = some (.lst ((x.bs.map fun q => (q.1.at_ : Int)).map V.int)) ∧ H' l = some (.lst ((x.bs.take i).map fun q => V.ref q.2)))
      ⟨s1.upd hl', by rw [upd_ne nl, upd_same], upd_same⟩ (fun i H' _ ⟨_, h5, _⟩ => SqL.of h5) ?_ ?_
    · rintro i y H' hi ⟨s5, h5, h6⟩
      obtain ⟨z, hz, rfl⟩ := map_get hi
      obtain ⟨q, hq, rfl⟩ := map_get hz
      have hm := List.mem_of_getElem? hq
      have hv := G.val W hm
      have hlen := G.len W
      have hi2 := get_lt hq
      have hsz : (2048 : Nat) < sizeLine := by decide
      refine ⟨rfl, yesT ?_⟩
      refine ⟨_, rfl, p, _, x.dx, _, _, rfl, s5 _ _ G.ins, T.C_Ground, T.n_Ground_blocks, gdF_blocks _ _ _ _ _ _ _, _, rfl, x.bl, .ref q.2, rfl, .inl ⟨x.kvs, .inl (q.1.at_ : Int), .inl (s5 _ _ G.blo), rfl, hv.symm⟩, _, h6, ?_, s5.upd hl', ?_, ?_⟩
      · rw [List.length_map, List.length_take]
        omega
      · rw [upd_ne nl]
        exact h5
      · rw [upd_same, take_get hq, List.map_append]
        rfl
    · rintro H' ⟨s5, h5, h6⟩
      rw [List.length_map, List.length_map, List.take_length] at h6
      exact k H' l h6 s5 hl'
theorem ok_address_from (T : Txt P w K mg t) : FnOk P w K mg base CX0 1 t.f_Ground_address_from t.d_Ground_address_from ["self", "place"] (sp_address_from t) := by
  refine T.F_Ground_address_from.ok sc_Ground_address_from (fun vs H Q E h => ?_) (fun cdv A outer s H vs Q E hr h => ?_)
  · obtain ⟨p, g, x, pl, rfl, _⟩ := h
    rfl
  · obtain ⟨p, g, x, pl, rfl, G, W, k⟩ := h
    refine ⟨_, (pss_cons (ps_for PassesOwn.never rfl (pi_list (pe_callB (cr_sortedD rfl) (by rfl) T.b_sorted boot_sorted (pa_cons (pe_fld (pv 0) rfl) pa_nil))) (pg_name (i := 2) sc_Ground_address_from.nd rfl (Or.inl rfl))
        (pss_one (ps_if (pt_cmpR op_ge (pv 2) (pv 1) (nomark _)) (pss_one (ps_ret (pv 2))) pss_nil)))
      (pss_one (ps_ret pe_non))), ?_⟩
    refine ⟨_, rfl, p, _, x.dx, _, _, rfl, G.ins, T.C_Ground, T.n_Ground_blocks, gdF_blocks _ _ _ _ _ _ _, x.bl, x.kvs, _, rfl, G.blo, (keys_of G.perm).1, fun ns' l1 hpm hso hl1 => ?_⟩
    have en := G.srt W hpm hso
    subst en
    have s1 : Same H (upd H l1 (.lst ((x.bs.map fun q => (q.1.at_ : Int)).map V.int))) := Same.new hl1
    refine ⟨l1, rfl, ⟨_, SqL.of upd_same⟩, ?_⟩
    refine for_list (K := K) (a := l1) (xs := (x.bs.map fun q => (q.1.at_ : Int)).map V.int)
      (fun i σ H' => ∃ v : Option V, σ = [some (.ref p), some (.int pl), v] ∧ H' = upd H l1 (.lst ((x.bs.map fun q => (q.1.at_ : Int)).map V.int)) ∧ (g.blocks.find? fun b => decide (pl ≤ b.at_)) = ((x.bs.drop i).map (·.1)).find? fun b => decide (pl ≤ b.at_))
      ⟨none, rfl, rfl, by rw [G.eqb]; rfl⟩ (fun i σ H' _ ⟨_, _, e, _⟩ => by rw [e]; exact SqL.of upd_same) ?_ ?_
    · rintro i y σ H' hi ⟨v, rfl, rfl, heq⟩
      obtain ⟨z, hz, rfl⟩ := map_get hi
      obtain ⟨q, hq, rfl⟩ := map_get hz
      rw [drop_get hq, List.map_cons, List.find?_cons] at heq
      refine ⟨_, rfl, _, rfl, _, _, rfl, rfl, _, rfl, ite2 (fun hc => ?_) fun hc => ?_⟩
      · have hc : (pl : Int) ≤ (q.1.at_ : Int) := of_decide_eq_true hc
        have k := k _ s1
        rw [heq, decide_eq_true (show pl ≤ q.1.at_ by omega)] at k
        exact ⟨_, rfl, k⟩
      · have hc : ¬ (pl : Int) ≤ (q.1.at_ : Int) := fun z => hc (decide_eq_true z)
        rw [decide_eq_false (show ¬ pl ≤ q.1.at_ by omega)] at heq
        exact ⟨_, rfl, rfl, heq⟩
    · rintro σ H' ⟨v, rfl, rfl, heq⟩
      rw [List.length_map, List.length_map, List.drop_length] at heq
      have k := k _ s1
      rw [heq] at k
      exact k
theorem ok_bytes_from (T : Txt P w K mg t) : FnOk P w K mg base CX0 1 t.f_Ground_bytes_from t.d_Ground_bytes_from ["self", "address", "how_many"] (sp_bytes_from t) := by
  refine T.F_Ground_bytes_from.ok sc_Ground_bytes_from (fun vs H Q E h => ?_) (fun cdv A outer s H vs Q E hr h => ?_)
  · obtain ⟨p, st, b, ad, n, rfl, _⟩ := h
    rfl
  · obtain ⟨p, st, b, ad, n, rfl, ⟨⟨dx, a1, a2, a3, a4, a5, a6, hp⟩, hs⟩, hl, k⟩ := h
    refine ⟨_, (pss_one (ps_ret (pe_slice sl_list (pe_fld (pv 0) rfl) (po_some (pv 1)) (po_some (pe_op op_add (pv 1) (pv 2)))))), ?_⟩
    refine ⟨_, rfl, p, _, dx, _, _, rfl, hp, T.C_Ground, T.n_Ground_store, gdF_store _ _ _ _ _ _ _, _, rfl, _, rfl, _, rfl, _, rfl, _, _, rfl, rfl, _, rfl, st, _, rfl, SqL.of hs, fun l hn => ?_⟩
    rw [cut_read hl]
    exact k _ l upd_same (Same.new hn) hn
theorem ok_put (T : Txt P w K mg t) : FnOk P w K mg base CX0 1 t.f_Ground_put t.d_Ground_put ["self", "address", "new_bytes"] (sp_put t) := by
  refine T.F_Ground_put.ok sc_Ground_put (fun vs H Q E h => ?_) (fun cdv A outer s H vs Q E hr h => ?_)
  · obtain ⟨p, st, b, ad, l, ws, rfl, _⟩ := h
    rfl
  · obtain ⟨p, st, b, ad, l, ws, rfl, ⟨⟨dx, a1, a2, a3, a4, a5, a6, hp⟩, hs⟩, hl, hls, hle, k⟩ := h
    refine ⟨_, (pss_one (ps_for PassesOwn.never rfl (pi_enum rfl T.b_enumerate (pa_cons (pv 2) pa_nil)) (pg_tup rfl (pgs_cons (pg_name (i := 3) sc_Ground_put.nd rfl (Or.inl rfl)) (pgs_cons (pg_name (i := 4) sc_Ground_put.nd rfl (Or.inl rfl)) pgs_nil)))
        (pss_one (ps_asg (pv 4) (pg_sub (pe_fld (pv 0) rfl) (pe_op op_add (pv 1) (pv 3)) set_list))))), ?_⟩
    have nps : p ≠ st := ne_of hp hs (by intro z; cases z)
    refine ⟨_, rfl, l, _, rfl, SqL.of hl, fun i m σ H' => m + i = ws.length ∧ ∃ (v3 v4 : Option V), σ = [some (.ref p), some (.int ad), some (.ref l), v3, v4] ∧ (∀ c o, H c = some o → c ≠ st → H' c = some o) ∧ H' st = some (.lst (bV (Gk.writeAt b ad (ws.take i)))),
      ⟨ws.length, rfl, none, none, rfl, fun c o e _ => e, ?_⟩, ?_⟩
    · have e : Gk.writeAt b ad (ws.take 0) = b := by
        unfold Gk.writeAt
        exact List.take_append_drop ad b
      rw [e]
      exact hs
    rintro i m σ H' ⟨hm, v3, v4, rfl, fr, hs'⟩
    have hl' := fr _ _ hl hls
    by_cases hi : ws.length ≤ i
    · refine .inl ⟨⟨_, SqL.of hl', by rw [bV_len]; exact hi⟩, ?_⟩
      rw [List.take_of_length_le hi] at hs'
      exact k H' hs' fr
    · have hlt : i < ws.length := by omega
      obtain ⟨wv, hw⟩ : ∃ wv, ws[i]? = some wv := ⟨_, List.getElem?_eq_getElem hlt⟩
      have hwV : (bV ws)[i]? = some (V.int (wv.toNat : Int)) := by
        unfold bV
        rw [List.getElem?_map, hw]
        rfl
      refine .inr ⟨⟨_, _, SqL.of hl', hwV⟩, fun σ' H'' => ∃ (v3 v4 : Option V), σ' = [some (.ref p), some (.int ad), some (.ref l), v3, v4] ∧ (∀ c o, H c = some o → c ≠ st → H'' c = some o) ∧ H'' st = some (.lst (bV (Gk.writeAt b ad (ws.take (i + 1))))), ?_, ?_⟩
      · rintro σ' H'' ⟨v3', v4', e1, e2, e3⟩
        exact ⟨m - 1, by omega, by omega, v3', v4', e1, e2, e3⟩
      · rintro xv H'' ⟨T1, y, rfl, hT, rfl, hy⟩
        have hy := hy _ (SqL.of hl')
        rw [hwV] at hy
        have hy : y = V.int (wv.toNat : Int) := (Option.some.inj hy).symm
        subst hy
        have hs2 : upd H' T1 (.tup [.int (i : Nat), V.int (wv.toNat : Int)]) st = some (.lst (bV (Gk.writeAt b ad (ws.take i)))) := by
          rw [upd_ne (ne_of_none hs' hT)]
          exact hs'
        have hp2 : upd H' T1 (.tup [.int (i : Nat), V.int (wv.toNat : Int)]) p = some (.ins t.c_Ground dx (gdF a1 a2 st a3 a4 a5 a6)) := by
          have hp' := fr _ _ hp nps
          rw [upd_ne (ne_of_none hp' hT)]
          exact hp'
        have htl : (ws.take i).length = i := by rw [List.length_take]; omega
        have hwl : (Gk.writeAt b ad (ws.take i)).length = b.length := Gk.writeAt_len (by rw [htl]; omega)
        refine ⟨T1, _, rfl, SqT.of upd_same, rfl, _, _, rfl, _, _, rfl, rfl, ?_⟩
        refine ⟨_, rfl, _, rfl, p, _, dx, _, _, rfl, hp2, T.C_Ground, T.n_Ground_store, gdF_store _ _ _ _ _ _ _, _, rfl, _, rfl, _, _, rfl, rfl, st, _, _, ad + i, rfl, rfl, hs2, ?_, ?_⟩
        · rw [bV_len, hwl, show ((ad : Int) + ((i : Nat) : Int)) = ((ad + i : Nat) : Int) by omega]
          exact ixN_nat (by omega)
        · refine ⟨_, _, rfl, fun c o e hc => ?_, ?_⟩
          · rw [upd_ne hc]
            have e' := fr c o e hc
            rw [upd_ne (ne_of_none e' hT)]
            exact e'
          · rw [upd_same, take_get hw]
            have e := set_write (s := b) (l := ws.take i) (p := ad) (w := wv) (by rw [htl]; omega)
            rw [htl] at e
            rw [e]
end
end Gp

set_option Elab.async false
set_option linter.all false
set_option maxRecDepth 100000
set_option maxHeartbeats 4000000
namespace Gp
open PySem PySem.Spec PyProof.Rows L2
section
variable {P : Program} {w : World} {K : PySem.W.Frag} {mg : Str → Option Value} {base : Heap} {t : Adr}
theorem filter_take {α : Type} {f : α → Bool} {l : List α} {i : Nat} {q : α} (h : l[i]? = some q) : (l.take (i + 1)).filter f = (l.take i).filter f ++ (if f q = true then [q] else []) := by
  rw [take_get h, List.filter_append, List.filter_cons, List.filter_nil]
theorem ok_innermost_blocks (T : Txt P w K mg t) : FnOk P w K mg base CX0 2 t.f_Ground_innermost_blocks t.d_Ground_innermost_blocks ["self"] (sp_innermost_blocks t) := by
  have G_Ground_blocks_in_order : FnOk P w K mg base CX0 1 t.f_Ground_blocks_in_order t.d_Ground_blocks_in_order ["self"] (sp_blocks_in_order t) := ok_blocks_in_order T
  refine T.F_Ground_innermost_blocks.ok sc_Ground_innermost_blocks (fun vs H Q E h => ?_) (fun cdv A outer s H vs Q E hr h => ?_)
  · obtain ⟨p, g, x, rfl, _⟩ := h
    rfl
  · obtain ⟨p, g, x, rfl, G, W, k⟩ := h
    refine ⟨_, (pss_one (ps_ret (pe_lc (tt := tTest (tOp rEq (tFld K (tVar 1) "group") (tFld K (tVar 0) "depth"))) (own := [("block", 1)]) rfl sc_Ground_innermost_blocks.nd (pi_list (pe_meth0 (pv 0) T.C_Ground T.H_Ground_blocks_in_order G_Ground_blocks_in_order hr T.B_Ground_blocks_in_order .nil pass0)) (blkOk_by (by show blkC ["self", "block"] (defScope s_Ground_innermost_blocks) _ [("block", 1)] = true; decide +kernel)) (fun _ _ _ _ _ => pg_name (i := 1) sc_Ground_innermost_blocks.nd rfl (Or.inl rfl)) (fun _ _ _ _ _ => pts_one (pt_cmpR op_eq (pe_fld (pv 1) rfl) (pe_fld (pv 0) rfl) (nomark _))) (fun _ _ _ _ _ => (pv 1))))), ?_⟩
    refine ⟨_, rfl, p, x.dx, _, rfl, G.ins, gdF_no_blocks_in_order _ _ _ _ _ _ _, p, g, x, rfl, G, W, fun H1 l1 h1 s1 n1 => ?_⟩
    refine ⟨l1, rfl, ⟨_, SqL.of h1⟩, fun l hl => ?_⟩
    have hl' : H l = none := s1.free hl
    have nl : l1 ≠ l := ne_of_none h1 hl
    refine lc_list (K := K) (a := l1) (xs := x.bs.map fun q => V.ref q.2)
      (fun i H' => Same H1 H' ∧ H' l = some (.lst (((x.bs.take i).filter fun q => q.1.group == g.depth).map fun q => V.ref q.2)))
      ⟨Same.new hl, upd_same⟩ (fun i H' _ ⟨s5, _⟩ => s5.seq (SqL.of h1)) ?_ ?_
    · rintro i y H' hi ⟨s5, h6⟩
      obtain ⟨q, hq, rfl⟩ := map_get hi
      have hm := List.mem_of_getElem? hq
      obtain ⟨dq, eq⟩ := G.blk q hm
      have eq := s5 _ _ (s1 _ _ eq)
      have hlen := G.len W
      have hi2 := get_lt hq
      have hsz : (2048 : Nat) < sizeLine := by decide
      refine ⟨rfl, _, rfl, q.2, _, dq, _, _, rfl, eq, T.C_Block, T.n_Block_group, bkF_group _ _ _ _, _, rfl, p, _, x.dx, _, _, rfl, s5 _ _ (s1 _ _ G.ins), T.C_Ground, T.n_Ground_depth, gdF_depth _ _ _ _ _ _ _, rfl, _, rfl, ?_⟩
      by_cases e : q.1.group = g.depth
      · refine iteDT (veq (by omega)) ⟨_, rfl, _, h6, ?_, s5.upd hl, ?_⟩
        · rw [List.length_map]
          refine Nat.lt_of_le_of_lt (List.length_filter_le _ _) ?_
          rw [List.length_take]
          omega
        · rw [upd_same, filter_take hq, if_pos (by simpa using e), List.map_append]
          rfl
      · refine iteDF (vne (by omega)) ⟨s5, ?_⟩
        rw [filter_take hq, if_neg (by simpa using e), List.append_nil]
        exact h6
    · rintro H' ⟨s5, h6⟩
      rw [List.length_map, List.take_length] at h6
      exact k H' l h6 (s1.trans s5) hl'
theorem ok_Ground_rows (T : Txt P w K mg t) : FnOk P w K mg base CX0 4 t.f_Ground_rows t.d_Ground_rows ["self"] (sp_Ground_rows t) := by
  have G_Ground_blocks_in_order : FnOk P w K mg base CX0 1 t.f_Ground_blocks_in_order t.d_Ground_blocks_in_order ["self"] (sp_blocks_in_order t) := ok_blocks_in_order T
  have G_rows_between : FnOk P w K mg base CX0 3 t.f_rows_between t.d_rows_between ["size", "blocks"] (sp_rows_between t) := ok_rows_between T
  refine T.F_Ground_rows.ok sc_Ground_rows (fun vs H Q E h => ?_) (fun cdv A outer s H vs Q E hr h => ?_)
  · obtain ⟨p, g, x, rfl, _⟩ := h
    rfl
  · obtain ⟨p, g, x, rfl, G, W, k⟩ := h
    refine ⟨_, (pss_one (ps_ret (pe_call G_rows_between hr rfl T.m_rows_between T.F_rows_between.kp T.B_rows_between .nil pass0 (pa_cons (pe_fld (pv 0) rfl) (pa_cons (pe_meth0 (pv 0) T.C_Ground T.H_Ground_blocks_in_order G_Ground_blocks_in_order (hr.mono (by decide : 1 ≤ 3)) T.B_Ground_blocks_in_order .nil pass0) pa_nil))))), ?_⟩
    refine ⟨_, rfl, p, _, x.dx, _, _, rfl, G.ins, T.C_Ground, T.n_Ground_size, gdF_size _ _ _ _ _ _ _, _, rfl, p, x.dx, _, rfl, G.ins, gdF_no_blocks_in_order _ _ _ _ _ _ _, p, g, x, rfl, G, W, fun H1 l1 h1 s1 n1 => ?_⟩
    refine ⟨g.size, l1, x.bs, rfl, h1, fun q hq => (G.blk q hq).same s1, G.len W, fun H' l hR s2 _ => k H' l ?_ (s1.trans s2)⟩
    rw [← G.eqb] at hR
    exact hR
theorem ok_rows_without (T : Txt P w K mg t) : FnOk P w K mg base CX0 4 t.f_Ground_rows_without t.d_Ground_rows_without ["self", "left_out"] (sp_rows_without t) := by
  have G_Ground_blocks_in_order : FnOk P w K mg base CX0 1 t.f_Ground_blocks_in_order t.d_Ground_blocks_in_order ["self"] (sp_blocks_in_order t) := ok_blocks_in_order T
  have G_rows_between : FnOk P w K mg base CX0 3 t.f_rows_between t.d_rows_between ["size", "blocks"] (sp_rows_between t) := ok_rows_between T
  refine T.F_Ground_rows_without.ok sc_Ground_rows_without (fun vs H Q E h => ?_) (fun cdv A outer s H vs Q E hr h => ?_)
  · obtain ⟨p, g, x, a, rfl, _⟩ := h
    rfl
  · obtain ⟨p, g, x, a, rfl, G, W, k⟩ := h
    refine ⟨_, (pss_cons (ps_setLc (i := 2) (tt := tTest (tOp rNe (tFld K (tVar 3) "address") (tVar 1))) (own := [("block", 3)]) rfl sc_Ground_rows_without.nd rfl rfl (sw_true rfl rfl rfl rfl) (pi_list (pe_meth0 (pv 0) T.C_Ground T.H_Ground_blocks_in_order G_Ground_blocks_in_order (hr.mono (by decide : 1 ≤ 3)) T.B_Ground_blocks_in_order .nil pass0)) (blkOk_by (by show blkC ["self", "left_out", "others", "block"] (defScope s_Ground_rows_without) _ [("block", 3)] = true; decide +kernel)) (fun _ _ _ _ _ => pg_name (i := 3) sc_Ground_rows_without.nd rfl (Or.inl rfl)) (fun _ _ _ _ _ => pts_one (pt_cmpR op_ne (pe_fld (pv 3) rfl) (pv 1) (nomark _))) (fun _ _ _ _ _ => (pv 3)))
      (pss_one (ps_ret (pe_call G_rows_between hr rfl T.m_rows_between T.F_rows_between.kp T.B_rows_between .nil pass0 (pa_cons (pe_fld (pv 0) rfl) (pa_cons (pv 2) pa_nil)))))), ?_⟩
    refine ⟨_, rfl, p, x.dx, _, rfl, G.ins, gdF_no_blocks_in_order _ _ _ _ _ _ _, p, g, x, rfl, G, W, fun H1 l1 h1 s1 n1 => ?_⟩
    refine ⟨l1, rfl, ⟨_, SqL.of h1⟩, fun l hl => ?_⟩
    have nl : l1 ≠ l := ne_of_none h1 hl
    refine lc_list (K := K) (a := l1) (xs := x.bs.map fun q => V.ref q.2)
      (fun i H' => Same H1 H' ∧ H' l = some (.lst (((x.bs.take i).filter fun q => q.1.at_ != a).map fun q => V.ref q.2)))
      ⟨Same.new hl, upd_same⟩ (fun i H' _ ⟨s5, _⟩ => s5.seq (SqL.of h1)) ?_ ?_
    · rintro i y H' hi ⟨s5, h6⟩
      obtain ⟨q, hq, rfl⟩ := map_get hi
      have hm := List.mem_of_getElem? hq
      obtain ⟨dq, eq⟩ := G.blk q hm
      have eq := s5 _ _ (s1 _ _ eq)
      have hlen := G.len W
      have hi2 := get_lt hq
      have hsz : (2048 : Nat) < sizeLine := by decide
      refine ⟨rfl, _, rfl, q.2, _, dq, _, _, rfl, eq, T.C_Block, T.n_Block_address, bkF_address _ _ _ _, _, rfl, rfl, _, rfl, ?_⟩
      by_cases e : q.1.at_ = a
      · refine iteNS (veq (by omega)) ⟨s5, ?_⟩
        rw [filter_take hq, if_neg (by simpa using e), List.append_nil]
        exact h6
      · refine iteNT (vne (by omega)) ⟨_, rfl, _, h6, ?_, s5.upd hl, ?_⟩
        · rw [List.length_map]
          refine Nat.lt_of_le_of_lt (List.length_filter_le _ _) ?_
          rw [List.length_take]
          omega
        · rw [upd_same, filter_take hq, if_pos (by simpa using e), List.map_append]
          rfl
    · rintro H' ⟨s5, h6⟩
      rw [List.length_map, List.take_length] at h6
      have s6 := s1.trans s5
      refine ⟨_, rfl, p, _, x.dx, _, _, rfl, s6 _ _ G.ins, T.C_Ground, T.n_Ground_size, gdF_size _ _ _ _ _ _ _, _, rfl, ?_⟩
      refine ⟨g.size, l, x.bs.filter fun q => q.1.at_ != a, rfl, h6, fun q hq => (G.blk q (List.mem_filter.mp hq).1).same s6, Nat.le_trans (List.length_filter_le _ _) (G.len W), fun H2 l2 hR s2 _ => k H2 l2 ?_ (s6.trans s2)⟩
      have e : (x.bs.filter fun q => q.1.at_ != a).map (·.1) = Gk.without a g.blocks := by
        unfold Gk.without
        rw [G.eqb, List.filter_map]
        rfl
      rw [e] at hR
      exact hR
theorem gd_mark (s r : Int) (st bl : Addr) (d m m' : Int) (wk : Addr) : putF "mark" (V.int m') (gdF s r st bl d m wk) = gdF s r st bl d m' wk := gdF_put_mark s r st bl d m wk (.int m')
theorem gd_depth (s r : Int) (st bl : Addr) (d m d' : Int) (wk : Addr) : putF "depth" (V.int d') (gdF s r st bl d m wk) = gdF s r st bl d' m wk := gdF_put_depth s r st bl d m wk (.int d')
theorem gd_blocks (s r : Int) (st bl bl' : Addr) (d m : Int) (wk : Addr) : putF "blocks" (V.ref bl') (gdF s r st bl d m wk) = gdF s r st bl' d m wk := gdF_put_blocks s r st bl d m wk (.ref bl')
theorem bk_group (a n al gr gr' : Int) : putF "group" (V.int gr') (bkF a n al gr) = bkF a n al gr' := bkF_put_group a n al gr (.int gr')
theorem bk_address (a a' n al gr : Int) : putF "address" (V.int a') (bkF a n al gr) = bkF a' n al gr := bkF_put_address a n al gr (.int a')
theorem ok_settle (T : Txt P w K mg t) : FnOk P w K mg base CX0 3 t.f_Ground_settle t.d_Ground_settle ["self", "block"] (sp_settle t) := by
  have G_place_behind : FnOk P w K mg base CX0 2 t.f_place_behind t.d_place_behind ["block"] (sp_place_behind t) := ok_place_behind T
  refine T.F_Ground_settle.ok sc_Ground_settle (fun vs H Q E h => ?_) (fun cdv A outer s H vs Q E hr h => ?_)
  · obtain ⟨p, g, x, a, b, rfl, _⟩ := h
    rfl
  · obtain ⟨p, g, x, a, b, rfl, G, ⟨db, hb⟩, hnew, hlen, k⟩ := h
    have hu := hu_of hr
    refine ⟨_, (pss_cons (ps_dput hu (pe_fld (pv 0) rfl) (pe_fld (pv 1) rfl) (pv 1) rfl)
      (pss_one (ps_fld (pv 0) (pe_call G_place_behind hr rfl T.m_place_behind T.F_place_behind.kp T.B_place_behind .nil pass0 (pa_cons (pv 1) pa_nil)) rfl))), ?_⟩
    have hkl : x.kvs.length < sizeLine := by
      have := G.perm.length_eq
      rw [List.length_map] at this
      have hsz : (3000 : Nat) < sizeLine := by decide
      omega
    have nv : valV x.kvs (.inl (b.at_ : Int)) = none := valV_none fun kv hk e => by
      obtain ⟨q, hq, e2⟩ := List.mem_map.mp (G.perm.mem_iff.mp hk)
      rw [← e2] at e
      exact hnew q hq (key_int.mp e)
    refine ⟨_, rfl, _, rfl, p, _, x.dx, _, _, rfl, G.ins, T.C_Ground, T.n_Ground_blocks, gdF_blocks _ _ _ _ _ _ _, _, rfl, a, _, db, _, _, rfl, hb, T.C_Block, T.n_Block_address, bkF_address _ _ _ _, x.bl, _, rfl, DPut.k (k := .inl (b.at_ : Int)) G.blo hkl, ?_⟩
    have nab : a ≠ x.bl := ne_of hb G.blo (by intro z; cases z)
    have npb : p ≠ x.bl := ne_of G.ins G.blo (by intro z; cases z)
    have nap : a ≠ p := ne_of hb G.ins (bk_gd (t := t))
    refine ⟨_, rfl, a, b, rfl, ⟨db, by rw [upd_ne nab]; exact hb⟩, _, rfl, p, _, x.dx, _, rfl, (by rw [upd_ne npb]; exact G.ins), T.C_Ground, T.n_Ground_mark, few (Nat.le_refl 7), ?_⟩
    have nsb := (G.ne_st G.sto).2.1
    have nsp := (G.ne_st G.sto).1
    have nwp : x.wk ≠ p := ne_of G.wal G.ins (by intro z; cases z)
    refine k _ ⟨x.dx, x.st, x.bl, x.wk, putK x.kvs (.inl (b.at_ : Int)) (.ref a), placedP (b, a) x.bs, x.wkv⟩ ⟨?_, ?_, ?_, ?_, G.bw, ?_, ?_, ?_, G.wks⟩ ?_ rfl ?_
    · rw [upd_same, gd_mark]
      rfl
    · rw [upd_ne nsp.symm, upd_ne nsb.symm]
      exact G.sto
    · rw [upd_ne npb.symm, upd_same]
    · rw [upd_ne nwp, upd_ne G.bw.symm]
      exact G.wal
    · show Gk.placed b g.blocks = _
      rw [placedP_fst, G.eqb]
    · rw [putK_new _ nv]
      refine (List.perm_append_comm.trans ?_)
      exact ((G.perm.cons (kvOf (b, a))).trans (((placedP_perm (b, a) x.bs).map kvOf).symm))
    · intro q hq
      rcases List.mem_cons.mp ((placedP_perm (b, a) x.bs).mem_iff.mp hq) with e | hq
      · rw [e]
        exact ⟨db, by rw [upd_ne nap, upd_ne nab]; exact hb⟩
      · obtain ⟨dq, eq⟩ := G.blk q hq
        exact ⟨dq, by rw [upd_ne (ne_of eq G.ins (bk_gd (t := t))), upd_ne (ne_of eq G.blo (by intro z; cases z))]; exact eq⟩
    · intro c hc
      rcases hc with e | e | e | e | ⟨q, hq, e⟩
      · exact .inl (.inl e)
      · exact .inl (.inr (.inl e))
      · exact .inl (.inr (.inr (.inl e)))
      · exact .inl (.inr (.inr (.inr (.inl e))))
      · rcases List.mem_cons.mp ((placedP_perm (b, a) x.bs).mem_iff.mp hq) with e2 | hq
        · rw [e2] at e
          exact .inr e
        · exact .inl (.inr (.inr (.inr (.inr ⟨q, hq, e⟩))))
    · intro c o e hc
      rw [upd_ne (fun z => hc (by rw [z]; exact Foot.p)), upd_ne (fun z => hc (by rw [z]; exact Foot.b))]
      exact e
end
end Gp

set_option Elab.async false
set_option linter.all false
set_option maxRecDepth 100000
set_option maxHeartbeats 4000000
/-! pack. -/
namespace Gp
open PySem PySem.Spec PyProof.Rows L2
section
variable {P : Program} {w : World} {K : PySem.W.Frag} {mg : Str → Option Value} {base : Heap} {t : Adr}
theorem nodup_take {α : Type} {l : List α} (h : l.Nodup) {i : Nat} {x : α} (e : l[i]? = some x) : ¬ x ∈ l.take i := fun m => by
  obtain ⟨j, hj⟩ := List.mem_iff_getElem?.mp m
  have hji : j < i := by
    have := get_lt hj
    rw [List.length_take] at this
    omega
  rw [List.getElem?_take_of_lt hji] at hj
  have := nd_ix h e hj
  omega
theorem ok_pack (T : Txt P w K mg t) : FnOk P w K mg base CX0 3 t.f_Ground_pack t.d_Ground_pack ["self"] (sp_pack t) := by
  have G_Ground_blocks_in_order : FnOk P w K mg base CX0 1 t.f_Ground_blocks_in_order t.d_Ground_blocks_in_order ["self"] (sp_blocks_in_order t) := ok_blocks_in_order T
  have G_least_multiple : FnOk P w K mg base CX0 1 t.f_least_multiple t.d_least_multiple ["place", "alignment"] sp_least_multiple := ok_least_multiple T
  have G_Ground_put : FnOk P w K mg base CX0 1 t.f_Ground_put t.d_Ground_put ["self", "address", "new_bytes"] (sp_put t) := ok_put T
  have G_Ground_bytes_from : FnOk P w K mg base CX0 1 t.f_Ground_bytes_from t.d_Ground_bytes_from ["self", "address", "how_many"] (sp_bytes_from t) := ok_bytes_from T
  have G_place_behind : FnOk P w K mg base CX0 2 t.f_place_behind t.d_place_behind ["block"] (sp_place_behind t) := ok_place_behind T
  refine T.F_Ground_pack.ok sc_Ground_pack (fun vs H Q E h => ?_) (fun cdv A outer s H vs Q E hr h => ?_)
  · obtain ⟨p, g, x, rfl, _⟩ := h
    rfl
  · obtain ⟨p, g, x, rfl, G, W, k⟩ := h
    have hu := hu_of hr
    refine ⟨_, (pss_cons (ps_set (i := 1) sc_Ground_pack.nd rfl (Or.inl rfl) pe_dnewK)
      (pss_cons (ps_set (i := 2) sc_Ground_pack.nd rfl (Or.inl rfl) pe_int)
      (pss_cons (ps_for PassesOwn.never rfl (pi_list (pe_meth0 (pv 0) T.C_Ground T.H_Ground_blocks_in_order G_Ground_blocks_in_order (hr.mono (by decide : 1 ≤ 2)) T.B_Ground_blocks_in_order .nil pass0)) (pg_name (i := 3) sc_Ground_pack.nd rfl (Or.inl rfl))
        (pss_cons (ps_set (i := 4) sc_Ground_pack.nd rfl (Or.inl rfl) (pe_call G_least_multiple (hr.mono (by decide : 1 ≤ 2)) rfl T.m_least_multiple T.F_least_multiple.kp T.B_least_multiple .nil pass0 (pa_cons (pv 2) (pa_cons (pe_fld (pv 3) rfl) pa_nil))))
        (pss_cons (ps_expr (pe_meth (pv 0) T.C_Ground T.H_Ground_put G_Ground_put (hr.mono (by decide : 1 ≤ 2)) T.B_Ground_put .nil pass0 (pa_cons (pv 4) (pa_cons (pe_meth (pv 0) T.C_Ground T.H_Ground_bytes_from G_Ground_bytes_from (hr.mono (by decide : 1 ≤ 2)) T.B_Ground_bytes_from .nil pass0 (pa_cons (pe_fld (pv 3) rfl) (pa_cons (pe_fld (pv 3) rfl) pa_nil))) pa_nil))))
        (pss_cons (ps_fld (pv 3) (pv 4) rfl)
        (pss_cons (ps_dput hu (pv 1) (pv 4) (pv 3) rfl)
        (pss_one (ps_set (i := 2) sc_Ground_pack.nd rfl (Or.inl rfl) (pe_call G_place_behind hr rfl T.m_place_behind T.F_place_behind.kp T.B_place_behind .nil pass0 (pa_cons (pv 3) pa_nil)))))))))
      (pss_one (ps_fld (pv 0) (pv 1) rfl))))), ?_⟩
    intro d hd
    have s0 : Same H (upd H d (.dK [])) := Same.new hd
    have G0 := G.same s0
    refine ⟨_, rfl, p, x.dx, _, rfl, G0.ins, gdF_no_blocks_in_order _ _ _ _ _ _ _, p, g, x, rfl, G0, W, fun H1 l1 h1 s1 n1 => ?_⟩
    have G1 := G0.same s1
    have hd1 : H1 d = some (.dK []) := s1 _ _ upd_same
    have nd := G.addrs W
    have sd : ∀ c o, H c = some o → c ≠ d := fun c o e => ne_of_none e hd
    have npd := sd _ _ G.ins
    have nsd := sd _ _ G.sto
    have nwd := sd _ _ G.wal
    have np := (G.ne_st G.sto)
    have nba : ∀ z ∈ x.bs, z.2 ≠ p ∧ z.2 ≠ x.st ∧ z.2 ≠ d ∧ z.2 ≠ l1 ∧ z.2 ≠ x.wk := fun z hz => by
      obtain ⟨dz, ez⟩ := G.blk z hz
      refine ⟨ne_of ez G.ins (bk_gd (t := t)), ne_of ez G.sto (by intro q; cases q), sd _ _ ez, ?_, ne_of ez G.wal (by intro q; cases q)⟩
      exact ne_of (s1 _ _ (s0 _ _ ez)) h1 (by intro q; cases q)
    have nld : l1 ≠ d := fun e => by rw [e, upd_same] at n1; cases n1
    have nls : l1 ≠ x.st := fun e => by
      have := G0.sto
      rw [← e, n1] at this
      cases this
    refine ⟨l1, rfl, ⟨_, SqL.of h1⟩, ?_⟩
    refine for_list (K := K) (a := l1) (xs := x.bs.map fun q => V.ref q.2)
      (fun i σ H' => ∃ (v3 v4 : Option V) (q : Nat) (s : Gk.Bytes) (ds : List (Gk.Block × Addr)) (pi : Nat), σ = [some (.ref p), some (.ref d), some (.int q), v3, v4] ∧
        (∀ c o, H1 c = some o → c ≠ x.st → c ≠ d → (∀ z ∈ x.bs.take i, c ≠ z.2) → H' c = some o) ∧
        H' x.st = some (.lst (bV s)) ∧ H' d = some (.dK (ds.map kvOf)) ∧ ds.map (·.2) = (x.bs.take i).map (·.2) ∧ (∀ z ∈ ds, BA t H' z.2 z.1 ∧ z.1.halt_ ≤ q) ∧ s.length = g.size ∧ Gk.Fit g.size g.depth pi ((x.bs.drop i).map (·.1)) ∧ q ≤ pi ∧
        Gk.packs 0 g.bytes g.blocks = (ds.map (·.1) ++ (Gk.packs q s ((x.bs.drop i).map (·.1))).1, (Gk.packs q s ((x.bs.drop i).map (·.1))).2))
      ⟨none, none, 0, g.bytes, [], 0, rfl, fun c o e _ _ _ => e, G1.sto, hd1, rfl, fun z hz => by simp at hz, rfl, by rw [List.drop_zero, ← G.eqb]; exact W.fit, Nat.le_refl _, by rw [List.drop_zero, ← G.eqb]; rfl⟩
      (fun i σ H' _ ⟨_, _, _, _, _, _, _, fr, _⟩ => SqL.of (fr _ _ h1 nls nld fun z hz => (nba z (List.mem_of_mem_take hz)).2.2.2.1.symm)) ?_ ?_
    · rintro i y σ H' hi ⟨v3, v4, q, s, ds, pi, rfl, fr, hs, hdd, hda, hdB, hsl, hfit, hqp, heq⟩
      obtain ⟨⟨b, a⟩, hb, rfl⟩ := map_get hi
      have hm := List.mem_of_getElem? hb
      obtain ⟨nap, nas, nad, nal, naw⟩ := nba _ hm
      have nat : ∀ z ∈ x.bs.take i, a ≠ z.2 := fun z hz e => by
        refine nodup_take nd (i := i) (x := a) (by rw [List.getElem?_map, hb]; rfl) ?_
        rw [← List.map_take]
        exact List.mem_map.mpr ⟨z, hz, e.symm⟩
      obtain ⟨db, eb⟩ := G1.blk _ hm
      have eb' := fr _ _ eb nas nad nat
      have hp' := fr _ _ G1.ins np.1 npd fun z hz => (nba z (List.mem_of_mem_take hz)).1.symm
      have hdr : (x.bs.drop i).map (·.1) = b :: (x.bs.drop (i + 1)).map (·.1) := by
        rw [drop_get hb]
        rfl
      rw [hdr] at hfit heq
      obtain ⟨f1, f2, f3, f4, f5⟩ := hfit
      obtain ⟨g1, g2⟩ := Gk.good_pos f3
      have hup : Gk.up b.align q ≤ b.at_ := Gk.up_le g1 f2 (Nat.le_trans hqp f1)
      have hge : q ≤ Gk.up b.align q := Gk.up_ge g1
      have hbe := f5.le
      have hbh : b.at_ + b.n ≤ b.halt_ := by
        unfold Gk.Block.halt_ Gk.Block.reach
        omega
      refine ⟨_, rfl, _, rfl, a, _, db, _, _, rfl, eb', T.C_Block, T.n_Block_alignment, bkF_alignment _ _ _ _, q, b.align, rfl, g1, g2, ?_⟩
      refine ⟨_, rfl, p, x.dx, _, rfl, hp', gdF_no_put _ _ _ _ _ _ _, _, rfl, _, rfl, p, x.dx, _, rfl, hp', gdF_no_bytes_from _ _ _ _ _ _ _, _, rfl, a, _, db, _, _, rfl, eb', T.C_Block, T.n_Block_address, bkF_address _ _ _ _, _, rfl, a, _, db, _, _, rfl, eb', T.C_Block, T.n_Block_n, bkF_n _ _ _ _,
        p, x.st, s, b.at_, b.n, rfl, ⟨⟨_, _, _, _, _, _, _, hp'⟩, hs⟩, by omega, fun H2 l2 hl2 s2 n2 => ?_⟩
      have hrl : (Gk.readAt s b.at_ b.n).length = b.n := Gk.readAt_len (by omega)
      have hs2 := s2 _ _ hs
      refine ⟨p, x.st, s, Gk.up b.align q, l2, Gk.readAt s b.at_ b.n, rfl, ⟨⟨_, _, _, _, _, _, _, s2 _ _ hp'⟩, hs2⟩, hl2, fun e => (by rw [e, hs] at n2; cases n2), by omega, fun H3 hs3 fr3 => ?_⟩
      have eb3 := fr3 _ _ (s2 _ _ eb') nas
      have hd3 := fr3 _ _ (s2 _ _ hdd) nsd.symm
      refine ⟨_, rfl, _, rfl, a, _, db, _, rfl, eb3, T.C_Block, T.n_Block_address, few (Nat.le_refl 4), ?_⟩
      rw [bk_address]
      have hdl : (ds.map kvOf).length < sizeLine := by
        have e := congrArg List.length hda
        rw [List.length_map, List.length_map, List.length_take] at e
        have := G.len W
        have hsz : (2048 : Nat) < sizeLine := by decide
        rw [List.length_map]
        omega
      have nk : valV (ds.map kvOf) (.inl (Gk.up b.align q : Int)) = none := valV_none fun kv hk e => by
        obtain ⟨z, hz, e2⟩ := List.mem_map.mp hk
        rw [← e2] at e
        have e : z.1.at_ = Gk.up b.align q := key_int.mp e
        have := (hdB z hz).2
        have := Gk.halt_gt z.1
        omega
      refine ⟨_, rfl, _, rfl, _, rfl, d, _, rfl, DPut.k (k := .inl (Gk.up b.align q : Int)) (by rw [upd_ne nad.symm]; exact hd3) hdl, ?_⟩
      rw [putK_new _ nk]
      have hc5 : BA t (upd (upd H3 a (.ins t.c_Block db (bkF (Gk.up b.align q) b.n b.align b.group))) d (.dK (ds.map kvOf ++ [(.inl (Gk.up b.align q : Int), .ref a)]))) a { b with at_ := Gk.up b.align q } := ⟨db, by rw [upd_ne nad, upd_same]⟩
      refine ⟨_, rfl, a, { b with at_ := Gk.up b.align q }, rfl, hc5, ?_⟩
      have hq5 : ({ b with at_ := Gk.up b.align q } : Gk.Block).halt_ ≤ b.halt_ := by
        show Gk.up b.align q + max b.n 1 ≤ b.at_ + max b.n 1
        omega
      have hq6 : q ≤ ({ b with at_ := Gk.up b.align q } : Gk.Block).halt_ := by
        show q ≤ Gk.up b.align q + max b.n 1
        omega
      refine ⟨_, _, ({ b with at_ := Gk.up b.align q } : Gk.Block).halt_, Gk.writeAt s (Gk.up b.align q) (Gk.readAt s b.at_ b.n), ds ++ [({ b with at_ := Gk.up b.align q }, a)], b.halt_, rfl, ?_, ?_, ?_, ?_, ?_, ?_, f5, hq5, ?_⟩
      · intro c o e c1 c2 c3
        have ca : c ≠ a := c3 (b, a) (by rw [take_get hb]; exact List.mem_append_right _ (List.mem_singleton.mpr rfl))
        rw [upd_ne c2, upd_ne ca]
        exact fr3 _ _ (s2 _ _ (fr c o e c1 c2 fun z hz => c3 z (by rw [take_get hb]; exact List.mem_append_left _ hz))) c1
      · rw [upd_ne nsd, upd_ne nas.symm]
        exact hs3
      · rw [upd_same, List.map_append]
        rfl
      · rw [List.map_append, take_get hb, List.map_append, hda]
        rfl
      · intro z hz
        rcases List.mem_append.mp hz with hz | hz
        · obtain ⟨⟨dz, ez⟩, lz⟩ := hdB z hz
          have mz : z.2 ∈ (x.bs.take i).map (·.2) := by rw [← hda]; exact List.mem_map.mpr ⟨z, hz, rfl⟩
          obtain ⟨z', hz', e'⟩ := List.mem_map.mp mz
          have nz := nba z' (List.mem_of_mem_take hz')
          have na : a ≠ z.2 := by rw [← e']; exact nat z' hz'
          rw [show z'.2 = z.2 from e'] at nz
          exact ⟨⟨dz, by rw [upd_ne nz.2.2.1, upd_ne na.symm]; exact fr3 _ _ (s2 _ _ ez) nz.2.1⟩, Nat.le_trans lz hq6⟩
        · rw [List.mem_singleton.mp hz]
          exact ⟨hc5, Nat.le_refl _⟩
      · rw [Gk.writeAt_len (by omega)]
        exact hsl
      · rw [heq, List.map_append]
        show (ds.map (·.1) ++ _ :: _, _) = _
        rw [List.append_assoc]
        rfl
    · rintro σ H' ⟨v3, v4, q, s, ds, pi, rfl, fr, hs, hdd, hda, hdB, hsl, hfit, hqp, heq⟩
      rw [List.length_map, List.drop_length] at heq
      rw [List.length_map, List.take_length] at hda
      have heq : Gk.packs 0 g.bytes g.blocks = (ds.map (·.1), s) := by
        rw [heq]
        show (ds.map (·.1) ++ [], s) = _
        rw [List.append_nil]
      have hz' : ∀ c, (∀ z ∈ x.bs, c ≠ z.2) → ∀ z ∈ x.bs.take (x.bs.map fun q => V.ref q.2).length, c ≠ z.2 := fun c h z hz => h z (List.mem_of_mem_take hz)
      have hp' := fr _ _ G1.ins np.1 npd (hz' _ fun z hz => (nba z hz).1.symm)
      have hw' := fr _ _ G1.wal np.2.2 nwd (hz' _ fun z hz => (nba z hz).2.2.2.2.symm)
      refine ⟨_, rfl, _, rfl, p, _, x.dx, _, rfl, hp', T.C_Ground, T.n_Ground_blocks, few (Nat.le_refl 7), ?_⟩
      rw [gd_blocks]
      have nwp : x.wk ≠ p := ne_of G.wal G.ins (by intro z; cases z)
      refine k _ ⟨x.dx, x.st, d, x.wk, ds.map kvOf, ds, x.wkv⟩ ⟨?_, ?_, ?_, ?_, nwd.symm, ?_, .refl _, ?_, G.wks⟩ ?_ ?_
      · rw [upd_same]
        have e : ({ g with blocks := (Gk.packs 0 g.bytes g.blocks).1, bytes := (Gk.packs 0 g.bytes g.blocks).2 } : Gk.Ground).size = g.size := by
          show (Gk.packs 0 g.bytes g.blocks).2.length = _
          rw [heq]
          exact hsl
        rw [e]
      · rw [upd_ne np.1.symm, heq]
        exact hs
      · rw [upd_ne npd.symm]
        exact hdd
      · rw [upd_ne nwp]
        exact hw'
      · rw [heq]
      · intro z hz
        obtain ⟨⟨dz, ez⟩, _⟩ := hdB z hz
        exact ⟨dz, by rw [upd_ne (ne_of ez hp' (bk_gd (t := t)))]; exact ez⟩
      · intro c hc
        rcases hc with e | e | e | e | ⟨z, hz, e⟩
        · exact .inl (.inl e)
        · exact .inl (.inr (.inl e))
        · exact .inr (by rw [e]; exact hd)
        · exact .inl (.inr (.inr (.inr (.inl e))))
        · have mz : z.2 ∈ x.bs.map (·.2) := by rw [← hda]; exact List.mem_map.mpr ⟨z, hz, rfl⟩
          obtain ⟨z', hz', e'⟩ := List.mem_map.mp mz
          exact .inl (.inr (.inr (.inr (.inr ⟨z', hz', e.trans e'.symm⟩))))
      · intro c o e hc
        rw [upd_ne (fun z => hc (by rw [z]; exact Foot.p))]
        refine fr c o (s1 _ _ (s0 _ _ e)) (fun z => hc (by rw [z]; exact Foot.s)) (sd _ _ e) (hz' _ fun z hz z' => hc (by rw [z']; exact Foot.a hz))
end
end Gp

set_option Elab.async false
set_option linter.all false
set_option maxRecDepth 100000
set_option maxHeartbeats 4000000
/-! The calls 1 to 10. -/
namespace Gp
open PySem PySem.Spec PyProof.Rows L2

/-- behind a call -/
def Kont (t : Adr) (H : Hp) (p : Addr) (g : Gk.Ground) (x : GD) (c : Gk.Call) (Q : VK) : Prop := ∀ (H' : Hp) (x' : GD) (q : Addr), GA t H' p (Gk.step g c).1 x' → (∀ b, Foot p x' b → Foot p x b ∨ H b = none) → (∀ b o, H b = some o → ¬ Foot p x b → H' b = some o) →
  H' q = some (.lst ((Gk.step g c).2.map V.int)) → (∀ b o, H b = some o → ¬ Foot p x b → b ≠ q) → q ≠ x'.st → Q (.ref q) H'
/-- a call's promise: its numbers stand in a list -/
def Ans (t : Adr) (c : Gk.Call) (ns : List Int) : Sp := fun vs H Q _ => ∃ (p l : Addr) (g : Gk.Ground) (x : GD), vs = [.ref p, .ref l] ∧ GA t H p g x ∧ Gk.Wf g ∧ H l = some (.lst (ns.map V.int)) ∧ l ≠ x.st ∧ Kont t H p g x c Q
section
variable {t : Adr} {H H' : Hp} {p q : Addr} {g g' : Gk.Ground} {c : Gk.Call} {Q : VK} {x x' : GD} {ans : Gk.Answer} {xs : List V}
theorem Kont.done (k : Kont t H p g x c Q) (e : Gk.step g c = (g', ans)) (G' : GA t H' p g' x') (ft : ∀ b, Foot p x' b → Foot p x b ∨ H b = none) (fr : ∀ b o, H b = some o → ¬ Foot p x b → H' b = some o) (hq : H' q = none) (ex : xs = ans.map V.int) : Q (.ref q) (upd H' q (.lst xs)) := by
  refine k _ x' q ?_ ft (fun b o h hb => ?_) ?_ (fun b o h hb => ne_of_none (fr b o h hb) hq) (ne_of_none G'.sto hq).symm
  · rw [e]
    exact G'.same (Same.new hq)
  · have h' := fr b o h hb
    rw [upd_ne (ne_of_none h' hq)]
    exact h'
  · rw [upd_same, e, ex]
theorem Kont.reads (k : Kont t H p g x c Q) (e : Gk.step g c = (g, ans)) (G : GA t H p g x) (s : Same H H') (hq : H' q = none) (ex : xs = ans.map V.int) : Q (.ref q) (upd H' q (.lst xs)) :=
  k.done e (G.same s) (fun _ d => .inl d) (fun b o h _ => s b o h) hq ex
theorem Kont.stay (k : Kont t H p g x c Q) (e : Gk.step g c = (g, ans)) (G : GA t H p g x) (hq : H q = none) (ex : xs = ans.map V.int) : Q (.ref q) (upd H q (.lst xs)) := k.reads e G (Same.refl H) hq ex
end
theorem sz1 : 1 ≤ sizeLine := by decide
theorem rowsFrom_len (e : Nat) : ∀ (l : List Gk.Block) (p : Nat), (Gk.rowsFrom e p l).length ≤ l.length + 1
  | [], p => by
    show (if p < e then [(p, e)] else []).length ≤ 1
    split <;> simp
  | b :: r, p => by
    have ih := rowsFrom_len e r b.halt_
    show ((if p < b.at_ then [(p, b.at_)] else []) ++ Gk.rowsFrom e b.halt_ r).length ≤ r.length + 1 + 1
    rw [List.length_append]
    split <;> simp <;> omega
theorem in_align (a : Nat) : inV (.int (a : Int)) tup_ALIGNMENTS = Gk.goodAlign a := by
  have h : ∀ z : Nat, ((z : Int) == (a : Int)) = (a == z) := fun z => by
    by_cases e : a = z
    · rw [e]
      simp
    · rw [beq_eq_false_iff_ne.mpr e, beq_eq_false_iff_ne.mpr (by omega)]
  show (((1 : Nat) : Int) == (a : Int) || (((2 : Nat) : Int) == (a : Int) || (((4 : Nat) : Int) == (a : Int) || (((8 : Nat) : Int) == (a : Int) || (((16 : Nat) : Int) == (a : Int) || (((32 : Nat) : Int) == (a : Int) || (((64 : Nat) : Int) == (a : Int) || (((128 : Nat) : Int) == (a : Int) || (((256 : Nat) : Int) == (a : Int) || false))))))))) = _
  rw [h, h, h, h, h, h, h, h, h]
  unfold Gk.goodAlign
  rw [List.contains_eq_any_beq]
  rfl
theorem placed_perm (b : Gk.Block) : ∀ l, (Gk.placed b l).Perm (b :: l)
  | [] => .refl _
  | c :: r => by
    unfold Gk.placed
    split
    · exact .refl _
    · exact ((placed_perm b r).cons c).trans (.swap _ _ _)
/-- where a block was put there was none -/
theorem put_new {g : Gk.Ground} {b : Gk.Block} {l : List Gk.Block} {e d : Nat} (f : Gk.Fit e d 0 (Gk.placed b l)) : ∀ c ∈ l, c.at_ ≠ b.at_ := by
  have h := f.sorted
  have n : ((Gk.placed b l).map Gk.Block.at_).Nodup := List.pairwise_map.mpr (h.imp fun {a b} h => Nat.ne_of_lt h)
  have n := ((placed_perm b l).map Gk.Block.at_).nodup_iff.mp n
  have n : (b.at_ :: l.map Gk.Block.at_).Nodup := n
  obtain ⟨n1, _⟩ := List.nodup_cons.mp n
  intro c hc e
  exact n1 (by rw [← e]; exact List.mem_map.mpr ⟨c, hc, rfl⟩)

def sp_open (t : Adr) : Sp := fun vs H Q E => ∃ s r : Nat, Ans t (.open_ s r) [(s : Int), (r : Int)] vs H Q E
def sp_take (t : Adr) : Sp := fun vs H Q E => ∃ n a : Nat, Ans t (.take n a) [(n : Int), (a : Int)] vs H Q E
def sp_zero (t : Adr) : Sp := fun vs H Q E => ∃ n a : Nat, Ans t (.zero n a) [(n : Int), (a : Int)] vs H Q E
def sp_give (t : Adr) : Sp := fun vs H Q E => ∃ b : Nat, Ans t (.give b) [(b : Int)] vs H Q E
def sp_size (t : Adr) : Sp := fun vs H Q E => ∃ b : Nat, Ans t (.size b) [(b : Int)] vs H Q E
def sp_of (t : Adr) : Sp := fun vs H Q E => ∃ b : Nat, Ans t (.of b) [(b : Int)] vs H Q E
def sp_next (t : Adr) : Sp := fun vs H Q E => ∃ b : Nat, Ans t (.next b) [(b : Int)] vs H Q E
def sp_most (t : Adr) : Sp := fun vs H Q E => ∃ a : Nat, Ans t (.most a) [(a : Int)] vs H Q E
def sp_rows (t : Adr) : Sp := fun vs H Q E => ∃ ns : List Int, Ans t .rows ns vs H Q E

section
variable {P : Program} {w : World} {K : PySem.W.Frag} {mg : Str → Option Value} {base : Heap} {t : Adr}
theorem ok_answer_open (T : Txt P w K mg t) : FnOk P w K mg base CX0 2 t.f_answer_open t.d_answer_open ["ground", "numbers"] (sp_open t) := by
  have G_Ground_begin : FnOk P w K mg base CX0 1 t.f_Ground_begin t.d_Ground_begin ["self", "size", "rule"] (sp_Ground_begin t) := ok_Ground_begin T
  refine T.F_answer_open.ok sc_answer_open (fun vs H Q E h => ?_) (fun cdv A outer s H vs Q E hr h => ?_)
  · obtain ⟨z, r, p, l, g, x, rfl, _⟩ := h
    rfl
  · obtain ⟨z, r, p, l, g, x, rfl, G, W, hl, nl, k⟩ := h
    refine ⟨_, (pss_cons (ps_set (i := 2) sc_answer_open.nd rfl (Or.inl rfl) (pe_ix ix_list (pv 1) pe_int (fun _ _ => rfl)))
      (pss_cons (ps_set (i := 3) sc_answer_open.nd rfl (Or.inl rfl) (pe_ix ix_list (pv 1) pe_int (fun _ _ => rfl)))
      (pss_cons (ps_if (PW.pt (pw_or (pt_cmpR op_lt (pv 2) pe_int (nomark _)) (pw_or (pt_cmpR op_gt (pv 2) (pe_glob rfl T.m_MOST_PLACES T.r_MOST_PLACES) (nomark _)) (pw_or1 (pt_cmpR op_gt (pv 3) (pe_glob rfl T.m_LAST_RULE T.r_LAST_RULE) (nomark _)))))) (pss_one (ps_ret (pe_lst (pa_cons (pe_glob rfl T.m_WRONG_NUMBER T.r_WRONG_NUMBER) pa_nil)))) pss_nil)
      (pss_cons (ps_expr (pe_meth (pv 0) T.C_Ground T.H_Ground_begin G_Ground_begin hr T.B_Ground_begin .nil pass0 (pa_cons (pv 2) (pa_cons (pv 3) pa_nil))))
      (pss_one (ps_ret (pe_lst (pa_cons pe_int pa_nil)))))))), ?_⟩
    have bad : (z = 0 ∨ 2048 < z ∨ 4 < r) → ∀ q, H q = none → Q (.ref q) (upd H q (.lst [.int (-1)])) := fun hb q hq => by
      refine k.stay (ans := Gk.no 1) ?_ G hq rfl
      show (if z = 0 ∨ Gk.SIZE < z ∨ 4 < r then (g, Gk.no 1) else (Gk.opened z r, Gk.says 0)) = _
      exact if_pos hb
    refine ⟨_, rfl, l, _, _, _, rfl, rfl, SqL.of hl, at_of (j := 0) rfl rfl, ?_⟩
    refine ⟨_, rfl, l, _, _, _, rfl, rfl, SqL.of hl, at_of (j := 1) rfl rfl, ?_⟩
    refine ⟨_, rfl, _, _, rfl, rfl, _, rfl, ite2 (fun c1 => ?_) fun c1 => ?_⟩
    · have c1 := of_decide_eq_true c1
      exact iteT ⟨sz1, fun q hq => bad (by omega) q hq⟩
    have c1 : ¬ (z : Int) < 1 := fun q => c1 (decide_eq_true q)
    refine ⟨_, rfl, _, _, rfl, rfl, _, rfl, ite2 (fun c2 => ?_) fun c2 => ?_⟩
    · have c2 := of_decide_eq_true c2
      exact iteT ⟨sz1, fun q hq => bad (by omega) q hq⟩
    have c2 : ¬ (2048 : Int) < (z : Int) := fun q => c2 (decide_eq_true q)
    refine ⟨_, rfl, _, _, rfl, rfl, _, rfl, ite2 (fun c3 => ?_) fun c3 => ?_⟩
    · have c3 := of_decide_eq_true c3
      exact ⟨sz1, fun q hq => bad (by omega) q hq⟩
    have c3 : ¬ (4 : Int) < (r : Int) := fun q => c3 (decide_eq_true q)
    refine ⟨_, rfl, p, x.dx, _, rfl, G.ins, gdF_no_begin _ _ _ _ _ _ _, _, rfl, _, rfl, p, x.dx, _, z, r, rfl, G.ins, .inr ⟨_, _, _, _, _, _, _, rfl⟩, by omega, fun H2 x2 G2 ft2 fr2 => ?_⟩
    refine ⟨sz1, fun q hq => k.done (g' := Gk.opened z r) (ans := Gk.says 0) ?_ G2 (fun b d => ?_) (fun b o e hb => fr2 b o e fun z => hb (by rw [z]; exact Foot.p)) hq rfl⟩
    · show (if z = 0 ∨ Gk.SIZE < z ∨ 4 < r then (g, Gk.no 1) else (Gk.opened z r, Gk.says 0)) = _
      exact if_neg (show ¬ (z = 0 ∨ 2048 < z ∨ 4 < r) by omega)
    · rcases ft2 b d with d | d
      · exact .inl (by rw [d]; exact Foot.p)
      · exact .inr d
theorem GA.rowsok {t : Adr} {H : Hp} {p : Addr} {g : Gk.Ground} {x : GD} (G : GA t H p g x) (W : Gk.Wf g) : g.rows.length ≤ 2049 ∧ ∀ r ∈ g.rows, r.1 ≤ r.2 := by
  refine ⟨?_, fun r hr => Nat.le_of_lt (Gk.rowsFrom_mem W.fit hr).2.1⟩
  have h1 := rowsFrom_len g.size g.blocks 0
  have h2 := G.len W
  rw [G.eqb, List.length_map] at h1
  have e : g.rows.length = (Gk.rowsFrom g.size 0 (x.bs.map (·.1))).length := by rw [← G.eqb]; rfl
  omega
theorem ok_answer_take (T : Txt P w K mg t) : FnOk P w K mg base CX0 6 t.f_answer_take t.d_answer_take ["ground", "numbers"] (sp_take t) := by
  have G_choose_address : FnOk P w K mg base CX0 5 t.f_choose_address t.d_choose_address ["rows", "rule", "mark", "reach", "alignment"] (sp_choose_address t) := ok_choose_address T
  have G_Ground_rows : FnOk P w K mg base CX0 4 t.f_Ground_rows t.d_Ground_rows ["self"] (sp_Ground_rows t) := ok_Ground_rows T
  have G_reach_of : FnOk P w K mg base CX0 1 t.f_reach_of t.d_reach_of ["n"] sp_reach_of := ok_reach_of T
  have G_Ground_settle : FnOk P w K mg base CX0 3 t.f_Ground_settle t.d_Ground_settle ["self", "block"] (sp_settle t) := ok_settle T
  have G_Block_init : FnOk P w K mg base CX0 1 t.f_Block_init t.d_Block_init ["self", "address", "n", "alignment", "group"] (sp_Block_init t) := ok_Block_init T
  refine T.F_answer_take.ok sc_answer_take (fun vs H Q E h => ?_) (fun cdv A outer s H vs Q E hr h => ?_)
  · obtain ⟨z, r, p, l, g, x, rfl, _⟩ := h
    rfl
  · obtain ⟨n, al, p, l, g, x, rfl, G, W, hl, nl, k⟩ := h
    refine ⟨_, (pss_cons (ps_set (i := 2) sc_answer_take.nd rfl (Or.inl rfl) (pe_ix ix_list (pv 1) pe_int (fun _ _ => rfl)))
      (pss_cons (ps_set (i := 3) sc_answer_take.nd rfl (Or.inl rfl) (pe_ix ix_list (pv 1) pe_int (fun _ _ => rfl)))
      (pss_cons (ps_if (pt_cmpR op_notIn_seq (pv 3) (pe_glob (v := .ref t.a_ALIGNMENTS) rfl T.m_ALIGNMENTS rfl) rfl) (pss_one (ps_ret (pe_lst (pa_cons (pe_glob rfl T.m_WRONG_NUMBER T.r_WRONG_NUMBER) pa_nil)))) pss_nil)
      (pss_cons (ps_set (i := 4) sc_answer_take.nd rfl (Or.inl rfl) (pe_call G_choose_address hr rfl T.m_choose_address T.F_choose_address.kp T.B_choose_address .nil pass0 (pa_cons (pe_meth0 (pv 0) T.C_Ground T.H_Ground_rows G_Ground_rows (hr.mono (by decide : 4 ≤ 5)) T.B_Ground_rows .nil pass0) (pa_cons (pe_fld (pv 0) rfl) (pa_cons (pe_fld (pv 0) rfl) (pa_cons (pe_call G_reach_of (hr.mono (by decide : 1 ≤ 5)) rfl T.m_reach_of T.F_reach_of.kp T.B_reach_of .nil pass0 (pa_cons (pv 2) pa_nil)) (pa_cons (pv 3) pa_nil)))))))
      (pss_cons (ps_if (pt_cmp (pc_isN (pv 4))) (pss_one (ps_ret (pe_lst (pa_cons (pe_glob rfl T.m_NO_ROOM T.r_NO_ROOM) pa_nil)))) pss_nil)
      (pss_cons (ps_expr (pe_meth (pv 0) T.C_Ground T.H_Ground_settle G_Ground_settle (hr.mono (by decide : 3 ≤ 5)) T.B_Ground_settle .nil pass0 (pa_cons (pe_make T.K_Block G_Block_init (hr.mono (by decide : 2 ≤ 5)) rfl T.m_Block T.B_Block_init .nil pass0 (pa_cons (pv 4) (pa_cons (pv 2) (pa_cons (pv 3) (pa_cons (pe_fld (pv 0) rfl) pa_nil))))) pa_nil)))
      (pss_one (ps_ret (pe_lst (pa_cons (pv 4) pa_nil)))))))))), ?_⟩
    refine ⟨_, rfl, l, _, _, _, rfl, rfl, SqL.of hl, at_of (j := 0) rfl rfl, ?_⟩
    refine ⟨_, rfl, l, _, _, _, rfl, rfl, SqL.of hl, at_of (j := 1) rfl rfl, ?_⟩
    refine ⟨_, rfl, t.a_ALIGNMENTS, tup_ALIGNMENTS, rfl, .inr (.inr T.t_ALIGNMENTS), rfl, rfl, ?_⟩
    rw [if_pos rfl, in_align]
    refine ⟨_, rfl, ?_⟩
    have st : Gk.step g (.take n al) = if Gk.goodAlign al = true then Gk.putAnswer g (g.taken n al) else (g, Gk.no 1) := rfl
    cases ga : Gk.goodAlign al with
    | false =>
      rw [ga] at st
      exact iteT ⟨sz1, fun q hq => k.stay (ans := Gk.no 1) st G hq rfl⟩
    | true =>
      rw [ga] at st
      have st : Gk.step g (.take n al) = Gk.putAnswer g (g.taken n al) := st
      obtain ⟨a1, a2⟩ := Gk.good_pos ga
      refine iteF ?_
      refine ⟨_, rfl, p, x.dx, _, rfl, G.ins, gdF_no_rows _ _ _ _ _ _ _, p, g, x, rfl, G, W, fun H1 l1 hR s1 => ?_⟩
      have G1 := G.same s1
      refine ⟨_, rfl, p, _, x.dx, _, _, rfl, G1.ins, T.C_Ground, T.n_Ground_rule, gdF_rule _ _ _ _ _ _ _, _, rfl, p, _, x.dx, _, _, rfl, G1.ins, T.C_Ground, T.n_Ground_mark, gdF_mark _ _ _ _ _ _ _, _, rfl, n, rfl, _, rfl, ?_⟩
      refine ⟨l1, g.rows, g.rule, g.mark, n, al, rfl, hR, a1, a2, (G.rowsok W).1, (G.rowsok W).2, W.rule, fun H2 s2 => ?_⟩
      have s12 := s1.trans s2
      have G2 := G.same s12
      refine ⟨_, rfl, _, rfl, ?_⟩
      cases pl : Gk.place g.rule g.mark g.rows n al with
      | none =>
        have e : Gk.step g (.take n al) = (g, Gk.no 3) := by
          rw [st]
          unfold Gk.Ground.taken
          rw [pl]
          rfl
        exact iteT ⟨sz1, fun q hq => k.reads (ans := Gk.no 3) e G s12 hq rfl⟩
      | some ad =>
        have e : Gk.step g (.take n al) = (g.put ⟨ad, n, al, g.depth⟩, Gk.says ad) := by
          rw [st]
          unfold Gk.Ground.taken
          rw [pl]
          rfl
        have W' := Gk.wf_put W ga pl
        have hnew : ∀ q ∈ x.bs, q.1.at_ ≠ ad := fun q hq => put_new (g := g) (b := ⟨ad, n, al, g.depth⟩) (l := g.blocks) W'.fit q.1 (by rw [G.eqb]; exact List.mem_map.mpr ⟨q, hq, rfl⟩)
        refine iteF ?_
        refine ⟨_, rfl, p, x.dx, _, rfl, G2.ins, gdF_no_settle _ _ _ _ _ _ _, _, rfl, _, rfl, _, rfl, _, rfl, p, _, x.dx, _, _, rfl, G2.ins, T.C_Ground, T.n_Ground_depth, gdF_depth _ _ _ _ _ _ _, fun a da na nda ne => ?_⟩
        refine ⟨a, da, ⟨ad, n, al, g.depth⟩, rfl, upd_same, fun H3 hB k3 => ⟨rfl, ?_⟩⟩
        have s3 : Same H2 H3 := Same.made na nda k3
        have ha : H a = none := s12.free na
        refine ⟨p, g, x, a, ⟨ad, n, al, g.depth⟩, rfl, G2.same s3, hB, hnew, Nat.le_trans (G.len W) (by decide), fun H4 x4 G4 ft4 _ fr4 => ?_⟩
        refine ⟨_, rfl, sz1, fun q hq => k.done e G4 (fun b d => ?_) (fun b o eb hb => fr4 b o (s3 _ _ (s12 _ _ eb)) hb) hq rfl⟩
        rcases ft4 b d with d | d
        · exact .inl d
        · exact .inr (by rw [d]; exact ha)
end
end Gp

set_option Elab.async false
set_option linter.all false
set_option maxRecDepth 100000
set_option maxHeartbeats 4000000
/-! zero, resize, give. -/
namespace Gp
open PySem PySem.Spec PyProof.Rows L2
theorem dn_ne {D : Addr → Prop} {H : Hp} {a c : Addr} {o : HO} (h : D a ∨ H a = none) (hc : H c = some o) (nc : ¬ D c ∨ False) : c ≠ a := fun e => by
  rcases h with h | h
  · exact nc.elim (fun z => z (by rw [e]; exact h)) id
  · rw [e, h] at hc
    cases hc
theorem write_read {s : Gk.Bytes} {p k : Nat} (h : p + k ≤ s.length) : Gk.writeAt s p (Gk.readAt s p k) = s := by
  unfold Gk.writeAt
  rw [Gk.readAt_len h]
  unfold Gk.readAt
  rw [← List.drop_drop, List.take_append_drop, List.take_append_drop]
/-- a block given back -/
theorem GA.popped {t : Adr} {H : Hp} {p : Addr} {g : Gk.Ground} {x : GD} (G : GA t H p g x) (a : Nat) :
    GA t (upd H x.bl (.dK (dropK x.kvs (.inl (a : Int))))) p { g with blocks := Gk.without a g.blocks } { x with kvs := dropK x.kvs (.inl (a : Int)), bs := x.bs.filter fun q => q.1.at_ != a } := by
  have np : p ≠ x.bl := ne_of G.ins G.blo (by intro z; cases z)
  have ns : x.st ≠ x.bl := ne_of G.sto G.blo (by intro z; cases z)
  refine ⟨?_, ?_, upd_same, ?_, G.bw, ?_, ?_, fun q hq => ?_, G.wks⟩
  · rw [upd_ne np]
    exact G.ins
  · rw [upd_ne ns]
    exact G.sto
  · rw [upd_ne G.bw.symm]
    exact G.wal
  · show Gk.without a g.blocks = _
    unfold Gk.without
    rw [G.eqb, List.filter_map]
    rfl
  · show (dropK x.kvs (.inl (a : Int))).Perm _
    unfold dropK
    have h := G.perm.filter fun kv => decide (kv.1 ≠ (Sum.inl (a : Int) : Key))
    rw [List.filter_map] at h
    have e : (x.bs.filter ((fun kv : Key × V => decide (kv.1 ≠ (Sum.inl (a : Int) : Key))) ∘ kvOf)) = x.bs.filter fun q => q.1.at_ != a := by
      refine List.filter_congr fun q _ => ?_
      show decide ((Sum.inl (q.1.at_ : Int) : Key) ≠ Sum.inl (a : Int)) = (q.1.at_ != a)
      by_cases z : q.1.at_ = a
      · rw [z]
        simp
      · rw [decide_eq_true (show (Sum.inl (q.1.at_ : Int) : Key) ≠ Sum.inl (a : Int) from fun w => z (key_int.mp w))]
        exact (bne_iff_ne.mpr z).symm
    rw [e] at h
    exact h
  · obtain ⟨dq, eq⟩ := G.blk q (List.mem_filter.mp hq).1
    exact ⟨dq, by rw [upd_ne (ne_of eq G.blo (by intro z; cases z))]; exact eq⟩
def sp_resize (t : Adr) : Sp := fun vs H Q E => ∃ b n : Nat, Ans t (.resize b n) [(b : Int), (n : Int)] vs H Q E
def resA (g : Gk.Ground) (b : Gk.Block) (n : Nat) : Option Nat := if n ≤ b.n ∨ b.at_ + max n 1 ≤ g.bound b then some b.at_ else Gk.place g.rule g.mark (Gk.rows g.size (Gk.without b.at_ g.blocks)) n b.align
def sp_address_resized (t : Adr) : Sp := fun vs H Q _ => ∃ (p : Addr) (g : Gk.Ground) (x : GD) (a : Addr) (b : Gk.Block) (n : Nat), vs = [.ref p, .ref a, .int n] ∧ GA t H p g x ∧ Gk.Wf g ∧ (b, a) ∈ x.bs ∧ ∀ H' : Hp, Same H H' → Q (optV (resA g b n)) H'
section
variable {P : Program} {w : World} {K : PySem.W.Frag} {mg : Str → Option Value} {base : Heap} {t : Adr}
theorem ok_answer_zero (T : Txt P w K mg t) : FnOk P w K mg base CX0 7 t.f_answer_zero t.d_answer_zero ["ground", "numbers"] (sp_zero t) := by
  have G_answer_take : FnOk P w K mg base CX0 6 t.f_answer_take t.d_answer_take ["ground", "numbers"] (sp_take t) := ok_answer_take T
  have G_Ground_put : FnOk P w K mg base CX0 1 t.f_Ground_put t.d_Ground_put ["self", "address", "new_bytes"] (sp_put t) := ok_put T
  refine T.F_answer_zero.ok sc_answer_zero (fun vs H Q E h => ?_) (fun cdv A outer s H vs Q E hr h => ?_)
  · obtain ⟨z, r, p, l, g, x, rfl, _⟩ := h
    rfl
  · obtain ⟨n, al, p, l, g, x, rfl, G, W, hl, nl, k⟩ := h
    refine ⟨_, (pss_cons (ps_set (i := 2) sc_answer_zero.nd rfl (Or.inl rfl) (pe_call G_answer_take hr rfl T.m_answer_take T.F_answer_take.kp T.B_answer_take .nil pass0 (pa_cons (pv 0) (pa_cons (pv 1) pa_nil))))
      (pss_cons (ps_if (pt_cmpR op_ge (pe_ix ix_list (pv 2) pe_int (fun _ _ => rfl)) pe_int (nomark _)) (pss_one (ps_expr (pe_meth (pv 0) T.C_Ground T.H_Ground_put G_Ground_put (hr.mono (by decide : 1 ≤ 6)) T.B_Ground_put .nil pass0 (pa_cons (pe_ix ix_list (pv 2) pe_int (fun _ _ => rfl)) (pa_cons (pe_op op_rep (pe_lst (pa_cons pe_int pa_nil)) (pe_ix ix_list (pv 1) pe_int (fun _ _ => rfl))) pa_nil))))) pss_nil)
      (pss_one (ps_ret (pv 2))))), ?_⟩
    refine ⟨_, rfl, _, rfl, n, al, p, l, g, x, rfl, G, W, hl, nl, fun H1 x1 q1 G1 ft1 fr1 hq1 fq1 nq1 => ?_⟩
    have st : Gk.step g (.take n al) = if Gk.goodAlign al = true then Gk.putAnswer g (g.taken n al) else (g, Gk.no 1) := rfl
    have sz : Gk.step g (.zero n al) = if Gk.goodAlign al = true then Gk.putAnswer g ((g.taken n al).map fun (x : Gk.Ground × Nat) => ({ x.1 with bytes := Gk.writeAt x.1.bytes x.2 (List.replicate n 0) }, x.2)) else (g, Gk.no 1) := rfl
    cases ga : Gk.goodAlign al with
    | false =>
      rw [ga] at st sz
      have st : Gk.step g (.take n al) = (g, Gk.no 1) := st
      have sz : Gk.step g (.zero n al) = (g, Gk.no 1) := sz
      rw [st] at G1 hq1
      refine ⟨_, rfl, q1, _, _, _, rfl, rfl, SqL.of hq1, at_of (j := 0) rfl rfl, _, _, rfl, rfl, _, rfl, ?_⟩
      refine iteDF (by decide) ⟨_, rfl, k H1 x1 q1 (by rw [sz]; exact G1) ft1 fr1 (by rw [sz]; exact hq1) fq1 nq1⟩
    | true =>
      rw [ga] at st sz
      have st : Gk.step g (.take n al) = Gk.putAnswer g (g.taken n al) := st
      have sz : Gk.step g (.zero n al) = Gk.putAnswer g ((g.taken n al).map fun (x : Gk.Ground × Nat) => ({ x.1 with bytes := Gk.writeAt x.1.bytes x.2 (List.replicate n 0) }, x.2)) := sz
      unfold Gk.Ground.taken at st sz
      cases pl : Gk.place g.rule g.mark g.rows n al with
      | none =>
        rw [pl] at st sz
        have st : Gk.step g (.take n al) = (g, Gk.no 3) := st
        have sz : Gk.step g (.zero n al) = (g, Gk.no 3) := sz
        rw [st] at G1 hq1
        refine ⟨_, rfl, q1, _, _, _, rfl, rfl, SqL.of hq1, at_of (j := 0) rfl rfl, _, _, rfl, rfl, _, rfl, ?_⟩
        refine iteDF (by decide) ⟨_, rfl, k H1 x1 q1 (by rw [sz]; exact G1) ft1 fr1 (by rw [sz]; exact hq1) fq1 nq1⟩
      | some ad =>
        rw [pl] at st sz
        have st : Gk.step g (.take n al) = (g.put ⟨ad, n, al, g.depth⟩, Gk.says ad) := st
        have sz : Gk.step g (.zero n al) = ({ g.put ⟨ad, n, al, g.depth⟩ with bytes := Gk.writeAt (g.put ⟨ad, n, al, g.depth⟩).bytes ad (List.replicate n 0) }, Gk.says ad) := sz
        rw [st] at G1 hq1
        have W1 : Gk.Wf (g.put ⟨ad, n, al, g.depth⟩) := Gk.wf_put W ga pl
        have hin : ad + n ≤ g.bytes.length := by
          have h := (W1.fit.mem (b := ⟨ad, n, al, g.depth⟩) ((placed_perm _ _).mem_iff.mpr (List.mem_cons_self ..))).2.1
          have h : ad + max n 1 ≤ g.bytes.length := h
          omega
        have hsz := W.size
        have hsz : g.bytes.length ≤ 2048 := hsz
        have big : (2048 : Nat) ≤ sizeLine := by decide
        refine ⟨_, rfl, q1, _, _, _, rfl, rfl, SqL.of hq1, at_of (j := 0) rfl rfl, _, _, rfl, rfl, _, rfl, ?_⟩
        refine iteDT (show (0 : Int) ≤ (ad : Int) by omega) ?_
        refine ⟨_, rfl, p, x1.dx, _, rfl, G1.ins, gdF_no_put _ _ _ _ _ _ _, _, rfl, q1, _, _, _, rfl, rfl, SqL.of hq1, at_of (j := 0) rfl rfl, sz1, fun l2 hl2 => ?_⟩
        have hl1 := fr1 _ _ hl (G.outL hl nl)
        have s2 : Same H1 (upd H1 l2 (.lst [.int 0])) := Same.new hl2
        refine ⟨_, rfl, l, _, _, _, rfl, rfl, SqL.of (s2 _ _ hl1), at_of (j := 0) rfl rfl, l2, n, [.int 0], rfl, rfl, upd_same, by omega, by omega, by rw [Int.toNat_natCast]; show 1 * n ≤ sizeLine; omega, fun l3 hl3 => ?_⟩
        have s3 := s2.trans (Same.new (o := .lst (List.replicate (n : Int).toNat [V.int 0]).flatten) hl3)
        have G3 := G1.same s3
        refine ⟨p, x1.st, (g.put ⟨ad, n, al, g.depth⟩).bytes, ad, l3, List.replicate n 0, rfl, G3.sa, ?_, ?_, ?_, fun H4 hs4 fr4 => ?_⟩
        · rw [upd_same, Int.toNat_natCast, bV_zeros]
        · exact (ne_of_none (s2 _ _ G1.sto) hl3).symm
        · rw [List.length_replicate]
          exact hin
        · have G4 := G3.wrote (s := Gk.writeAt (g.put ⟨ad, n, al, g.depth⟩).bytes ad (List.replicate n 0)) (Gk.writeAt_len (by rw [List.length_replicate]; exact hin)) hs4 fr4
          refine ⟨_, rfl, k H4 x1 q1 (by rw [sz]; exact G4) ft1 (fun b o e hb => ?_) ?_ fq1 nq1⟩
          · exact fr4 _ _ (s3 _ _ (fr1 b o e hb)) (dn_ne (ft1 _ Foot.s) e (.inl hb))
          · rw [sz]
            exact fr4 _ _ (s3 _ _ hq1) nq1
theorem ok_address_resized (T : Txt P w K mg t) : FnOk P w K mg base CX0 6 t.f_address_resized t.d_address_resized ["ground", "block", "n"] (sp_address_resized t) := by
  have G_Ground_rows_without : FnOk P w K mg base CX0 4 t.f_Ground_rows_without t.d_Ground_rows_without ["self", "left_out"] (sp_rows_without t) := ok_rows_without T
  have G_reach_of : FnOk P w K mg base CX0 1 t.f_reach_of t.d_reach_of ["n"] sp_reach_of := ok_reach_of T
  have G_choose_address : FnOk P w K mg base CX0 5 t.f_choose_address t.d_choose_address ["rows", "rule", "mark", "reach", "alignment"] (sp_choose_address t) := ok_choose_address T
  refine T.F_address_resized.ok sc_address_resized (fun vs H Q E h => ?_) (fun cdv A outer s H vs Q E hr h => ?_)
  · obtain ⟨p, g, x, a, b, n, rfl, _⟩ := h
    rfl
  · obtain ⟨p, g, x, a, b, n, rfl, G, W, hm, k⟩ := h
    refine ⟨_, (pss_cons (ps_set (i := 3) sc_address_resized.nd rfl (Or.inl rfl) (pe_meth (pv 0) T.C_Ground T.H_Ground_rows_without G_Ground_rows_without (hr.mono (by decide : 4 ≤ 5)) T.B_Ground_rows_without .nil pass0 (pa_cons (pe_fld (pv 1) rfl) pa_nil)))
      (pss_cons (ps_for PassesOwn.never rfl (pi_list (pv 3)) (pg_name (i := 4) sc_address_resized.nd rfl (Or.inl rfl))
        (pss_one (ps_if (PW.pt (pw_and (pt_cmpR op_le (pe_fld (pv 4) rfl) (pe_fld (pv 1) rfl) (nomark _)) (pw_and1 (pt_cmpR op_le (pe_op op_add (pe_fld (pv 1) rfl) (pe_call G_reach_of (hr.mono (by decide : 1 ≤ 5)) rfl T.m_reach_of T.F_reach_of.kp T.B_reach_of .nil pass0 (pa_cons (pv 2) pa_nil))) (pe_fld (pv 4) rfl) (nomark _))))) (pss_one (ps_ret (pe_fld (pv 1) rfl))) pss_nil)))
      (pss_one (ps_ret (pe_call G_choose_address hr rfl T.m_choose_address T.F_choose_address.kp T.B_choose_address .nil pass0 (pa_cons (pv 3) (pa_cons (pe_fld (pv 0) rfl) (pa_cons (pe_fld (pv 0) rfl) (pa_cons (pe_call G_reach_of (hr.mono (by decide : 1 ≤ 5)) rfl T.m_reach_of T.F_reach_of.kp T.B_reach_of .nil pass0 (pa_cons (pv 2) pa_nil)) (pa_cons (pe_fld (pv 1) rfl) pa_nil)))))))))), ?_⟩
    obtain ⟨db, eb⟩ := G.blk _ hm
    have hbm : b ∈ g.blocks := by rw [G.eqb]; exact List.mem_map.mpr ⟨_, hm, rfl⟩
    have hff := W.fit.mem hbm
    obtain ⟨a1, a2⟩ := Gk.good_pos hff.2.2.2.1
    refine ⟨_, rfl, p, x.dx, _, rfl, G.ins, gdF_no_rows_without _ _ _ _ _ _ _, _, rfl, a, _, db, _, _, rfl, eb, T.C_Block, T.n_Block_address, bkF_address _ _ _ _, p, g, x, b.at_, rfl, G, W, fun H1 l1 hR s1 => ?_⟩
    obtain ⟨as, hl1, hA⟩ := id hR
    have eb1 := s1 _ _ eb
    have G1 := G.same s1
    have hwf := Gk.without_fit (a := b.at_) W.fit
    have hrl : (Gk.rows g.size (Gk.without b.at_ g.blocks)).length ≤ 2049 := by
      have h1 := rowsFrom_len g.size (Gk.without b.at_ g.blocks) 0
      have h2 := G.len W
      have h3 : (Gk.without b.at_ g.blocks).length ≤ g.blocks.length := List.length_filter_le _ _
      have h4 : g.blocks.length = x.bs.length := by rw [G.eqb, List.length_map]
      have e : (Gk.rows g.size (Gk.without b.at_ g.blocks)).length = (Gk.rowsFrom g.size 0 (Gk.without b.at_ g.blocks)).length := rfl
      omega
    refine ⟨_, rfl, l1, rfl, ⟨_, SqL.of hl1⟩, for_list (K := K) (a := l1) (xs := as.map V.ref)
      (fun i σ H' => ∃ v : Option V, σ = [some (.ref p), some (.ref a), some (.int n), some (.ref l1), v] ∧ H' = H1 ∧ ∀ (j : Nat) (r : Gk.Row), j < i → (Gk.rows g.size (Gk.without b.at_ g.blocks))[j]? = some r → ¬ (r.1 ≤ b.at_ ∧ b.at_ + max n 1 ≤ r.2))
      ⟨none, rfl, rfl, fun j r h => absurd h (Nat.not_lt_zero _)⟩ (fun i σ H' _ ⟨_, _, e, _⟩ => by rw [e]; exact SqL.of hl1) ?_ ?_⟩
    · rintro i y σ H' hi ⟨v, rfl, rfl, hno⟩
      obtain ⟨ra, hra, rfl⟩ := map_get hi
      obtain ⟨r, hr5, dr, er⟩ := hA.get hra
      have nxt : ¬ (r.1 ≤ b.at_ ∧ b.at_ + max n 1 ≤ r.2) → ∀ (j : Nat) (r : Gk.Row), j < i + 1 → (Gk.rows g.size (Gk.without b.at_ g.blocks))[j]? = some r → ¬ (r.1 ≤ b.at_ ∧ b.at_ + max n 1 ≤ r.2) := fun h j r' hj e => by
        by_cases z : j = i
        · rw [z, hr5] at e
          rw [← Option.some.inj e]
          exact h
        · exact hno j r' (by omega) e
      refine ⟨_, rfl, ra, _, dr, _, _, rfl, er, T.C_Row, T.n_Row_first, rwF_first _ _, _, rfl, a, _, db, _, _, rfl, eb1, T.C_Block, T.n_Block_address, bkF_address _ _ _ _, _, _, rfl, rfl, _, rfl, ite2 (fun c1 => ?_) fun c1 => ?_⟩
      · have c1 : (r.1 : Int) ≤ (b.at_ : Int) := of_decide_eq_true c1
        refine ⟨_, rfl, a, _, db, _, _, rfl, eb1, T.C_Block, T.n_Block_address, bkF_address _ _ _ _, _, rfl, n, rfl, _, _, rfl, rfl, _, rfl, ra, _, dr, _, _, rfl, er, T.C_Row, T.n_Row_end, rwF_end _ _, _, _, rfl, rfl, _, rfl, ite2 (fun c2 => ?_) fun c2 => ?_⟩
        · have c2 : (b.at_ : Int) + ((max n 1 : Nat) : Int) ≤ (r.2 : Int) := of_decide_eq_true c2
          refine ⟨_, rfl, a, _, db, _, _, rfl, eb1, T.C_Block, T.n_Block_address, bkF_address _ _ _ _, ?_⟩
          have k := k H' s1
          unfold resA at k
          rw [if_pos (show n ≤ b.n ∨ b.at_ + max n 1 ≤ g.bound b from (Gk.stays_iff W.fit hbm n).mp ⟨r, List.mem_of_getElem? hr5, by omega, by omega⟩)] at k
          exact k
        · have c2 : ¬ ((b.at_ : Int) + ((max n 1 : Nat) : Int) ≤ (r.2 : Int)) := fun z => c2 (decide_eq_true z)
          exact ⟨_, rfl, rfl, nxt (by omega)⟩
      · have c1 : ¬ ((r.1 : Int) ≤ (b.at_ : Int)) := fun z => c1 (decide_eq_true z)
        exact iteF ⟨_, rfl, rfl, nxt (by omega)⟩
    · rintro σ H' ⟨v, rfl, rfl, hno⟩
      rw [List.length_map, hA.1] at hno
      refine ⟨_, rfl, _, rfl, p, _, x.dx, _, _, rfl, G1.ins, T.C_Ground, T.n_Ground_rule, gdF_rule _ _ _ _ _ _ _, _, rfl, p, _, x.dx, _, _, rfl, G1.ins, T.C_Ground, T.n_Ground_mark, gdF_mark _ _ _ _ _ _ _, _, rfl, n, rfl, _, rfl, a, _, db, _, _, rfl, eb1, T.C_Block, T.n_Block_alignment, bkF_alignment _ _ _ _, ?_⟩
      refine ⟨l1, _, g.rule, g.mark, n, b.align, rfl, hR, a1, a2, hrl, fun r hr => Nat.le_of_lt (Gk.rowsFrom_mem hwf hr).2.1, W.rule, fun H2 s2 => ?_⟩
      have k := k H2 (s1.trans s2)
      unfold resA at k
      rw [if_neg (show ¬ (n ≤ b.n ∨ b.at_ + max n 1 ≤ g.bound b) from fun z => by
        obtain ⟨r, hr, h1, h2⟩ := (Gk.stays_iff W.fit hbm n).mpr z
        obtain ⟨j, hj⟩ := List.mem_iff_getElem?.mp hr
        exact hno j r (get_lt hj) hj ⟨h1, h2⟩)] at k
      exact k
end
end Gp

set_option Elab.async false
set_option linter.all false
set_option maxRecDepth 100000
set_option maxHeartbeats 4000000
namespace Gp
open PySem PySem.Spec PyProof.Rows L2
section
variable {P : Program} {w : World} {K : PySem.W.Frag} {mg : Str → Option Value} {base : Heap} {t : Adr}
theorem resized_eq (g : Gk.Ground) (b : Gk.Block) (n : Nat) : g.resized b n = (resA g b n).map fun p =>
    ({ g with bytes := (if n ≤ b.n ∨ b.at_ + max n 1 ≤ g.bound b then g.bytes else Gk.writeAt g.bytes p (Gk.readAt g.bytes b.at_ b.n)), blocks := Gk.placed { b with at_ := p, n := n } (Gk.without b.at_ g.blocks), mark := p + max n 1 }, p) := by
  unfold Gk.Ground.resized resA
  by_cases h : n ≤ b.n ∨ b.at_ + max n 1 ≤ g.bound b
  · simp only [if_pos h]
    rfl
  · simp only [if_neg h]
theorem ok_answer_resize (T : Txt P w K mg t) : FnOk P w K mg base CX0 7 t.f_answer_resize t.d_answer_resize ["ground", "numbers"] (sp_resize t) := by
  have G_address_resized : FnOk P w K mg base CX0 6 t.f_address_resized t.d_address_resized ["ground", "block", "n"] (sp_address_resized t) := ok_address_resized T
  have G_Ground_bytes_from : FnOk P w K mg base CX0 1 t.f_Ground_bytes_from t.d_Ground_bytes_from ["self", "address", "how_many"] (sp_bytes_from t) := ok_bytes_from T
  have G_Ground_settle : FnOk P w K mg base CX0 3 t.f_Ground_settle t.d_Ground_settle ["self", "block"] (sp_settle t) := ok_settle T
  have G_Block_init : FnOk P w K mg base CX0 1 t.f_Block_init t.d_Block_init ["self", "address", "n", "alignment", "group"] (sp_Block_init t) := ok_Block_init T
  have G_Ground_put : FnOk P w K mg base CX0 1 t.f_Ground_put t.d_Ground_put ["self", "address", "new_bytes"] (sp_put t) := ok_put T
  refine T.F_answer_resize.ok sc_answer_resize (fun vs H Q E h => ?_) (fun cdv A outer s H vs Q E hr h => ?_)
  · obtain ⟨z, r, p, l, g, x, rfl, _⟩ := h
    rfl
  · obtain ⟨b0, n, p, l, g, x, rfl, G, W, hl, nl, k⟩ := h
    have hu := hu_of hr
    refine ⟨_, (pss_cons (ps_set (i := 2) sc_answer_resize.nd rfl (Or.inl rfl) (pe_ix ix_list (pv 1) pe_int (fun _ _ => rfl)))
      (pss_cons (ps_set (i := 3) sc_answer_resize.nd rfl (Or.inl rfl) (pe_dget1 hu (pe_fld (pv 0) rfl) (pe_ix ix_list (pv 1) pe_int (fun _ _ => rfl)) ⟨rfl, rfl, rfl, rfl⟩))
      (pss_cons (ps_if (pt_cmp (pc_isN (pv 3))) (pss_one (ps_ret (pe_lst (pa_cons (pe_glob rfl T.m_NO_BLOCK T.r_NO_BLOCK) pa_nil)))) pss_nil)
      (pss_cons (ps_set (i := 4) sc_answer_resize.nd rfl (Or.inl rfl) (pe_call G_address_resized hr rfl T.m_address_resized T.F_address_resized.kp T.B_address_resized .nil pass0 (pa_cons (pv 0) (pa_cons (pv 3) (pa_cons (pv 2) pa_nil)))))
      (pss_cons (ps_if (pt_cmp (pc_isN (pv 4))) (pss_one (ps_ret (pe_lst (pa_cons (pe_glob rfl T.m_NO_ROOM T.r_NO_ROOM) pa_nil)))) pss_nil)
      (pss_cons (ps_set (i := 5) sc_answer_resize.nd rfl (Or.inl rfl) (pe_meth (pv 0) T.C_Ground T.H_Ground_bytes_from G_Ground_bytes_from (hr.mono (by decide : 1 ≤ 6)) T.B_Ground_bytes_from .nil pass0 (pa_cons (pe_fld (pv 3) rfl) (pa_cons (pe_callB (call_min2 rfl) (by rfl) T.b_min boot_min (pa_cons (pe_fld (pv 3) rfl) (pa_cons (pv 2) pa_nil))) pa_nil))))
      (pss_cons (ps_expr (pe_dpop1 (pe_fld (pv 0) rfl) (pe_fld (pv 3) rfl) ⟨rfl, rfl, rfl, rfl⟩))
      (pss_cons (ps_expr (pe_meth (pv 0) T.C_Ground T.H_Ground_settle G_Ground_settle (hr.mono (by decide : 3 ≤ 6)) T.B_Ground_settle .nil pass0 (pa_cons (pe_make T.K_Block G_Block_init (hr.mono (by decide : 2 ≤ 6)) rfl T.m_Block T.B_Block_init .nil pass0 (pa_cons (pv 4) (pa_cons (pv 2) (pa_cons (pe_fld (pv 3) rfl) (pa_cons (pe_fld (pv 3) rfl) pa_nil))))) pa_nil)))
      (pss_cons (ps_expr (pe_meth (pv 0) T.C_Ground T.H_Ground_put G_Ground_put (hr.mono (by decide : 1 ≤ 6)) T.B_Ground_put .nil pass0 (pa_cons (pv 4) (pa_cons (pv 5) pa_nil))))
      (pss_one (ps_ret (pe_lst (pa_cons (pv 4) pa_nil))))))))))))), ?_⟩
    refine ⟨_, rfl, l, _, _, _, rfl, rfl, SqL.of hl, at_of (j := 1) rfl rfl, ?_⟩
    have st : Gk.step g (.resize b0 n) = Gk.onBlock g b0 fun x => Gk.putAnswer g (g.resized x n) := rfl
    unfold Gk.onBlock at st
    cases hf : g.find b0 with
    | none =>
      rw [hf] at st
      refine ⟨_, rfl, p, _, x.dx, _, _, rfl, G.ins, T.C_Ground, T.n_Ground_blocks, gdF_blocks _ _ _ _ _ _ _, x.bl, rfl, .inl ⟨_, .inl G.blo⟩, _, rfl, l, _, _, _, rfl, rfl, SqL.of hl, at_of (j := 0) rfl rfl, none, .inl ⟨x.kvs, .inl (b0 : Int), .inl G.blo, rfl, (G.find_none hf).symm⟩, ?_⟩
      exact ⟨_, rfl, _, rfl, iteT ⟨sz1, fun q hq => k.stay (ans := Gk.no 2) st G hq rfl⟩⟩
    | some b =>
      rw [hf] at st
      have st : Gk.step g (.resize b0 n) = Gk.putAnswer g (g.resized b n) := st
      obtain ⟨a, hm, hat, hv, db, eb⟩ := G.find_some W hf
      have hbm : b ∈ g.blocks := by rw [G.eqb]; exact List.mem_map.mpr ⟨_, hm, rfl⟩
      have hff := W.fit.mem hbm
      have hbl : b.at_ + b.n ≤ g.bytes.length := by
        have h : b.at_ + max b.n 1 ≤ g.bytes.length := hff.2.1
        omega
      refine ⟨_, rfl, p, _, x.dx, _, _, rfl, G.ins, T.C_Ground, T.n_Ground_blocks, gdF_blocks _ _ _ _ _ _ _, x.bl, rfl, .inl ⟨_, .inl G.blo⟩, _, rfl, l, _, _, _, rfl, rfl, SqL.of hl, at_of (j := 0) rfl rfl, some (.ref a), .inl ⟨x.kvs, .inl (b0 : Int), .inl G.blo, rfl, hv.symm⟩, ?_⟩
      refine ⟨_, rfl, _, rfl, iteF ?_⟩
      refine ⟨_, rfl, _, rfl, _, rfl, p, g, x, a, b, n, rfl, G, W, hm, fun H1 s1 => ?_⟩
      have G1 := G.same s1
      refine ⟨_, rfl, _, rfl, ?_⟩
      have rq := resized_eq g b n
      cases hres : resA g b n with
      | none =>
        rw [hres] at rq
        have st : Gk.step g (.resize b0 n) = (g, Gk.no 3) := by
          rw [st, rq]
          rfl
        exact iteT ⟨sz1, fun q hq => k.reads (ans := Gk.no 3) st G s1 hq rfl⟩
      | some ad =>
        rw [hres] at rq
        have wf := Gk.wf_resized W hbm rq
        have st : Gk.step g (.resize b0 n) = ({ g with bytes := (if n ≤ b.n ∨ b.at_ + max n 1 ≤ g.bound b then g.bytes else Gk.writeAt g.bytes ad (Gk.readAt g.bytes b.at_ b.n)), blocks := Gk.placed { b with at_ := ad, n := n } (Gk.without b.at_ g.blocks), mark := ad + max n 1 }, Gk.says ad) := by
          rw [st, rq]
          rfl
        refine iteF ?_
        have eb1 := s1 _ _ eb
        refine ⟨_, rfl, p, x.dx, _, rfl, G1.ins, gdF_no_bytes_from _ _ _ _ _ _ _, _, rfl, a, _, db, _, _, rfl, eb1, T.C_Block, T.n_Block_address, bkF_address _ _ _ _, _, rfl, a, _, db, _, _, rfl, eb1, T.C_Block, T.n_Block_n, bkF_n _ _ _ _, _, rfl, _, _, rfl, ?_⟩
        refine ⟨p, x.st, g.bytes, b.at_, min b.n n, ?_, G1.sa, by omega, fun H2 l2 hl2 s2 n2 => ?_⟩
        · show [V.ref p, V.int (b.at_ : Int), V.int (if (n : Int) < (b.n : Int) then (n : Int) else (b.n : Int))] = _
          rw [Gk.min_int]
        have G2 := G1.same s2
        have eb2 := s2 _ _ eb1
        have s12 := s1.trans s2
        have hl2n : H l2 = none := s1.free n2
        rw [← hat] at hv
        refine ⟨_, rfl, p, _, x.dx, _, _, rfl, G2.ins, T.C_Ground, T.n_Ground_blocks, gdF_blocks _ _ _ _ _ _ _, x.bl, rfl, .inl ⟨_, .inl G2.blo⟩, _, rfl, a, _, db, _, _, rfl, eb2, T.C_Block, T.n_Block_address, bkF_address _ _ _ _, x.kvs, .inl (b.at_ : Int), _, G2.blo, rfl, hv, ?_⟩
        have G3 := G2.popped b.at_
        have nab : a ≠ x.bl := ne_of eb2 G2.blo (by intro z; cases z)
        have eb3 : upd H2 x.bl (.dK (dropK x.kvs (.inl (b.at_ : Int)))) a = some (.ins t.c_Block db (bkF b.at_ b.n b.align b.group)) := by
          rw [upd_ne nab]
          exact eb2
        have hl3 : upd H2 x.bl (.dK (dropK x.kvs (.inl (b.at_ : Int)))) l2 = some (.lst (bV (Gk.readAt g.bytes b.at_ (min b.n n)))) := by
          rw [upd_ne (ne_of hl2 G2.blo (by intro z; cases z))]
          exact hl2
        refine ⟨_, rfl, p, x.dx, _, rfl, G3.ins, gdF_no_settle _ _ _ _ _ _ _, _, rfl, _, rfl, _, rfl, a, _, db, _, _, rfl, eb3, T.C_Block, T.n_Block_alignment, bkF_alignment _ _ _ _, _, rfl, a, _, db, _, _, rfl, eb3, T.C_Block, T.n_Block_group, bkF_group _ _ _ _, fun c dc nc ndc nec => ?_⟩
        refine ⟨c, dc, ⟨ad, n, b.align, b.group⟩, rfl, upd_same, fun H4 hB k4 => ⟨rfl, ?_⟩⟩
        have s4 : Same _ H4 := Same.made nc ndc k4
        have G4 := G3.same s4
        have hnew : ∀ q ∈ x.bs.filter (fun q => q.1.at_ != b.at_), q.1.at_ ≠ ad := fun q hq => by
          refine put_new (g := g) (b := ⟨ad, n, b.align, b.group⟩) (l := Gk.without b.at_ g.blocks) wf.fit q.1 ?_
          have e := G3.eqb
          rw [show Gk.without b.at_ g.blocks = _ from e]
          exact List.mem_map.mpr ⟨q, hq, rfl⟩
        have hcn : H c = none := by
          have h1 : H2 c = none := by
            by_cases z : c = x.bl
            · rw [z, upd_same] at nc
              cases nc
            · rw [upd_ne z] at nc
              exact nc
          exact s12.free h1
        refine ⟨p, _, _, c, ⟨ad, n, b.align, b.group⟩, rfl, G4, hB, hnew, Nat.le_trans (List.length_filter_le _ _) (Nat.le_trans (G.len W) (by decide)), fun H5 x5 G5 ft5 e5 fr5 => ?_⟩
        have e5 : x5.st = x.st := e5
        have nls : l2 ≠ x.st := (ne_of_none G1.sto n2).symm
        have hl5 := fr5 _ _ (s4 _ _ hl3) (G4.outL (s4 _ _ hl3) nls)
        have hnad : ad + max n 1 ≤ g.bytes.length := by
          have h := (wf.fit.mem (b := { b with at_ := ad, n := n }) ((placed_perm _ _).mem_iff.mpr (List.mem_cons_self ..))).2.1
          have h1 : ad + max n 1 ≤ (if n ≤ b.n ∨ b.at_ + max n 1 ≤ g.bound b then g.bytes else Gk.writeAt g.bytes ad (Gk.readAt g.bytes b.at_ b.n)).length := h
          by_cases cnd : n ≤ b.n ∨ b.at_ + max n 1 ≤ g.bound b
          · rw [if_pos cnd] at h1
            exact h1
          · rw [if_neg cnd] at h1
            obtain ⟨r, hr, r1, r2, _⟩ := Gk.place_fits (Gk.good_pos hff.2.2.2.1).1 (show Gk.place g.rule g.mark (Gk.rows g.size (Gk.without b.at_ g.blocks)) n b.align = some ad by
              unfold resA at hres
              rw [if_neg cnd] at hres
              exact hres)
            have := (Gk.rowsFrom_mem (Gk.without_fit (a := b.at_) W.fit) hr).2.2
            have : r.2 ≤ g.bytes.length := this
            omega
        have hrl : (Gk.readAt g.bytes b.at_ (min b.n n)).length = min b.n n := Gk.readAt_len (by omega)
        refine ⟨_, rfl, p, x5.dx, _, rfl, G5.ins, gdF_no_put _ _ _ _ _ _ _, _, rfl, _, rfl, p, x5.st, g.bytes, ad, l2, _, rfl, G5.sa, hl5, by rw [e5]; exact nls, by omega, fun H6 hs6 fr6 => ?_⟩
        have G6 := G5.wrote (s := Gk.writeAt g.bytes ad (Gk.readAt g.bytes b.at_ (min b.n n))) (Gk.writeAt_len (by omega)) hs6 fr6
        have ebytes : Gk.writeAt g.bytes ad (Gk.readAt g.bytes b.at_ (min b.n n)) = (if n ≤ b.n ∨ b.at_ + max n 1 ≤ g.bound b then g.bytes else Gk.writeAt g.bytes ad (Gk.readAt g.bytes b.at_ b.n)) := by
          by_cases cnd : n ≤ b.n ∨ b.at_ + max n 1 ≤ g.bound b
          · unfold resA at hres
            rw [if_pos cnd] at hres
            rw [if_pos cnd, ← Option.some.inj hres]
            exact write_read (by omega)
          · rw [if_neg cnd, Nat.min_eq_left (by omega)]
        rw [ebytes] at G6
        refine ⟨_, rfl, sz1, fun q hq => k.done st G6 (fun c' hc' => ?_) (fun b' o eb' hb' => ?_) hq rfl⟩
        · rcases ft5 c' hc' with z | z
          · rcases z with z | z | z | z | ⟨q', hq', z⟩
            · exact .inl (.inl z)
            · exact .inl (.inr (.inl z))
            · exact .inl (.inr (.inr (.inl z)))
            · exact .inl (.inr (.inr (.inr (.inl z))))
            · exact .inl (.inr (.inr (.inr (.inr ⟨q', (List.mem_filter.mp hq').1, z⟩))))
          · exact .inr (by rw [z]; exact hcn)
        · have h2 := s12 _ _ eb'
          have n1 : b' ≠ x.bl := fun z => hb' (by rw [z]; exact Foot.b)
          have h3 : upd H2 x.bl (.dK (dropK x.kvs (.inl (b.at_ : Int)))) b' = some o := by rw [upd_ne n1]; exact h2
          refine fr6 _ _ (fr5 _ _ (s4 _ _ h3) fun z => hb' ?_) (by rw [e5]; exact fun z => hb' (by rw [z]; exact Foot.s))
          rcases z with z | z | z | z | ⟨q', hq', z⟩
          · exact .inl z
          · exact .inr (.inl z)
          · exact .inr (.inr (.inl z))
          · exact .inr (.inr (.inr (.inl z)))
          · exact .inr (.inr (.inr (.inr ⟨q', (List.mem_filter.mp hq').1, z⟩)))
theorem Foot.lessF {p : Addr} {x : GD} {kvs : List (Key × V)} {f : Gk.Block × Addr → Bool} {b : Addr} (h : Foot p { x with kvs := kvs, bs := x.bs.filter f } b) : Foot p x b := by
  rcases h with z | z | z | z | ⟨q', hq', z⟩
  · exact .inl z
  · exact .inr (.inl z)
  · exact .inr (.inr (.inl z))
  · exact .inr (.inr (.inr (.inl z)))
  · exact .inr (.inr (.inr (.inr ⟨q', (List.mem_filter.mp hq').1, z⟩)))
theorem ok_answer_give (T : Txt P w K mg t) : FnOk P w K mg base CX0 1 t.f_answer_give t.d_answer_give ["ground", "numbers"] (sp_give t) := by
  refine T.F_answer_give.ok sc_answer_give (fun vs H Q E h => ?_) (fun cdv A outer s H vs Q E hr h => ?_)
  · obtain ⟨z, p, l, g, x, rfl, _⟩ := h
    rfl
  · obtain ⟨b0, p, l, g, x, rfl, G, W, hl, nl, k⟩ := h
    have hu := hu_of hr
    refine ⟨_, (pss_cons (ps_if (pt_cmp (pc_dnotin hu (pe_ix ix_list (pv 1) pe_int (fun _ _ => rfl)) (pe_fld (pv 0) rfl))) (pss_one (ps_ret (pe_lst (pa_cons (pe_glob rfl T.m_NO_BLOCK T.r_NO_BLOCK) pa_nil)))) pss_nil)
      (pss_cons (ps_expr (pe_dpop1 (pe_fld (pv 0) rfl) (pe_ix ix_list (pv 1) pe_int (fun _ _ => rfl)) ⟨rfl, rfl, rfl, rfl⟩))
      (pss_one (ps_ret (pe_lst (pa_cons pe_int pa_nil)))))), ?_⟩
    have st : Gk.step g (.give b0) = Gk.onBlock g b0 fun x => ({ g with blocks := Gk.without x.at_ g.blocks }, Gk.says 0) := rfl
    unfold Gk.onBlock at st
    cases hf : g.find b0 with
    | none =>
      rw [hf] at st
      refine ⟨_, rfl, l, _, _, _, rfl, rfl, SqL.of hl, at_of (j := 0) rfl rfl, _, rfl, p, _, x.dx, _, _, rfl, G.ins, T.C_Ground, T.n_Ground_blocks, gdF_blocks _ _ _ _ _ _ _, x.bl, none, rfl, .inl ⟨x.kvs, .inl (b0 : Int), .inl G.blo, rfl, (G.find_none hf).symm⟩, _, rfl, ?_⟩
      exact iteT ⟨sz1, fun q hq => k.stay (ans := Gk.no 2) st G hq rfl⟩
    | some b =>
      rw [hf] at st
      obtain ⟨a, hm, hat, hv, db, eb⟩ := G.find_some W hf
      refine ⟨_, rfl, l, _, _, _, rfl, rfl, SqL.of hl, at_of (j := 0) rfl rfl, _, rfl, p, _, x.dx, _, _, rfl, G.ins, T.C_Ground, T.n_Ground_blocks, gdF_blocks _ _ _ _ _ _ _, x.bl, some (.ref a), rfl, .inl ⟨x.kvs, .inl (b0 : Int), .inl G.blo, rfl, hv.symm⟩, _, rfl, iteF ?_⟩
      refine ⟨_, rfl, p, _, x.dx, _, _, rfl, G.ins, T.C_Ground, T.n_Ground_blocks, gdF_blocks _ _ _ _ _ _ _, x.bl, rfl, .inl ⟨_, .inl G.blo⟩, _, rfl, l, _, _, _, rfl, rfl, SqL.of hl, at_of (j := 0) rfl rfl, x.kvs, .inl (b0 : Int), _, G.blo, rfl, hv, ?_⟩
      have G3 := G.popped b0
      have st : Gk.step g (.give b0) = ({ g with blocks := Gk.without b0 g.blocks }, Gk.says 0) := by
        rw [st, ← hat]
      refine ⟨sz1, fun q hq => k.done st G3 (fun c hc => .inl hc.lessF) (fun c o e hc => ?_) hq rfl⟩
      rw [upd_ne (fun z => hc (by rw [z]; exact Foot.b))]
      exact e
theorem ok_answer_size (T : Txt P w K mg t) : FnOk P w K mg base CX0 1 t.f_answer_size t.d_answer_size ["ground", "numbers"] (sp_size t) := by
  refine T.F_answer_size.ok sc_answer_size (fun vs H Q E h => ?_) (fun cdv A outer s H vs Q E hr h => ?_)
  · obtain ⟨z, p, l, g, x, rfl, _⟩ := h
    rfl
  · obtain ⟨b0, p, l, g, x, rfl, G, W, hl, nl, k⟩ := h
    have hu := hu_of hr
    refine ⟨_, (pss_cons (ps_set (i := 2) sc_answer_size.nd rfl (Or.inl rfl) (pe_dget1 hu (pe_fld (pv 0) rfl) (pe_ix ix_list (pv 1) pe_int (fun _ _ => rfl)) ⟨rfl, rfl, rfl, rfl⟩))
      (pss_cons (ps_if (pt_cmp (pc_isN (pv 2))) (pss_one (ps_ret (pe_lst (pa_cons (pe_glob rfl T.m_NO_BLOCK T.r_NO_BLOCK) pa_nil)))) pss_nil)
      (pss_one (ps_ret (pe_lst (pa_cons (pe_fld (pv 2) rfl) (pa_cons (pe_fld (pv 2) rfl) (pa_cons (pe_fld (pv 2) rfl) pa_nil)))))))), ?_⟩
    have st : Gk.step g (.size b0) = (g, Gk.ofBlock g b0 fun x => Gk.ints [x.n, x.align, x.group]) := rfl
    unfold Gk.ofBlock at st
    cases hf : g.find b0 with
    | none =>
      rw [hf] at st
      refine ⟨_, rfl, p, _, x.dx, _, _, rfl, G.ins, T.C_Ground, T.n_Ground_blocks, gdF_blocks _ _ _ _ _ _ _, x.bl, rfl, .inl ⟨_, .inl G.blo⟩, _, rfl, l, _, _, _, rfl, rfl, SqL.of hl, at_of (j := 0) rfl rfl, none, .inl ⟨x.kvs, .inl (b0 : Int), .inl G.blo, rfl, (G.find_none hf).symm⟩, ?_⟩
      exact ⟨_, rfl, _, rfl, iteT ⟨sz1, fun q hq => k.stay (ans := Gk.no 2) st G hq rfl⟩⟩
    | some b =>
      rw [hf] at st
      obtain ⟨a, hm, hat, hv, db, eb⟩ := G.find_some W hf
      refine ⟨_, rfl, p, _, x.dx, _, _, rfl, G.ins, T.C_Ground, T.n_Ground_blocks, gdF_blocks _ _ _ _ _ _ _, x.bl, rfl, .inl ⟨_, .inl G.blo⟩, _, rfl, l, _, _, _, rfl, rfl, SqL.of hl, at_of (j := 0) rfl rfl, some (.ref a), .inl ⟨x.kvs, .inl (b0 : Int), .inl G.blo, rfl, hv.symm⟩, ?_⟩
      refine ⟨_, rfl, _, rfl, iteF ?_⟩
      refine ⟨_, rfl, a, _, db, _, _, rfl, eb, T.C_Block, T.n_Block_n, bkF_n _ _ _ _, _, rfl, a, _, db, _, _, rfl, eb, T.C_Block, T.n_Block_alignment, bkF_alignment _ _ _ _, _, rfl, a, _, db, _, _, rfl, eb, T.C_Block, T.n_Block_group, bkF_group _ _ _ _, (by show 3 ≤ sizeLine; decide), fun q hq => k.stay (ans := Gk.ints [b.n, b.align, b.group]) st G hq rfl⟩
theorem ok_answer_of (T : Txt P w K mg t) : FnOk P w K mg base CX0 3 t.f_answer_of t.d_answer_of ["ground", "numbers"] (sp_of t) := by
  have G_Ground_blocks_in_order : FnOk P w K mg base CX0 1 t.f_Ground_blocks_in_order t.d_Ground_blocks_in_order ["self"] (sp_blocks_in_order t) := ok_blocks_in_order T
  have G_place_behind : FnOk P w K mg base CX0 2 t.f_place_behind t.d_place_behind ["block"] (sp_place_behind t) := ok_place_behind T
  refine T.F_answer_of.ok sc_answer_of (fun vs H Q E h => ?_) (fun cdv A outer s H vs Q E hr h => ?_)
  · obtain ⟨z, p, l, g, x, rfl, _⟩ := h
    rfl
  · obtain ⟨pl, p, l, g, x, rfl, G, W, hl, nl, k⟩ := h
    refine ⟨_, (pss_cons (ps_set (i := 2) sc_answer_of.nd rfl (Or.inl rfl) (pe_ix ix_list (pv 1) pe_int (fun _ _ => rfl)))
      (pss_cons (ps_for PassesOwn.never rfl (pi_list (pe_meth0 (pv 0) T.C_Ground T.H_Ground_blocks_in_order G_Ground_blocks_in_order (hr.mono (by decide : 1 ≤ 2)) T.B_Ground_blocks_in_order .nil pass0)) (pg_name (i := 3) sc_answer_of.nd rfl (Or.inl rfl))
        (pss_one (ps_if (PW.pt (pw_and (pt_cmpR op_le (pe_fld (pv 3) rfl) (pv 2) (nomark _)) (pw_and1 (pt_cmpR op_lt (pv 2) (pe_call G_place_behind hr rfl T.m_place_behind T.F_place_behind.kp T.B_place_behind .nil pass0 (pa_cons (pv 3) pa_nil)) (nomark _))))) (pss_one (ps_ret (pe_lst (pa_cons (pe_fld (pv 3) rfl) pa_nil)))) pss_nil)))
      (pss_one (ps_ret (pe_lst (pa_cons (pe_glob rfl T.m_NONE_THERE T.r_NONE_THERE) pa_nil)))))), ?_⟩
    have st : Gk.step g (.of pl) = (g, match g.blocks.find? fun (b : Gk.Block) => decide (b.at_ ≤ pl) && decide (pl < b.halt_) with
      | none => Gk.no 4
      | some b => Gk.says b.at_) := rfl
    refine ⟨_, rfl, l, _, _, _, rfl, rfl, SqL.of hl, at_of (j := 0) rfl rfl, ?_⟩
    refine ⟨_, rfl, p, x.dx, _, rfl, G.ins, gdF_no_blocks_in_order _ _ _ _ _ _ _, p, g, x, rfl, G, W, fun H1 l1 h1 s1 n1 => ?_⟩
    refine ⟨l1, rfl, ⟨_, SqL.of h1⟩, ?_⟩
    refine for_list (K := K) (a := l1) (xs := x.bs.map fun q => V.ref q.2)
      (fun i σ H' => ∃ v : Option V, σ = [some (.ref p), some (.ref l), some (.int pl), v] ∧ H' = H1 ∧ (g.blocks.find? fun (b : Gk.Block) => decide (b.at_ ≤ pl) && decide (pl < b.halt_)) = ((x.bs.drop i).map (·.1)).find? fun (b : Gk.Block) => decide (b.at_ ≤ pl) && decide (pl < b.halt_))
      ⟨none, rfl, rfl, by rw [G.eqb]; rfl⟩ (fun i σ H' _ ⟨_, _, e, _⟩ => by rw [e]; exact SqL.of h1) ?_ ?_
    · rintro i y σ H' hi ⟨v, rfl, rfl, heq⟩
      obtain ⟨q, hq, rfl⟩ := map_get hi
      rw [drop_get hq, List.map_cons, List.find?_cons] at heq
      obtain ⟨dq, eq⟩ := (G.same s1).blk q (List.mem_of_getElem? hq)
      refine ⟨_, rfl, q.2, _, dq, _, _, rfl, eq, T.C_Block, T.n_Block_address, bkF_address _ _ _ _, _, rfl, _, _, rfl, rfl, _, rfl, ite2 (fun c1 => ?_) fun c1 => ?_⟩
      · have c1 : (q.1.at_ : Int) ≤ (pl : Int) := of_decide_eq_true c1
        rw [decide_eq_true (show q.1.at_ ≤ pl by omega), Bool.true_and] at heq
        refine ⟨_, rfl, _, rfl, q.2, q.1, rfl, ⟨dq, eq⟩, _, _, rfl, rfl, _, rfl, ite2 (fun c2 => ?_) fun c2 => ?_⟩
        · have c2 : (pl : Int) < (q.1.halt_ : Int) := of_decide_eq_true c2
          rw [decide_eq_true (show pl < q.1.halt_ by omega)] at heq
          rw [heq] at st
          exact ⟨_, rfl, q.2, _, dq, _, _, rfl, eq, T.C_Block, T.n_Block_address, bkF_address _ _ _ _, sz1, fun q' hq' => k.reads (ans := Gk.says q.1.at_) st G s1 hq' rfl⟩
        · have c2 : ¬ (pl : Int) < (q.1.halt_ : Int) := fun z => c2 (decide_eq_true z)
          rw [decide_eq_false (show ¬ pl < q.1.halt_ by omega)] at heq
          exact ⟨_, rfl, rfl, heq⟩
      · have c1 : ¬ (q.1.at_ : Int) ≤ (pl : Int) := fun z => c1 (decide_eq_true z)
        rw [decide_eq_false (show ¬ q.1.at_ ≤ pl by omega), Bool.false_and] at heq
        exact iteF ⟨_, rfl, rfl, heq⟩
    · rintro σ H' ⟨v, rfl, rfl, heq⟩
      rw [List.length_map, List.drop_length] at heq
      rw [heq] at st
      exact ⟨sz1, fun q' hq' => k.reads (ans := Gk.no 4) st G s1 hq' rfl⟩
theorem ok_answer_next (T : Txt P w K mg t) : FnOk P w K mg base CX0 2 t.f_answer_next t.d_answer_next ["ground", "numbers"] (sp_next t) := by
  have G_Ground_address_from : FnOk P w K mg base CX0 1 t.f_Ground_address_from t.d_Ground_address_from ["self", "place"] (sp_address_from t) := ok_address_from T
  refine T.F_answer_next.ok sc_answer_next (fun vs H Q E h => ?_) (fun cdv A outer s H vs Q E hr h => ?_)
  · obtain ⟨z, p, l, g, x, rfl, _⟩ := h
    rfl
  · obtain ⟨pl, p, l, g, x, rfl, G, W, hl, nl, k⟩ := h
    refine ⟨_, (pss_cons (ps_set (i := 2) sc_answer_next.nd rfl (Or.inl rfl) (pe_meth (pv 0) T.C_Ground T.H_Ground_address_from G_Ground_address_from hr T.B_Ground_address_from .nil pass0 (pa_cons (pe_ix ix_list (pv 1) pe_int (fun _ _ => rfl)) pa_nil)))
      (pss_cons (ps_if (pt_cmp (pc_isN (pv 2))) (pss_one (ps_ret (pe_lst (pa_cons (pe_glob rfl T.m_NONE_THERE T.r_NONE_THERE) pa_nil)))) pss_nil)
      (pss_one (ps_ret (pe_lst (pa_cons (pv 2) pa_nil)))))), ?_⟩
    have st : Gk.step g (.next pl) = (g, match g.blocks.find? fun (b : Gk.Block) => decide (pl ≤ b.at_) with
      | none => Gk.no 4
      | some b => Gk.says b.at_) := rfl
    refine ⟨_, rfl, p, x.dx, _, rfl, G.ins, gdF_no_address_from _ _ _ _ _ _ _, _, rfl, l, _, _, _, rfl, rfl, SqL.of hl, at_of (j := 0) rfl rfl, p, g, x, pl, rfl, G, W, fun H1 s1 => ?_⟩
    refine ⟨_, rfl, _, rfl, ?_⟩
    cases hf : g.blocks.find? fun (b : Gk.Block) => decide (pl ≤ b.at_) with
    | none =>
      rw [hf] at st
      exact iteT ⟨sz1, fun q' hq' => k.reads (ans := Gk.no 4) st G s1 hq' rfl⟩
    | some b =>
      rw [hf] at st
      exact iteF ⟨_, rfl, sz1, fun q' hq' => k.reads (ans := Gk.says b.at_) st G s1 hq' rfl⟩
end
end Gp

set_option Elab.async false
set_option linter.all false
set_option maxRecDepth 100000
set_option maxHeartbeats 4000000
namespace Gp
open PySem PySem.Spec PyProof.Rows L2
theorem most_int (m r u : Nat) : (if ((r : Int) - (u : Int)) > (m : Int) then (r : Int) - (u : Int) else (m : Int)) = ((max m (r - u) : Nat) : Int) := by
  split <;> omega
theorem ints_app (L M : List Nat) : (Gk.ints (L ++ M)).map V.int = (Gk.ints L).map V.int ++ (Gk.ints M).map V.int := by
  unfold Gk.ints
  rw [List.map_append, List.map_append]
theorem ints_len (L : List Nat) : ((Gk.ints L).map V.int).length = L.length := by
  unfold Gk.ints
  rw [List.length_map, List.length_map]
theorem flat_take {α : Type} {f : α → List Nat} {l : List α} {i : Nat} {q : α} (h : l[i]? = some q) : (l.take (i + 1)).flatMap f = (l.take i).flatMap f ++ f q := by
  rw [take_get h, List.flatMap_append, List.flatMap_cons, List.flatMap_nil, List.append_nil]
theorem flat_len {α : Type} {f : α → List Nat} {m : Nat} (hf : ∀ a, (f a).length ≤ m) : ∀ l : List α, (l.flatMap f).length ≤ m * l.length
  | [] => Nat.le_refl _
  | a :: r => by
    have := flat_len hf r
    have := hf a
    rw [List.flatMap_cons, List.length_append, List.length_cons, Nat.mul_succ]
    omega
section
variable {P : Program} {w : World} {K : PySem.W.Frag} {mg : Str → Option Value} {base : Heap} {t : Adr}
theorem ok_answer_most (T : Txt P w K mg t) : FnOk P w K mg base CX0 5 t.f_answer_most t.d_answer_most ["ground", "numbers"] (sp_most t) := by
  have G_Ground_rows : FnOk P w K mg base CX0 4 t.f_Ground_rows t.d_Ground_rows ["self"] (sp_Ground_rows t) := ok_Ground_rows T
  have G_least_multiple : FnOk P w K mg base CX0 1 t.f_least_multiple t.d_least_multiple ["place", "alignment"] sp_least_multiple := ok_least_multiple T
  refine T.F_answer_most.ok sc_answer_most (fun vs H Q E h => ?_) (fun cdv A outer s H vs Q E hr h => ?_)
  · obtain ⟨z, p, l, g, x, rfl, _⟩ := h
    rfl
  · obtain ⟨al, p, l, g, x, rfl, G, W, hl, nl, k⟩ := h
    refine ⟨_, (pss_cons (ps_set (i := 2) sc_answer_most.nd rfl (Or.inl rfl) (pe_ix ix_list (pv 1) pe_int (fun _ _ => rfl)))
      (pss_cons (ps_if (pt_cmpR op_notIn_seq (pv 2) (pe_glob (v := .ref t.a_ALIGNMENTS) rfl T.m_ALIGNMENTS rfl) rfl) (pss_one (ps_ret (pe_lst (pa_cons (pe_glob rfl T.m_WRONG_NUMBER T.r_WRONG_NUMBER) pa_nil)))) pss_nil)
      (pss_cons (ps_set (i := 3) sc_answer_most.nd rfl (Or.inl rfl) pe_int)
      (pss_cons (ps_for PassesOwn.never rfl (pi_list (pe_meth0 (pv 0) T.C_Ground T.H_Ground_rows G_Ground_rows hr T.B_Ground_rows .nil pass0)) (pg_name (i := 4) sc_answer_most.nd rfl (Or.inl rfl))
        (pss_one (ps_set (i := 3) sc_answer_most.nd rfl (Or.inl rfl) (pe_callB (call_max2 rfl) (by rfl) T.b_max boot_max (pa_cons (pv 3) (pa_cons (pe_op op_sub (pe_fld (pv 4) rfl) (pe_call G_least_multiple (hr.mono (by decide : 1 ≤ 4)) rfl T.m_least_multiple T.F_least_multiple.kp T.B_least_multiple .nil pass0 (pa_cons (pe_fld (pv 4) rfl) (pa_cons (pv 2) pa_nil)))) pa_nil))))))
      (pss_cons (ps_if (pt_cmpR op_eq (pv 3) pe_int (nomark _)) (pss_one (ps_ret (pe_lst (pa_cons (pe_glob rfl T.m_NO_ROOM T.r_NO_ROOM) pa_nil)))) pss_nil)
      (pss_one (ps_ret (pe_lst (pa_cons (pv 3) pa_nil))))))))), ?_⟩
    have st : Gk.step g (.most al) = (g, if Gk.goodAlign al = true then (match g.greatest al with
      | none => Gk.no 3
      | some k => Gk.says k) else Gk.no 1) := rfl
    refine ⟨_, rfl, l, _, _, _, rfl, rfl, SqL.of hl, at_of (j := 0) rfl rfl, ?_⟩
    refine ⟨_, rfl, t.a_ALIGNMENTS, tup_ALIGNMENTS, rfl, .inr (.inr T.t_ALIGNMENTS), rfl, rfl, ?_⟩
    rw [if_pos rfl, in_align]
    refine ⟨_, rfl, ?_⟩
    cases ga : Gk.goodAlign al with
    | false =>
      rw [ga] at st
      exact iteT ⟨sz1, fun q hq => k.stay (ans := Gk.no 1) st G hq rfl⟩
    | true =>
      rw [ga, if_pos rfl, Gk.greatest_eq] at st
      obtain ⟨a1, a2⟩ := Gk.good_pos ga
      refine iteF ?_
      refine ⟨_, rfl, p, x.dx, _, rfl, G.ins, gdF_no_rows _ _ _ _ _ _ _, p, g, x, rfl, G, W, fun H1 l1 hR s1 => ?_⟩
      obtain ⟨as, hl1, hA⟩ := hR
      refine ⟨l1, rfl, ⟨_, SqL.of hl1⟩, ?_⟩
      refine for_list (K := K) (a := l1) (xs := as.map V.ref)
        (fun i σ H' => ∃ v : Option V, σ = [some (.ref p), some (.ref l), some (.int al), some (.int (((g.rows.take i).foldl (Gk.mostOf al) 0 : Nat) : Int)), v] ∧ H' = H1)
        ⟨none, rfl, rfl⟩ (fun i σ H' _ ⟨_, _, e⟩ => by rw [e]; exact SqL.of hl1) ?_ ?_
      · rintro i y σ H' hi ⟨v, rfl, rfl⟩
        obtain ⟨ra, hra, rfl⟩ := map_get hi
        obtain ⟨r, hr5, dr, er⟩ := hA.get hra
        refine ⟨_, rfl, _, rfl, ra, _, dr, _, _, rfl, er, T.C_Row, T.n_Row_end, rwF_end _ _, _, rfl, ra, _, dr, _, _, rfl, er, T.C_Row, T.n_Row_first, rwF_first _ _, _, rfl, r.1, al, rfl, a1, a2, _, _, rfl, rfl, _, _, rfl, ?_⟩
        rw [most_int]
        refine ⟨some (.ref ra), ?_, rfl⟩
        rw [take_get hr5, List.foldl_append]
        rfl
      · rintro σ H' ⟨v, rfl, rfl⟩
        rw [List.length_map, hA.1, List.take_length]
        refine ⟨_, rfl, rfl, _, rfl, ?_⟩
        by_cases ez : g.rows.foldl (Gk.mostOf al) 0 = 0
        · rw [if_pos ez] at st
          exact iteDT (veq (by omega)) ⟨sz1, fun q hq => k.reads (ans := Gk.no 3) st G s1 hq rfl⟩
        · rw [if_neg ez] at st
          exact iteDF (vne (by omega)) ⟨_, rfl, sz1, fun q hq => k.reads (ans := Gk.says (g.rows.foldl (Gk.mostOf al) 0)) st G s1 hq rfl⟩
theorem ok_answer_rows (T : Txt P w K mg t) : FnOk P w K mg base CX0 5 t.f_answer_rows t.d_answer_rows ["ground", "numbers"] (sp_rows t) := by
  have G_Ground_rows : FnOk P w K mg base CX0 4 t.f_Ground_rows t.d_Ground_rows ["self"] (sp_Ground_rows t) := ok_Ground_rows T
  have G_row_length : FnOk P w K mg base CX0 1 t.f_row_length t.d_row_length ["row"] (sp_row_length t) := ok_row_length T
  refine T.F_answer_rows.ok sc_answer_rows (fun vs H Q E h => ?_) (fun cdv A outer s H vs Q E hr h => ?_)
  · obtain ⟨z, p, l, g, x, rfl, _⟩ := h
    rfl
  · obtain ⟨ns, p, l, g, x, rfl, G, W, hl, nl, k⟩ := h
    refine ⟨_, (pss_cons (ps_set (i := 2) sc_answer_rows.nd rfl (Or.inl rfl) (pe_meth0 (pv 0) T.C_Ground T.H_Ground_rows G_Ground_rows hr T.B_Ground_rows .nil pass0))
      (pss_cons (ps_set (i := 3) sc_answer_rows.nd rfl (Or.inl rfl) (pe_lst (pa_cons (pe_callB call_len (by rfl) T.b_len PySem.boot_len (pa_cons (pv 2) pa_nil)) pa_nil)))
      (pss_cons (ps_for PassesOwn.never rfl (pi_list (pv 2)) (pg_name (i := 4) sc_answer_rows.nd rfl (Or.inl rfl))
        (pss_cons (ps_expr (pe_bm PySem.F.plainAttrs_list PySem.F.slot_list_append PySem.F.type_list_append mt_append (pv 3) (pa_cons (pe_fld (pv 4) rfl) pa_nil)))
        (pss_one (ps_expr (pe_bm PySem.F.plainAttrs_list PySem.F.slot_list_append PySem.F.type_list_append mt_append (pv 3) (pa_cons (pe_call G_row_length (hr.mono (by decide : 1 ≤ 4)) rfl T.m_row_length T.F_row_length.kp T.B_row_length .nil pass0 (pa_cons (pv 4) pa_nil)) pa_nil))))))
      (pss_one (ps_ret (pv 3)))))), ?_⟩
    have st : Gk.step g .rows = (g, Gk.ints (g.rows.length :: g.rows.flatMap fun (r : Gk.Row) => [r.1, Gk.long r])) := rfl
    refine ⟨_, rfl, p, x.dx, _, rfl, G.ins, gdF_no_rows _ _ _ _ _ _ _, p, g, x, rfl, G, W, fun H1 l1 hR s1 => ?_⟩
    obtain ⟨as, hl1, hA⟩ := hR
    obtain ⟨hlen, hle⟩ := G.rowsok W
    have el : ((as.map V.ref).length : Int) = (g.rows.length : Int) := by rw [List.length_map, hA.1]
    refine ⟨_, rfl, _, _, rfl, .inl ⟨_, SqL.of hl1, rfl⟩, sz1, fun q hq => ?_⟩
    rw [el]
    have nq : l1 ≠ q := ne_of_none hl1 hq
    have hsz : (10000 : Nat) < sizeLine := by decide
    refine ⟨_, rfl, l1, rfl, ⟨_, SqL.of (by rw [upd_ne nq]; exact hl1)⟩, ?_⟩
    refine for_list (K := K) (a := l1) (xs := as.map V.ref)
      (fun i σ H' => ∃ v : Option V, σ = [some (.ref p), some (.ref l), some (.ref l1), some (.ref q), v] ∧ Same H1 H' ∧ H' q = some (.lst ((Gk.ints (g.rows.length :: (g.rows.take i).flatMap fun (r : Gk.Row) => [r.1, Gk.long r])).map V.int)))
      ⟨none, rfl, Same.new hq, upd_same⟩ (fun i σ H' _ ⟨_, _, s5, _⟩ => s5.seq (SqL.of hl1)) ?_ ?_
    · rintro i y σ H' hi ⟨v, rfl, s5, h5⟩
      obtain ⟨ra, hra, rfl⟩ := map_get hi
      obtain ⟨r, hr5, dr, er⟩ := hA.get hra
      have er := s5 _ _ er
      have hi2 := get_lt hr5
      have hfl : ((g.rows.take i).flatMap fun (r : Gk.Row) => [r.1, Gk.long r]).length ≤ 2 * 2049 := by
        refine Nat.le_trans (flat_len (m := 2) (fun a => Nat.le_refl _) _) ?_
        rw [List.length_take]
        omega
      refine ⟨_, rfl, .inl ⟨rfl, _, SqL.of h5⟩, _, rfl, ra, _, dr, _, _, rfl, er, T.C_Row, T.n_Row_first, rwF_first _ _, q, _, _, rfl, rfl, h5, by rw [ints_len, List.length_cons]; omega, ?_⟩
      have er2 : upd H' q (.lst ((Gk.ints (g.rows.length :: (g.rows.take i).flatMap fun (r : Gk.Row) => [r.1, Gk.long r])).map V.int ++ [V.int (r.1 : Int)])) ra = some (.ins t.c_Row dr (rwF r.1 r.2)) := by
        rw [upd_ne (ne_of er h5 (by intro z; cases z))]
        exact er
      refine ⟨_, rfl, .inl ⟨rfl, _, SqL.of upd_same⟩, _, rfl, ra, r, rfl, ⟨dr, er2⟩, q, _, _, rfl, rfl, upd_same, by rw [List.length_append, ints_len, List.length_cons]; show _ + 1 < _; omega, ?_⟩
      refine ⟨_, rfl, (s5.upd hq).upd hq, ?_⟩
      have l1' := hle r (List.mem_of_getElem? hr5)
      rw [upd_same, flat_take hr5, show ((r.2 : Int) - (r.1 : Int)) = ((Gk.long r : Nat) : Int) by unfold Gk.long; omega, ← List.cons_append, ints_app, List.append_assoc]
      rfl
    · rintro σ H' ⟨v, rfl, s5, h5⟩
      rw [List.length_map, hA.1, List.take_length] at h5
      have s6 := s1.trans s5
      refine ⟨_, rfl, k H' x q (by rw [st]; exact G.same s6) (fun b hb => .inl hb) (fun b o e _ => s6 b o e) (by rw [st]; exact h5) (fun b o e _ => ne_of_none (s1 _ _ e) hq) (ne_of_none (s1 _ _ G.sto) hq).symm⟩
theorem GA.deep {t : Adr} {H : Hp} {p : Addr} {g : Gk.Ground} {x : GD} (G : GA t H p g x) (d : Nat) : GA t (upd H p (.ins t.c_Ground x.dx (gdF g.size g.rule x.st x.bl (d : Int) g.mark x.wk))) p { g with depth := d } x := by
  have np := G.ne_st G.sto
  have n1 : x.st ≠ p := np.1.symm
  have n2 : x.bl ≠ p := ne_of G.blo G.ins (by intro z; cases z)
  have n3 : x.wk ≠ p := ne_of G.wal G.ins (by intro z; cases z)
  refine ⟨upd_same, by rw [upd_ne n1]; exact G.sto, by rw [upd_ne n2]; exact G.blo, by rw [upd_ne n3]; exact G.wal, G.bw, G.eqb, G.perm, fun q hq => ?_, G.wks⟩
  obtain ⟨dq, eq⟩ := G.blk q hq
  exact ⟨dq, by rw [upd_ne (ne_of eq G.ins (bk_gd (t := t)))]; exact eq⟩
def sp_enter (t : Adr) : Sp := fun vs H Q E => ∃ ns : List Int, Ans t .enter ns vs H Q E
def sp_leave (t : Adr) : Sp := fun vs H Q E => ∃ ns : List Int, Ans t .leave ns vs H Q E
def sp_keep (t : Adr) : Sp := fun vs H Q E => ∃ b : Nat, Ans t (.keep b) [(b : Int)] vs H Q E
def sp_counts (t : Adr) : Sp := fun vs H Q E => ∃ ns : List Int, Ans t .counts ns vs H Q E
theorem ok_answer_enter (T : Txt P w K mg t) : FnOk P w K mg base CX0 1 t.f_answer_enter t.d_answer_enter ["ground", "numbers"] (sp_enter t) := by
  refine T.F_answer_enter.ok sc_answer_enter (fun vs H Q E h => ?_) (fun cdv A outer s H vs Q E hr h => ?_)
  · obtain ⟨z, p, l, g, x, rfl, _⟩ := h
    rfl
  · obtain ⟨ns, p, l, g, x, rfl, G, W, hl, nl, k⟩ := h
    refine ⟨_, (pss_cons (ps_if (pt_cmpR op_eq (pe_fld (pv 0) rfl) (pe_glob rfl T.m_GREATEST_DEPTH T.r_GREATEST_DEPTH) (nomark _)) (pss_one (ps_ret (pe_lst (pa_cons (pe_glob rfl T.m_NO_ROOM T.r_NO_ROOM) pa_nil)))) pss_nil)
      (pss_cons (ps_fld (pv 0) (pe_op op_add (pe_fld (pv 0) rfl) pe_int) rfl)
      (pss_one (ps_ret (pe_lst (pa_cons (pe_fld (pv 0) rfl) pa_nil)))))), ?_⟩
    have st : Gk.step g .enter = if Gk.DEPTH ≤ g.depth then (g, Gk.no 3) else ({ g with depth := g.depth + 1 }, Gk.says (g.depth + 1)) := rfl
    have hd := W.depth
    refine ⟨_, rfl, p, _, x.dx, _, _, rfl, G.ins, T.C_Ground, T.n_Ground_depth, gdF_depth _ _ _ _ _ _ _, rfl, _, rfl, ?_⟩
    by_cases e : g.depth = 8
    · have st : Gk.step g .enter = (g, Gk.no 3) := st.trans (if_pos (show 8 ≤ g.depth by omega))
      exact iteDT (veq (by omega)) ⟨sz1, fun q hq => k.stay (ans := Gk.no 3) st G hq rfl⟩
    · have st : Gk.step g .enter = ({ g with depth := g.depth + 1 }, Gk.says (g.depth + 1)) := st.trans (if_neg (show ¬ 8 ≤ g.depth by omega))
      refine iteDF (vne (by omega)) ?_
      refine ⟨_, rfl, p, _, x.dx, _, _, rfl, G.ins, T.C_Ground, T.n_Ground_depth, gdF_depth _ _ _ _ _ _ _, _, _, rfl, rfl, _, rfl, p, _, x.dx, _, rfl, G.ins, T.C_Ground, T.n_Ground_depth, few (Nat.le_refl 7), ?_⟩
      rw [gd_depth, show ((g.depth : Int) + 1) = ((g.depth + 1 : Nat) : Int) by omega]
      have G2 := G.deep (g.depth + 1)
      refine ⟨_, rfl, p, _, x.dx, _, _, rfl, upd_same, T.C_Ground, T.n_Ground_depth, gdF_depth _ _ _ _ _ _ _, sz1, fun q hq => k.done st G2 (fun b hb => .inl hb) (fun b o eb hb => ?_) hq rfl⟩
      rw [upd_ne (fun z => hb (by rw [z]; exact Foot.p))]
      exact eb
/-- blocks given back, one behind another -/
def dropAll (kvs : List (Key × V)) (zs : List (Gk.Block × Addr)) : List (Key × V) := zs.foldl (fun k z => dropK k (.inl (z.1.at_ : Int))) kvs
theorem dropAll_val : ∀ {zs : List (Gk.Block × Addr)} {kvs : List (Key × V)} {a : Nat}, (∀ z ∈ zs, z.1.at_ ≠ a) → valV (dropAll kvs zs) (.inl (a : Int)) = valV kvs (.inl (a : Int))
  | [], _, _, _ => rfl
  | z :: zs, kvs, a, h => by
    have ih := dropAll_val (zs := zs) (kvs := dropK kvs (.inl (z.1.at_ : Int))) (a := a) fun y hy => h y (List.mem_cons_of_mem _ hy)
    show valV (dropAll (dropK kvs (.inl (z.1.at_ : Int))) zs) _ = _
    rw [ih, valV_drop, if_neg (fun e => h z (List.mem_cons_self ..) (key_int.mp e).symm)]
theorem dropAll_filter : ∀ (zs : List (Gk.Block × Addr)) (kvs : List (Key × V)), dropAll kvs zs = kvs.filter fun kv => zs.all fun z => decide (kv.1 ≠ (.inl (z.1.at_ : Int) : Key))
  | [], kvs => by
    show kvs = kvs.filter fun _ => true
    rw [List.filter_eq_self.mpr fun _ _ => rfl]
  | z :: zs, kvs => by
    show dropAll (dropK kvs (.inl (z.1.at_ : Int))) zs = _
    rw [dropAll_filter zs]
    unfold dropK
    rw [List.filter_filter]
    refine List.filter_congr fun kv _ => ?_
    rw [List.all_cons, Bool.and_comm]
theorem ok_answer_leave (T : Txt P w K mg t) : FnOk P w K mg base CX0 3 t.f_answer_leave t.d_answer_leave ["ground", "numbers"] (sp_leave t) := by
  have G_Ground_innermost_blocks : FnOk P w K mg base CX0 2 t.f_Ground_innermost_blocks t.d_Ground_innermost_blocks ["self"] (sp_innermost_blocks t) := ok_innermost_blocks T
  refine T.F_answer_leave.ok sc_answer_leave (fun vs H Q E h => ?_) (fun cdv A outer s H vs Q E hr h => ?_)
  · obtain ⟨z, p, l, g, x, rfl, _⟩ := h
    rfl
  · obtain ⟨ns, p, l, g, x, rfl, G, W, hl, nl, k⟩ := h
    refine ⟨_, (pss_cons (ps_if (pt_cmpR op_eq (pe_fld (pv 0) rfl) pe_int (nomark _)) (pss_one (ps_ret (pe_lst (pa_cons (pe_glob rfl T.m_NONE_THERE T.r_NONE_THERE) pa_nil)))) pss_nil)
      (pss_cons (ps_set (i := 2) sc_answer_leave.nd rfl (Or.inl rfl) (pe_meth0 (pv 0) T.C_Ground T.H_Ground_innermost_blocks G_Ground_innermost_blocks hr T.B_Ground_innermost_blocks .nil pass0))
      (pss_cons (ps_for PassesOwn.never rfl (pi_list (pv 2)) (pg_name (i := 3) sc_answer_leave.nd rfl (Or.inl rfl))
        (pss_one (ps_expr (pe_dpop1 (pe_fld (pv 0) rfl) (pe_fld (pv 3) rfl) ⟨rfl, rfl, rfl, rfl⟩))))
      (pss_cons (ps_fld (pv 0) (pe_op op_sub (pe_fld (pv 0) rfl) pe_int) rfl)
      (pss_one (ps_ret (pe_lst (pa_cons (pe_callB call_len (by rfl) T.b_len PySem.boot_len (pa_cons (pv 2) pa_nil)) pa_nil)))))))), ?_⟩
    have st : Gk.step g .leave = if g.depth = 0 then (g, Gk.no 4) else
      ({ g with blocks := g.blocks.filter fun (b : Gk.Block) => b.group != g.depth, depth := g.depth - 1 }, Gk.says (g.blocks.filter fun (b : Gk.Block) => b.group == g.depth).length) := rfl
    refine ⟨_, rfl, p, _, x.dx, _, _, rfl, G.ins, T.C_Ground, T.n_Ground_depth, gdF_depth _ _ _ _ _ _ _, rfl, _, rfl, ?_⟩
    by_cases e : g.depth = 0
    · rw [if_pos e] at st
      exact iteDT (veq (by omega)) ⟨sz1, fun q hq => k.stay (ans := Gk.no 4) st G hq rfl⟩
    · rw [if_neg e] at st
      refine iteDF (vne (by omega)) ?_
      refine ⟨_, rfl, p, x.dx, _, rfl, G.ins, gdF_no_innermost_blocks _ _ _ _ _ _ _, p, g, x, rfl, G, W, fun H1 l1 h1 s1 n1 => ?_⟩
      have G1 := G.same s1
      generalize hlv : (x.bs.filter fun q => q.1.group == g.depth) = lv at h1
      have nlb : l1 ≠ x.bl := ne_of h1 G1.blo (by intro z; cases z)
      have npb : p ≠ x.bl := ne_of G1.ins G1.blo (by intro z; cases z)
      have srt := G.sorted W
      have lvs : lv.Pairwise fun b c => b.1.at_ < c.1.at_ := by rw [← hlv]; exact srt.filter _
      have lvm : ∀ z ∈ lv, z ∈ x.bs ∧ z.1.group = g.depth := fun z hz => by
        rw [← hlv] at hz
        obtain ⟨h1, h2⟩ := List.mem_filter.mp hz
        exact ⟨h1, by simpa using h2⟩
      refine ⟨_, rfl, l1, rfl, ⟨_, SqL.of h1⟩, ?_⟩
      refine for_list (K := K) (a := l1) (xs := lv.map fun q => V.ref q.2)
        (fun i σ H' => ∃ v : Option V, σ = [some (.ref p), some (.ref l), some (.ref l1), v] ∧ H' = upd H1 x.bl (.dK (dropAll x.kvs (lv.take i))))
        ⟨none, rfl, ?_⟩ (fun i σ H' _ ⟨_, _, e⟩ => by rw [e]; exact SqL.of (by rw [upd_ne nlb]; exact h1)) ?_ ?_
      · funext b
        by_cases z : b = x.bl
        · rw [z, upd_same]
          exact G1.blo
        · rw [upd_ne z]
      · rintro i y σ H' hi ⟨v, rfl, rfl⟩
        obtain ⟨q, hq, rfl⟩ := map_get hi
        have hm := List.mem_of_getElem? hq
        obtain ⟨hmb, _⟩ := lvm q hm
        obtain ⟨dq, eq⟩ := G1.blk q hmb
        have nq : q.2 ≠ x.bl := ne_of eq G1.blo (by intro z; cases z)
        have hv : valV (dropAll x.kvs (lv.take i)) (.inl (q.1.at_ : Int)) = some (.ref q.2) := by
          rw [dropAll_val fun z hz => ?_]
          · exact G.val W hmb
          · obtain ⟨j, hj⟩ := List.mem_iff_getElem?.mp hz
            have hji : j < i := by
              have := get_lt hj
              rw [List.length_take] at this
              omega
            rw [List.getElem?_take_of_lt hji] at hj
            have pw := List.pairwise_iff_getElem.mp lvs j i (get_lt hj) (get_lt hq) hji
            rw [(List.getElem?_eq_some_iff.mp hj).2, (List.getElem?_eq_some_iff.mp hq).2] at pw
            omega
        refine ⟨_, rfl, p, _, x.dx, _, _, rfl, (by rw [upd_ne npb]; exact G1.ins), T.C_Ground, T.n_Ground_blocks, gdF_blocks _ _ _ _ _ _ _, x.bl, rfl, .inl ⟨_, .inl upd_same⟩, _, rfl, q.2, _, dq, _, _, rfl, (by rw [upd_ne nq]; exact eq), T.C_Block, T.n_Block_address, bkF_address _ _ _ _, _, .inl (q.1.at_ : Int), _, upd_same, rfl, hv, ?_⟩
        refine ⟨_, rfl, ?_⟩
        rw [upd_upd, take_get hq]
        unfold dropAll
        rw [List.foldl_append]
        rfl
      · rintro σ H' ⟨v, rfl, rfl⟩
        rw [List.length_map, List.take_length]
        refine ⟨_, rfl, p, _, x.dx, _, _, rfl, (by rw [upd_ne npb]; exact G1.ins), T.C_Ground, T.n_Ground_depth, gdF_depth _ _ _ _ _ _ _, _, _, rfl, rfl, _, rfl, p, _, x.dx, _, rfl, (by rw [upd_ne npb]; exact G1.ins), T.C_Ground, T.n_Ground_depth, few (Nat.le_refl 7), ?_⟩
        rw [gd_depth, show ((g.depth : Int) - 1) = ((g.depth - 1 : Nat) : Int) by omega]
        have hfl : (x.bs.filter fun q => lv.all fun z => decide ((.inl (q.1.at_ : Int) : Key) ≠ .inl (z.1.at_ : Int))) = x.bs.filter fun q => q.1.group != g.depth := by
          refine List.filter_congr fun q hq => ?_
          by_cases zg : q.1.group = g.depth
          · have h1 : (q.1.group != g.depth) = false := by simpa using zg
            rw [h1]
            refine List.all_eq_false.mpr ⟨q, by rw [← hlv]; exact List.mem_filter.mpr ⟨hq, by simpa using zg⟩, by simp⟩
          · have h1 : (q.1.group != g.depth) = true := by simpa using zg
            rw [h1]
            refine List.all_eq_true.mpr fun z hz => decide_eq_true fun e => ?_
            obtain ⟨z1, z2⟩ := lvm z hz
            have ea : q.1.at_ = z.1.at_ := key_int.mp e
            have v1 := G.val W hq
            have v2 := G.val W z1
            rw [ea, v2] at v1
            have e2 : z.2 = q.2 := V.ref.inj (Option.some.inj v1)
            obtain ⟨d1, e1⟩ := G.blk q hq
            obtain ⟨d2, e3⟩ := G.blk z z1
            rw [← e2, e3] at e1
            injection e1 with e1
            injection e1 with _ _ e1
            have l1 := bkF_group q.1.at_ q.1.n q.1.align q.1.group
            rw [← e1, bkF_group] at l1
            have := V.int.inj (Option.some.inj l1)
            omega
        have G2 : GA t (upd H1 x.bl (.dK (dropAll x.kvs lv))) p { g with blocks := g.blocks.filter fun (b : Gk.Block) => b.group != g.depth } { x with kvs := dropAll x.kvs lv, bs := x.bs.filter fun q => q.1.group != g.depth } := by
          have ns : x.st ≠ x.bl := ne_of G1.sto G1.blo (by intro z; cases z)
          refine ⟨by rw [upd_ne npb]; exact G1.ins, by rw [upd_ne ns]; exact G1.sto, upd_same, by rw [upd_ne G.bw.symm]; exact G1.wal, G.bw, ?_, ?_, fun q hq => ?_, G.wks⟩
          · show g.blocks.filter _ = _
            rw [G.eqb, List.filter_map]
            rfl
          · show (dropAll x.kvs lv).Perm _
            rw [dropAll_filter]
            have h := G.perm.filter fun kv => lv.all fun z => decide (kv.1 ≠ (.inl (z.1.at_ : Int) : Key))
            rw [List.filter_map] at h
            rw [← hfl]
            exact h
          · obtain ⟨dq, eq⟩ := G1.blk q (List.mem_filter.mp hq).1
            exact ⟨dq, by rw [upd_ne (ne_of eq G1.blo (by intro z; cases z))]; exact eq⟩
        have G3 := G2.deep (g.depth - 1)
        have hlen : ((lv.map fun q => V.ref q.2).length : Int) = ((g.blocks.filter fun (b : Gk.Block) => b.group == g.depth).length : Int) := by
          rw [List.length_map, ← hlv, G.eqb, List.filter_map, List.length_map]
          rfl
        have hl3 : upd (upd H1 x.bl (.dK (dropAll x.kvs lv))) p (.ins t.c_Ground x.dx (gdF g.size g.rule x.st x.bl ((g.depth - 1 : Nat) : Int) g.mark x.wk)) l1 = some (.lst (lv.map fun q => V.ref q.2)) := by
          rw [upd_ne (ne_of h1 G1.ins (by intro z; cases z)), upd_ne nlb]
          exact h1
        refine ⟨_, rfl, _, _, rfl, .inl ⟨_, SqL.of hl3, rfl⟩, sz1, fun q hq => k.done st G3 (fun b hb => .inl (Foot.lessF hb)) (fun b o eb hb => ?_) hq ?_⟩
        · rw [upd_ne (fun z => hb (by rw [z]; exact Foot.p)), upd_ne (fun z => hb (by rw [z]; exact Foot.b))]
          exact s1 _ _ eb
        · rw [hlen]
          rfl
end
end Gp

set_option Elab.async false
set_option linter.all false
set_option maxRecDepth 100000
set_option maxHeartbeats 4000000
namespace Gp
open PySem PySem.Spec PyProof.Rows L2
def sp_write (t : Adr) : Sp := fun vs H Q E => ∃ (b i : Nat) (ws : Gk.Bytes), Ans t (.write b i ws) ((b : Int) :: (i : Int) :: (ws.length : Int) :: ws.map fun w => (w.toNat : Int)) vs H Q E
def sp_read (t : Adr) : Sp := fun vs H Q E => ∃ b i k : Nat, Ans t (.read b i k) [(b : Int), (i : Int), (k : Int)] vs H Q E
def sp_packA (t : Adr) : Sp := fun vs H Q E => ∃ ns : List Int, Ans t .pack ns vs H Q E
def sp_walk (t : Adr) : Sp := fun vs H Q E => ∃ p : Nat, Ans t (.walk p) [(p : Int)] vs H Q E
def sp_step (t : Adr) : Sp := fun vs H Q E => ∃ w : Nat, Ans t (.step w) [(w : Int)] vs H Q E
def sp_blocks (t : Adr) : Sp := fun vs H Q E => ∃ ns : List Int, Ans t .blocks ns vs H Q E
theorem cut_tail (a b c : V) (r : List V) : cutV (a :: b :: c :: r) (some 3) none = r := by
  unfold cutV
  rw [show (3 : Int) = ((3 : Nat) : Int) from rfl, HT.sIx_nat, HT.sIx_none]
  have e : min 3 (a :: b :: c :: r).length = 3 := by
    simp only [List.length_cons]
    omega
  rw [e]
  show List.take (r.length + 1 + 1 + 1 - 3) r = r
  exact List.take_of_length_le (by omega)
theorem bV_of (ws : Gk.Bytes) : (ws.map fun w => (w.toNat : Int)).map V.int = bV ws := by
  unfold bV
  rw [List.map_map]
  rfl
/-- the walks' table has changed -/
theorem GA.walked {t : Adr} {H : Hp} {p : Addr} {g : Gk.Ground} {x : GD} {ws : List (Option Nat)} {kv : List (Key × V)} (G : GA t H p g x) (h : WK ws kv) : GA t (upd H x.wk (.dK kv)) p { g with walks := ws } { x with wkv := kv } := by
  have n1 : p ≠ x.wk := ne_of G.ins G.wal (by intro z; cases z)
  have n2 : x.st ≠ x.wk := ne_of G.sto G.wal (by intro z; cases z)
  refine ⟨by rw [upd_ne n1]; exact G.ins, by rw [upd_ne n2]; exact G.sto, by rw [upd_ne G.bw]; exact G.blo, upd_same, G.bw, G.eqb, G.perm, fun q hq => ?_, h⟩
  obtain ⟨dq, eq⟩ := G.blk q hq
  exact ⟨dq, by rw [upd_ne (ne_of eq G.wal (by intro z; cases z))]; exact eq⟩
theorem first_free : ∀ {ws : List (Option Nat)} {i : Nat}, ws[i]? = some none → (∀ j, j < i → ∃ p, ws[j]? = some (some p)) → (ws.findIdx? fun (w : Option Nat) => w.isNone) = some i
  | [], i, h, _ => by simp at h
  | a :: r, 0, h, _ => by
    have e : a = none := Option.some.inj h
    rw [e, List.findIdx?_cons]
    rfl
  | a :: r, i + 1, h, hj => by
    obtain ⟨p, hp⟩ := hj 0 (Nat.succ_pos _)
    have e : a = some p := Option.some.inj hp
    have ih := first_free (ws := r) (i := i) h fun j hj' => hj (j + 1) (Nat.succ_lt_succ hj')
    rw [e, List.findIdx?_cons, ih]
    rfl
theorem none_free {ws : List (Option Nat)} (h : ∀ j, j < ws.length → ∃ p, ws[j]? = some (some p)) : (ws.findIdx? fun (w : Option Nat) => w.isNone) = none := by
  refine List.findIdx?_eq_none_iff.mpr fun w hw => ?_
  obtain ⟨j, hj⟩ := List.mem_iff_getElem?.mp hw
  obtain ⟨p, hp⟩ := h j (get_lt hj)
  rw [hp] at hj
  rw [← Option.some.inj hj]
  rfl
theorem sum_nat : ∀ l : List Nat, (l.map fun (n : Nat) => (n : Int)).sum = ((l.sum : Nat) : Int)
  | [] => rfl
  | a :: r => by
    rw [List.map_cons, List.sum_cons, sum_nat r, List.sum_cons]
    omega
section
variable {P : Program} {w : World} {K : PySem.W.Frag} {mg : Str → Option Value} {base : Heap} {t : Adr}
theorem ok_answer_keep (T : Txt P w K mg t) : FnOk P w K mg base CX0 1 t.f_answer_keep t.d_answer_keep ["ground", "numbers"] (sp_keep t) := by
  refine T.F_answer_keep.ok sc_answer_keep (fun vs H Q E h => ?_) (fun cdv A outer s H vs Q E hr h => ?_)
  · obtain ⟨z, p, l, g, x, rfl, _⟩ := h
    rfl
  · obtain ⟨b0, p, l, g, x, rfl, G, W, hl, nl, k⟩ := h
    have hu := hu_of hr
    refine ⟨_, (pss_cons (ps_set (i := 2) sc_answer_keep.nd rfl (Or.inl rfl) (pe_dget1 hu (pe_fld (pv 0) rfl) (pe_ix ix_list (pv 1) pe_int (fun _ _ => rfl)) ⟨rfl, rfl, rfl, rfl⟩))
      (pss_cons (ps_if (pt_cmp (pc_isN (pv 2))) (pss_one (ps_ret (pe_lst (pa_cons (pe_glob rfl T.m_NO_BLOCK T.r_NO_BLOCK) pa_nil)))) pss_nil)
      (pss_cons (ps_if (pt_cmpR op_eq (pe_fld (pv 2) rfl) pe_int (nomark _)) (pss_one (ps_ret (pe_lst (pa_cons (pe_glob rfl T.m_NONE_THERE T.r_NONE_THERE) pa_nil)))) pss_nil)
      (pss_cons (ps_fld (pv 2) (pe_op op_sub (pe_fld (pv 2) rfl) pe_int) rfl)
      (pss_one (ps_ret (pe_lst (pa_cons (pe_fld (pv 2) rfl) pa_nil)))))))), ?_⟩
    have st : Gk.step g (.keep b0) = Gk.onBlock g b0 fun x => if x.group = 0 then (g, Gk.no 4) else ({ g with blocks := g.blocks.map fun (y : Gk.Block) => if y.at_ = x.at_ then { y with group := y.group - 1 } else y }, Gk.says (x.group - 1)) := rfl
    unfold Gk.onBlock at st
    cases hf : g.find b0 with
    | none =>
      rw [hf] at st
      refine ⟨_, rfl, p, _, x.dx, _, _, rfl, G.ins, T.C_Ground, T.n_Ground_blocks, gdF_blocks _ _ _ _ _ _ _, x.bl, rfl, .inl ⟨_, .inl G.blo⟩, _, rfl, l, _, _, _, rfl, rfl, SqL.of hl, at_of (j := 0) rfl rfl, none, .inl ⟨x.kvs, .inl (b0 : Int), .inl G.blo, rfl, (G.find_none hf).symm⟩, ?_⟩
      exact ⟨_, rfl, _, rfl, iteT ⟨sz1, fun q hq => k.stay (ans := Gk.no 2) st G hq rfl⟩⟩
    | some b =>
      rw [hf] at st
      obtain ⟨a, hm, hat, hv, db, eb⟩ := G.find_some W hf
      refine ⟨_, rfl, p, _, x.dx, _, _, rfl, G.ins, T.C_Ground, T.n_Ground_blocks, gdF_blocks _ _ _ _ _ _ _, x.bl, rfl, .inl ⟨_, .inl G.blo⟩, _, rfl, l, _, _, _, rfl, rfl, SqL.of hl, at_of (j := 0) rfl rfl, some (.ref a), .inl ⟨x.kvs, .inl (b0 : Int), .inl G.blo, rfl, hv.symm⟩, ?_⟩
      refine ⟨_, rfl, _, rfl, iteF ?_⟩
      refine ⟨_, rfl, a, _, db, _, _, rfl, eb, T.C_Block, T.n_Block_group, bkF_group _ _ _ _, rfl, _, rfl, ?_⟩
      by_cases e0 : b.group = 0
      · have st : Gk.step g (.keep b0) = (g, Gk.no 4) := by
          rw [st]
          exact if_pos e0
        exact iteDT (veq (by omega)) ⟨sz1, fun q hq => k.stay (ans := Gk.no 4) st G hq rfl⟩
      · have st : Gk.step g (.keep b0) = ({ g with blocks := g.blocks.map fun (y : Gk.Block) => if y.at_ = b.at_ then { y with group := y.group - 1 } else y }, Gk.says (b.group - 1)) := by
          rw [st]
          exact if_neg e0
        refine iteDF (vne (by omega)) ?_
        refine ⟨_, rfl, a, _, db, _, _, rfl, eb, T.C_Block, T.n_Block_group, bkF_group _ _ _ _, _, _, rfl, rfl, _, rfl, a, _, db, _, rfl, eb, T.C_Block, T.n_Block_group, few (Nat.le_refl 4), ?_⟩
        rw [bk_group, show ((b.group : Int) - 1) = ((b.group - 1 : Nat) : Int) by omega]
        have n1 : p ≠ a := (ne_of eb G.ins (bk_gd (t := t))).symm
        have n2 : x.st ≠ a := (ne_of eb G.sto (by intro z; cases z)).symm
        have n3 : x.bl ≠ a := (ne_of eb G.blo (by intro z; cases z)).symm
        have n4 : x.wk ≠ a := (ne_of eb G.wal (by intro z; cases z)).symm
        have uni : ∀ q ∈ x.bs, q.1.at_ = b.at_ → q.2 = a ∧ q.1 = b := fun q hq e => by
          have v1 := G.val W hq
          have v2 := G.val W hm
          rw [e, v2] at v1
          have e2 : a = q.2 := V.ref.inj (Option.some.inj v1)
          refine ⟨e2.symm, ?_⟩
          have nd := G.addrs W
          obtain ⟨i, hi⟩ := List.mem_iff_getElem?.mp hq
          obtain ⟨j, hj⟩ := List.mem_iff_getElem?.mp hm
          have hi' : (x.bs.map (·.2))[i]? = some a := by rw [List.getElem?_map, hi, e2]; rfl
          have hj' : (x.bs.map (·.2))[j]? = some a := by rw [List.getElem?_map, hj]; rfl
          have ij := nd_ix nd hi' hj'
          rw [ij, hj] at hi
          have := Option.some.inj hi
          rw [← this]
        have G2 : GA t (upd H a (.ins t.c_Block db (bkF b.at_ b.n b.align ((b.group - 1 : Nat) : Int)))) p { g with blocks := g.blocks.map fun (y : Gk.Block) => if y.at_ = b.at_ then { y with group := y.group - 1 } else y } { x with bs := x.bs.map fun q => (if q.1.at_ = b.at_ then { q.1 with group := q.1.group - 1 } else q.1, q.2) } := by
          refine ⟨by rw [upd_ne n1]; exact G.ins, by rw [upd_ne n2]; exact G.sto, by rw [upd_ne n3]; exact G.blo, by rw [upd_ne n4]; exact G.wal, G.bw, ?_, ?_, fun q hq => ?_, G.wks⟩
          · show g.blocks.map _ = _
            rw [G.eqb, List.map_map, List.map_map]
            rfl
          · show x.kvs.Perm _
            have e : (x.bs.map fun q => (if q.1.at_ = b.at_ then { q.1 with group := q.1.group - 1 } else q.1, q.2)).map kvOf = x.bs.map kvOf := by
              rw [List.map_map]
              refine List.map_congr_left fun q _ => ?_
              show (Sum.inl (((if q.1.at_ = b.at_ then { q.1 with group := q.1.group - 1 } else q.1 : Gk.Block).at_ : Nat) : Int), V.ref q.2) = (Sum.inl (q.1.at_ : Int), V.ref q.2)
              split <;> rfl
            rw [e]
            exact G.perm
          · obtain ⟨z, hz, e⟩ := List.mem_map.mp hq
            rw [← e]
            by_cases za : z.1.at_ = b.at_
            · obtain ⟨u1, u2⟩ := uni z hz za
              show BA t _ z.2 (if z.1.at_ = b.at_ then { z.1 with group := z.1.group - 1 } else z.1)
              rw [if_pos za, u1, u2]
              exact ⟨db, upd_same⟩
            · show BA t _ z.2 (if z.1.at_ = b.at_ then { z.1 with group := z.1.group - 1 } else z.1)
              rw [if_neg za]
              obtain ⟨dz, ez⟩ := G.blk z hz
              have nz : z.2 ≠ a := fun e => by
                rw [e, eb] at ez
                injection ez with ez
                injection ez with _ _ ez
                have l1 := bkF_address z.1.at_ z.1.n z.1.align z.1.group
                rw [← ez, bkF_address] at l1
                have := V.int.inj (Option.some.inj l1)
                omega
              exact ⟨dz, by rw [upd_ne nz]; exact ez⟩
        refine ⟨_, rfl, a, _, db, _, _, rfl, upd_same, T.C_Block, T.n_Block_group, bkF_group _ _ _ _, sz1, fun q hq => k.done st G2 (fun c hc => .inl ?_) (fun c o ec hc => ?_) hq rfl⟩
        · rcases hc with z | z | z | z | ⟨q', hq', z⟩
          · exact .inl z
          · exact .inr (.inl z)
          · exact .inr (.inr (.inl z))
          · exact .inr (.inr (.inr (.inl z)))
          · obtain ⟨y, hy, ey⟩ := List.mem_map.mp hq'
            exact .inr (.inr (.inr (.inr ⟨y, hy, by rw [z, ← ey]⟩)))
        · rw [upd_ne (fun z => hc (by rw [z]; exact Foot.a hm))]
          exact ec
theorem ok_answer_counts (T : Txt P w K mg t) : FnOk P w K mg base CX0 3 t.f_answer_counts t.d_answer_counts ["ground", "numbers"] (sp_counts t) := by
  have G_Ground_blocks_in_order : FnOk P w K mg base CX0 1 t.f_Ground_blocks_in_order t.d_Ground_blocks_in_order ["self"] (sp_blocks_in_order t) := ok_blocks_in_order T
  have G_Ground_innermost_blocks : FnOk P w K mg base CX0 2 t.f_Ground_innermost_blocks t.d_Ground_innermost_blocks ["self"] (sp_innermost_blocks t) := ok_innermost_blocks T
  refine T.F_answer_counts.ok sc_answer_counts (fun vs H Q E h => ?_) (fun cdv A outer s H vs Q E hr h => ?_)
  · obtain ⟨z, p, l, g, x, rfl, _⟩ := h
    rfl
  · obtain ⟨ns, p, l, g, x, rfl, G, W, hl, nl, k⟩ := h
    refine ⟨_, (pss_cons (ps_set (i := 2) sc_answer_counts.nd rfl (Or.inl rfl) (pe_meth0 (pv 0) T.C_Ground T.H_Ground_blocks_in_order G_Ground_blocks_in_order (hr.mono (by decide : 1 ≤ 2)) T.B_Ground_blocks_in_order .nil pass0))
      (pss_cons (ps_set (i := 3) sc_answer_counts.nd rfl (Or.inl rfl) (pe_callB (cr_sum rfl) (by rfl) T.b_sum boot_sum (pa_cons (pe_lc (te := tFld K (tVar 4) "n") (own := [("block", 4)]) rfl sc_answer_counts.nd (pi_list (pv 2)) (blkOk_by (by show blkC ["ground", "numbers", "blocks", "lent", "block"] (defScope s_answer_counts) _ [("block", 4)] = true; decide +kernel)) (fun _ _ _ _ _ => pg_name (i := 4) sc_answer_counts.nd rfl (Or.inl rfl)) (fun _ _ _ _ _ => pts_nil) (fun _ _ _ _ _ => (pe_fld (pv 4) rfl))) pa_nil)))
      (pss_one (ps_ret (pe_lst (pa_cons (pe_callB call_len (by rfl) T.b_len PySem.boot_len (pa_cons (pv 2) pa_nil)) (pa_cons (pv 3) (pa_cons (pe_fld (pv 0) rfl) (pa_cons (pe_callB call_len (by rfl) T.b_len PySem.boot_len (pa_cons (pe_meth0 (pv 0) T.C_Ground T.H_Ground_innermost_blocks G_Ground_innermost_blocks hr T.B_Ground_innermost_blocks .nil pass0) pa_nil)) (pa_cons (pe_fld (pv 0) rfl) pa_nil)))))))))), ?_⟩
    have st : Gk.step g .counts = (g, Gk.ints [g.blocks.length, (g.blocks.map Gk.Block.n).sum, g.depth, (g.blocks.filter fun (b : Gk.Block) => b.group == g.depth).length, g.mark]) := rfl
    refine ⟨_, rfl, p, x.dx, _, rfl, G.ins, gdF_no_blocks_in_order _ _ _ _ _ _ _, p, g, x, rfl, G, W, fun H1 l1 h1 s1 n1 => ?_⟩
    have G1 := G.same s1
    refine ⟨_, rfl, l1, rfl, ⟨_, SqL.of h1⟩, fun l2 hl2 => ?_⟩
    have nl2 : l1 ≠ l2 := ne_of_none h1 hl2
    refine lc_list (K := K) (a := l1) (xs := x.bs.map fun q => V.ref q.2)
      (fun i H' => Same H1 H' ∧ H' l2 = some (.lst (((x.bs.take i).map fun q => (q.1.n : Int)).map V.int)))
      ⟨Same.new hl2, upd_same⟩ (fun i H' _ ⟨s5, _⟩ => s5.seq (SqL.of h1)) ?_ ?_
    · rintro i y H' hi ⟨s5, h6⟩
      obtain ⟨q, hq, rfl⟩ := map_get hi
      have hm := List.mem_of_getElem? hq
      obtain ⟨dq, eq⟩ := G1.blk q hm
      have eq := s5 _ _ eq
      have hlen := G.len W
      have hi2 := get_lt hq
      have hsz : (2048 : Nat) < sizeLine := by decide
      refine ⟨rfl, yesT ?_⟩
      refine ⟨_, rfl, q.2, _, dq, _, _, rfl, eq, T.C_Block, T.n_Block_n, bkF_n _ _ _ _, _, h6, ?_, s5.upd hl2, ?_⟩
      · rw [List.length_map, List.length_map, List.length_take]
        omega
      · rw [upd_same, take_get hq, List.map_append, List.map_append]
        rfl
    · rintro H' ⟨s5, h6⟩
      rw [List.length_map, List.take_length] at h6
      have s6 := s1.trans s5
      have G6 := G.same s6
      refine ⟨l2, _, rfl, SqL.of h6, ?_⟩
      refine ⟨_, rfl, _, _, rfl, .inl ⟨_, SqL.of (s5 _ _ h1), rfl⟩, _, rfl, _, rfl, p, _, x.dx, _, _, rfl, G6.ins, T.C_Ground, T.n_Ground_depth, gdF_depth _ _ _ _ _ _ _, _, rfl, p, x.dx, _, rfl, G6.ins, gdF_no_innermost_blocks _ _ _ _ _ _ _, p, g, x, rfl, G6, W, fun H7 l7 h7 s7 n7 => ?_⟩
      refine ⟨_, _, rfl, .inl ⟨_, SqL.of h7, rfl⟩, _, rfl, p, _, x.dx, _, _, rfl, s7 _ _ G6.ins, T.C_Ground, T.n_Ground_mark, gdF_mark _ _ _ _ _ _ _, (by show 5 ≤ sizeLine; decide), fun q hq => k.reads st G (s6.trans s7) hq ?_⟩
      have e1 : ((x.bs.map fun q => V.ref q.2).length : Int) = (g.blocks.length : Int) := by rw [List.length_map, G.eqb, List.length_map]
      have e2 : (x.bs.map fun q => (q.1.n : Int)).sum = (((g.blocks.map Gk.Block.n).sum : Nat) : Int) := by
        rw [← sum_nat, G.eqb, List.map_map, List.map_map]
        rfl
      have e3 : (((x.bs.filter fun q => q.1.group == g.depth).map fun q => V.ref q.2).length : Int) = ((g.blocks.filter fun (b : Gk.Block) => b.group == g.depth).length : Int) := by
        rw [List.length_map, G.eqb, List.filter_map, List.length_map]
        rfl
      rw [e1, e2, e3]
      rfl
end
end Gp

set_option Elab.async false
set_option linter.all false
set_option maxRecDepth 100000
set_option maxHeartbeats 4000000
namespace Gp
open PySem PySem.Spec PyProof.Rows L2
section
variable {P : Program} {w : World} {K : PySem.W.Frag} {mg : Str → Option Value} {base : Heap} {t : Adr}
theorem ok_answer_write (T : Txt P w K mg t) : FnOk P w K mg base CX0 2 t.f_answer_write t.d_answer_write ["ground", "numbers"] (sp_write t) := by
  have G_has_bytes : FnOk P w K mg base CX0 1 t.f_has_bytes t.d_has_bytes ["block", "first", "how_many"] (sp_has_bytes t) := ok_has_bytes T
  have G_Ground_put : FnOk P w K mg base CX0 1 t.f_Ground_put t.d_Ground_put ["self", "address", "new_bytes"] (sp_put t) := ok_put T
  refine T.F_answer_write.ok sc_answer_write (fun vs H Q E h => ?_) (fun cdv A outer s H vs Q E hr h => ?_)
  · obtain ⟨z, i, ws, p, l, g, x, rfl, _⟩ := h
    rfl
  · obtain ⟨b0, i, ws, p, l, g, x, rfl, G, W, hl, nl, k⟩ := h
    have hu := hu_of hr
    refine ⟨_, (pss_cons (ps_set (i := 2) sc_answer_write.nd rfl (Or.inl rfl) (pe_dget1 hu (pe_fld (pv 0) rfl) (pe_ix ix_list (pv 1) pe_int (fun _ _ => rfl)) ⟨rfl, rfl, rfl, rfl⟩))
      (pss_cons (ps_set (i := 3) sc_answer_write.nd rfl (Or.inl rfl) (pe_ix ix_list (pv 1) pe_int (fun _ _ => rfl)))
      (pss_cons (ps_set (i := 4) sc_answer_write.nd rfl (Or.inl rfl) (pe_slice sl_list (pv 1) (po_some pe_int) po_none))
      (pss_cons (ps_if (pt_cmp (pc_isN (pv 2))) (pss_one (ps_ret (pe_lst (pa_cons (pe_glob rfl T.m_NO_BLOCK T.r_NO_BLOCK) pa_nil)))) pss_nil)
      (pss_cons (ps_if (pt_not (pt_val (pe_call G_has_bytes hr rfl T.m_has_bytes T.F_has_bytes.kp T.B_has_bytes .nil pass0 (pa_cons (pv 2) (pa_cons (pv 3) (pa_cons (pe_callB call_len (by rfl) T.b_len PySem.boot_len (pa_cons (pv 4) pa_nil)) pa_nil)))))) (pss_one (ps_ret (pe_lst (pa_cons (pe_glob rfl T.m_WRONG_NUMBER T.r_WRONG_NUMBER) pa_nil)))) pss_nil)
      (pss_cons (ps_expr (pe_meth (pv 0) T.C_Ground T.H_Ground_put G_Ground_put hr T.B_Ground_put .nil pass0 (pa_cons (pe_op op_add (pe_fld (pv 2) rfl) (pv 3)) (pa_cons (pv 4) pa_nil))))
      (pss_one (ps_ret (pe_lst (pa_cons pe_int pa_nil)))))))))), ?_⟩
    have st : Gk.step g (.write b0 i ws) = Gk.onBlock g b0 fun x => if i + ws.length ≤ x.n then ({ g with bytes := Gk.writeAt g.bytes (x.at_ + i) ws }, Gk.says 0) else (g, Gk.no 1) := rfl
    unfold Gk.onBlock at st
    have cut : cutV (((b0 : Int) :: (i : Int) :: (ws.length : Int) :: ws.map fun w => (w.toNat : Int)).map V.int) (some 3) none = bV ws := (cut_tail _ _ _ _).trans (bV_of ws)
    cases hf : g.find b0 with
    | none =>
      rw [hf] at st
      refine ⟨_, rfl, p, _, x.dx, _, _, rfl, G.ins, T.C_Ground, T.n_Ground_blocks, gdF_blocks _ _ _ _ _ _ _, x.bl, rfl, .inl ⟨_, .inl G.blo⟩, _, rfl, l, _, _, _, rfl, rfl, SqL.of hl, at_of (j := 0) rfl rfl, none, .inl ⟨x.kvs, .inl (b0 : Int), .inl G.blo, rfl, (G.find_none hf).symm⟩, ?_⟩
      refine ⟨_, rfl, l, _, _, _, rfl, rfl, SqL.of hl, at_of (j := 1) rfl rfl, ?_⟩
      refine ⟨_, rfl, _, rfl, l, _, rfl, SqL.of hl, fun l2 hl2 => ?_⟩
      exact ⟨_, rfl, _, rfl, iteT ⟨sz1, fun q hq => k.reads (ans := Gk.no 2) st G (Same.new hl2) hq rfl⟩⟩
    | some b =>
      rw [hf] at st
      obtain ⟨a, hm, hat, hv, db, eb⟩ := G.find_some W hf
      have hbm : b ∈ g.blocks := by rw [G.eqb]; exact List.mem_map.mpr ⟨_, hm, rfl⟩
      have hff := W.fit.mem hbm
      have hbl : b.at_ + b.n ≤ g.bytes.length := by
        have h : b.at_ + max b.n 1 ≤ g.bytes.length := hff.2.1
        omega
      refine ⟨_, rfl, p, _, x.dx, _, _, rfl, G.ins, T.C_Ground, T.n_Ground_blocks, gdF_blocks _ _ _ _ _ _ _, x.bl, rfl, .inl ⟨_, .inl G.blo⟩, _, rfl, l, _, _, _, rfl, rfl, SqL.of hl, at_of (j := 0) rfl rfl, some (.ref a), .inl ⟨x.kvs, .inl (b0 : Int), .inl G.blo, rfl, hv.symm⟩, ?_⟩
      refine ⟨_, rfl, l, _, _, _, rfl, rfl, SqL.of hl, at_of (j := 1) rfl rfl, ?_⟩
      refine ⟨_, rfl, _, rfl, l, _, rfl, SqL.of hl, fun l2 hl2 => ?_⟩
      rw [cut]
      have s2 : Same H (upd H l2 (.lst (bV ws))) := Same.new hl2
      have G2 := G.same s2
      refine ⟨_, rfl, _, rfl, iteF ?_⟩
      refine ⟨_, rfl, _, rfl, _, rfl, _, _, rfl, .inl ⟨_, SqL.of upd_same, rfl⟩, a, b, i, ws.length, by rw [bV_len]; rfl, ⟨db, s2 _ _ eb⟩, _, rfl, ?_⟩
      by_cases hc : i + ws.length ≤ b.n
      · have st : Gk.step g (.write b0 i ws) = ({ g with bytes := Gk.writeAt g.bytes (b.at_ + i) ws }, Gk.says 0) := by
          rw [st]
          exact if_pos hc
        refine iteNS hc ?_
        refine ⟨_, rfl, p, x.dx, _, rfl, G2.ins, gdF_no_put _ _ _ _ _ _ _, _, rfl, a, _, db, _, _, rfl, s2 _ _ eb, T.C_Block, T.n_Block_address, bkF_address _ _ _ _, _, rfl, _, _, rfl, rfl, _, rfl, p, x.st, g.bytes, b.at_ + i, l2, ws, by rw [Int.natCast_add]; rfl, G2.sa, upd_same, (ne_of_none G.sto hl2).symm, by omega, fun H3 hs3 fr3 => ?_⟩
        have G3 := G2.wrote (s := Gk.writeAt g.bytes (b.at_ + i) ws) (Gk.writeAt_len (by omega)) hs3 fr3
        exact ⟨sz1, fun q hq => k.done st G3 (fun c hc => .inl hc) (fun c o ec hc => fr3 _ _ (s2 _ _ ec) fun z => hc (by rw [z]; exact Foot.s)) hq rfl⟩
      · have st : Gk.step g (.write b0 i ws) = (g, Gk.no 1) := by
          rw [st]
          exact if_neg hc
        exact iteNT hc ⟨sz1, fun q hq => k.reads (ans := Gk.no 1) st G s2 hq rfl⟩
theorem ok_answer_read (T : Txt P w K mg t) : FnOk P w K mg base CX0 2 t.f_answer_read t.d_answer_read ["ground", "numbers"] (sp_read t) := by
  have G_has_bytes : FnOk P w K mg base CX0 1 t.f_has_bytes t.d_has_bytes ["block", "first", "how_many"] (sp_has_bytes t) := ok_has_bytes T
  have G_Ground_bytes_from : FnOk P w K mg base CX0 1 t.f_Ground_bytes_from t.d_Ground_bytes_from ["self", "address", "how_many"] (sp_bytes_from t) := ok_bytes_from T
  refine T.F_answer_read.ok sc_answer_read (fun vs H Q E h => ?_) (fun cdv A outer s H vs Q E hr h => ?_)
  · obtain ⟨z, i, ws, p, l, g, x, rfl, _⟩ := h
    rfl
  · obtain ⟨b0, i, n, p, l, g, x, rfl, G, W, hl, nl, k⟩ := h
    have hu := hu_of hr
    refine ⟨_, (pss_cons (ps_set (i := 2) sc_answer_read.nd rfl (Or.inl rfl) (pe_dget1 hu (pe_fld (pv 0) rfl) (pe_ix ix_list (pv 1) pe_int (fun _ _ => rfl)) ⟨rfl, rfl, rfl, rfl⟩))
      (pss_cons (ps_set (i := 3) sc_answer_read.nd rfl (Or.inl rfl) (pe_ix ix_list (pv 1) pe_int (fun _ _ => rfl)))
      (pss_cons (ps_set (i := 4) sc_answer_read.nd rfl (Or.inl rfl) (pe_ix ix_list (pv 1) pe_int (fun _ _ => rfl)))
      (pss_cons (ps_if (pt_cmp (pc_isN (pv 2))) (pss_one (ps_ret (pe_lst (pa_cons (pe_glob rfl T.m_NO_BLOCK T.r_NO_BLOCK) pa_nil)))) pss_nil)
      (pss_cons (ps_if (pt_not (pt_val (pe_call G_has_bytes hr rfl T.m_has_bytes T.F_has_bytes.kp T.B_has_bytes .nil pass0 (pa_cons (pv 2) (pa_cons (pv 3) (pa_cons (pv 4) pa_nil)))))) (pss_one (ps_ret (pe_lst (pa_cons (pe_glob rfl T.m_WRONG_NUMBER T.r_WRONG_NUMBER) pa_nil)))) pss_nil)
      (pss_one (ps_ret (pe_op op_cat (pe_lst (pa_cons (pv 4) pa_nil)) (pe_meth (pv 0) T.C_Ground T.H_Ground_bytes_from G_Ground_bytes_from hr T.B_Ground_bytes_from .nil pass0 (pa_cons (pe_op op_add (pe_fld (pv 2) rfl) (pv 3)) (pa_cons (pv 4) pa_nil))))))))))), ?_⟩
    have st : Gk.step g (.read b0 i n) = (g, Gk.ofBlock g b0 fun x => if i + n ≤ x.n then Gk.bytesA (Gk.readAt g.bytes (x.at_ + i) n) else Gk.no 1) := rfl
    unfold Gk.ofBlock at st
    cases hf : g.find b0 with
    | none =>
      rw [hf] at st
      refine ⟨_, rfl, p, _, x.dx, _, _, rfl, G.ins, T.C_Ground, T.n_Ground_blocks, gdF_blocks _ _ _ _ _ _ _, x.bl, rfl, .inl ⟨_, .inl G.blo⟩, _, rfl, l, _, _, _, rfl, rfl, SqL.of hl, at_of (j := 0) rfl rfl, none, .inl ⟨x.kvs, .inl (b0 : Int), .inl G.blo, rfl, (G.find_none hf).symm⟩, ?_⟩
      refine ⟨_, rfl, l, _, _, _, rfl, rfl, SqL.of hl, at_of (j := 1) rfl rfl, ?_⟩
      refine ⟨_, rfl, l, _, _, _, rfl, rfl, SqL.of hl, at_of (j := 2) rfl rfl, ?_⟩
      exact ⟨_, rfl, _, rfl, iteT ⟨sz1, fun q hq => k.stay (ans := Gk.no 2) st G hq rfl⟩⟩
    | some b =>
      rw [hf] at st
      obtain ⟨a, hm, hat, hv, db, eb⟩ := G.find_some W hf
      have hbm : b ∈ g.blocks := by rw [G.eqb]; exact List.mem_map.mpr ⟨_, hm, rfl⟩
      have hff := W.fit.mem hbm
      have hbl : b.at_ + b.n ≤ g.bytes.length := by
        have h : b.at_ + max b.n 1 ≤ g.bytes.length := hff.2.1
        omega
      refine ⟨_, rfl, p, _, x.dx, _, _, rfl, G.ins, T.C_Ground, T.n_Ground_blocks, gdF_blocks _ _ _ _ _ _ _, x.bl, rfl, .inl ⟨_, .inl G.blo⟩, _, rfl, l, _, _, _, rfl, rfl, SqL.of hl, at_of (j := 0) rfl rfl, some (.ref a), .inl ⟨x.kvs, .inl (b0 : Int), .inl G.blo, rfl, hv.symm⟩, ?_⟩
      refine ⟨_, rfl, l, _, _, _, rfl, rfl, SqL.of hl, at_of (j := 1) rfl rfl, ?_⟩
      refine ⟨_, rfl, l, _, _, _, rfl, rfl, SqL.of hl, at_of (j := 2) rfl rfl, ?_⟩
      refine ⟨_, rfl, _, rfl, iteF ?_⟩
      refine ⟨_, rfl, _, rfl, _, rfl, a, b, i, n, rfl, ⟨db, eb⟩, _, rfl, ?_⟩
      by_cases hc : i + n ≤ b.n
      · have st : Gk.step g (.read b0 i n) = (g, Gk.bytesA (Gk.readAt g.bytes (b.at_ + i) n)) := by
          rw [st]
          exact congrArg (Prod.mk g) (if_pos hc)
        refine iteNS hc ?_
        refine ⟨_, rfl, sz1, fun l5 h5 => ?_⟩
        have s5 : Same H (upd H l5 (.lst [.int (n : Int)])) := Same.new h5
        have G5 := G.same s5
        refine ⟨_, rfl, p, x.dx, _, rfl, G5.ins, gdF_no_bytes_from _ _ _ _ _ _ _, _, rfl, a, _, db, _, _, rfl, s5 _ _ eb, T.C_Block, T.n_Block_address, bkF_address _ _ _ _, _, rfl, _, _, rfl, rfl, _, rfl, p, x.st, g.bytes, b.at_ + i, n, by rw [Int.natCast_add]; rfl, G5.sa, by omega, fun H6 l6 h6 s6 n6 => ?_⟩
        have hrl : (Gk.readAt g.bytes (b.at_ + i) n).length = n := Gk.readAt_len (by omega)
        have hsz := W.size
        have hsz : g.bytes.length ≤ 2048 := hsz
        have big : (4096 : Nat) ≤ sizeLine := by decide
        refine ⟨l5, l6, _, _, rfl, rfl, s6 _ _ upd_same, h6, by rw [bV_len, hrl]; show 1 + n ≤ _; omega, fun q hq => k.reads st G (s5.trans s6) hq ?_⟩
        unfold Gk.bytesA Gk.listed Gk.ints
        rw [List.length_map, hrl, List.map_cons, List.map_cons, List.map_map, List.map_map]
        rfl
      · have st : Gk.step g (.read b0 i n) = (g, Gk.no 1) := by
          rw [st]
          exact congrArg (Prod.mk g) (if_neg hc)
        exact iteNT hc ⟨sz1, fun q hq => k.stay (ans := Gk.no 1) st G hq rfl⟩
theorem ok_answer_pack (T : Txt P w K mg t) : FnOk P w K mg base CX0 4 t.f_answer_pack t.d_answer_pack ["ground", "numbers"] (sp_packA t) := by
  have G_Ground_pack : FnOk P w K mg base CX0 3 t.f_Ground_pack t.d_Ground_pack ["self"] (sp_pack t) := ok_pack T
  refine T.F_answer_pack.ok sc_answer_pack (fun vs H Q E h => ?_) (fun cdv A outer s H vs Q E hr h => ?_)
  · obtain ⟨z, p, l, g, x, rfl, _⟩ := h
    rfl
  · obtain ⟨ns, p, l, g, x, rfl, G, W, hl, nl, k⟩ := h
    refine ⟨_, (pss_cons (ps_expr (pe_meth0 (pv 0) T.C_Ground T.H_Ground_pack G_Ground_pack hr T.B_Ground_pack .nil pass0))
      (pss_one (ps_ret (pe_op op_cat (pe_lst (pa_cons (pe_callB call_lenD (by rfl) T.b_len PySem.boot_len (pa_cons (pe_fld (pv 0) rfl) pa_nil)) pa_nil)) (pe_callB (cr_sortedD rfl) (by rfl) T.b_sorted boot_sorted (pa_cons (pe_fld (pv 0) rfl) pa_nil)))))), ?_⟩
    have st : Gk.step g .pack = ({ g with blocks := (Gk.packs 0 g.bytes g.blocks).1, bytes := (Gk.packs 0 g.bytes g.blocks).2 }, Gk.listed ((Gk.packs 0 g.bytes g.blocks).1.map Gk.Block.at_)) := rfl
    have W2 := Gk.step_wf W .pack
    rw [st] at W2
    refine ⟨_, rfl, p, x.dx, _, rfl, G.ins, gdF_no_pack _ _ _ _ _ _ _, p, g, x, rfl, G, W, fun H2 x2 G2 ft2 fr2 => ?_⟩
    have W2 : Gk.Wf { g with blocks := (Gk.packs 0 g.bytes g.blocks).1, bytes := (Gk.packs 0 g.bytes g.blocks).2 } := W2
    refine ⟨_, rfl, p, _, x2.dx, _, _, rfl, G2.ins, T.C_Ground, T.n_Ground_blocks, gdF_blocks _ _ _ _ _ _ _, x2.bl, x2.kvs, rfl, G2.blo, sz1, fun l5 h5 => ?_⟩
    have s5 : Same H2 (upd H2 l5 (.lst [.int (x2.kvs.length : Int)])) := Same.new h5
    have G5 := G2.same s5
    refine ⟨_, rfl, p, _, x2.dx, _, _, rfl, G5.ins, T.C_Ground, T.n_Ground_blocks, gdF_blocks _ _ _ _ _ _ _, x2.bl, x2.kvs, _, rfl, G5.blo, (keys_of G2.perm).1, fun ns' l6 hpm hso hl6 => ?_⟩
    have en := G2.srt W2 hpm hso
    subst en
    have s6 := s5.trans (Same.new (o := .lst ((x2.bs.map fun q => (q.1.at_ : Int)).map V.int)) hl6)
    have hlen := G2.len W2
    have hkl : x2.kvs.length = x2.bs.length := by
      rw [G2.perm.length_eq, List.length_map]
    have big : (4096 : Nat) ≤ sizeLine := by decide
    have n56 : l5 ≠ l6 := ne_of_none upd_same hl6
    refine ⟨l5, l6, _, _, rfl, rfl, (by rw [upd_ne n56, upd_same]), upd_same, by rw [List.length_map, List.length_map]; show 1 + _ ≤ _; omega, fun q hq => ?_⟩
    refine k.done st (G2.same s6) ft2 (fun c o ec hc => s6 _ _ (fr2 c o ec hc)) hq ?_
    have eb : (Gk.packs 0 g.bytes g.blocks).1 = x2.bs.map (·.1) := G2.eqb
    rw [eb, hkl]
    unfold Gk.listed Gk.ints
    rw [List.length_map, List.length_map, List.map_cons, List.map_cons, List.map_map, List.map_map, List.map_map, List.map_map]
    rfl
theorem ok_answer_walk (T : Txt P w K mg t) : FnOk P w K mg base CX0 1 t.f_answer_walk t.d_answer_walk ["ground", "numbers"] (sp_walk t) := by
  refine T.F_answer_walk.ok sc_answer_walk (fun vs H Q E h => ?_) (fun cdv A outer s H vs Q E hr h => ?_)
  · obtain ⟨z, p, l, g, x, rfl, _⟩ := h
    rfl
  · obtain ⟨pl, p, l, g, x, rfl, G, W, hl, nl, k⟩ := h
    have hu := hu_of hr
    refine ⟨_, (pss_cons (ps_for PassesOwn.never rfl (pi_range1 rfl T.b_range (pa_cons (pe_glob rfl T.m_MOST_WALKS T.r_MOST_WALKS) pa_nil)) (pg_name (i := 2) sc_answer_walk.nd rfl (Or.inl rfl))
        (pss_one (ps_if (pt_cmp (pc_dnotin hu (pv 2) (pe_fld (pv 0) rfl))) (pss_cons (ps_dput hu (pe_fld (pv 0) rfl) (pv 2) (pe_ix ix_list (pv 1) pe_int (fun _ _ => rfl)) rfl)
          (pss_one (ps_ret (pe_lst (pa_cons (pv 2) pa_nil))))) pss_nil)))
      (pss_one (ps_ret (pe_lst (pa_cons (pe_glob rfl T.m_NO_ROOM T.r_NO_ROOM) pa_nil))))), ?_⟩
    have st : Gk.step g (.walk pl) = (match g.walks.findIdx? fun (w : Option Nat) => w.isNone with
      | none => (g, Gk.no 3)
      | some i => ({ g with walks := g.walks.set i (some pl) }, Gk.says i)) := rfl
    have h4 := W.walks
    refine ⟨4, rfl, by decide, by decide, for_range (n := 4)
      (fun i σ H' => ∃ v : Option V, σ = [some (.ref p), some (.ref l), v] ∧ H' = H ∧ ∀ j, j < i → ∃ p, g.walks[j]? = some (some p))
      ⟨none, rfl, rfl, fun j hj => absurd hj (Nat.not_lt_zero _)⟩ ?_ ?_⟩
    · rintro i σ H' hi ⟨v, rfl, rfl, hall⟩
      have hv := G.wks.2.2 i
      obtain ⟨o, ho⟩ : ∃ o, g.walks[i]? = some o := ⟨_, List.getElem?_eq_getElem (by omega)⟩
      have hg : g.walks.getD i none = o := by rw [List.getD_eq_getElem?_getD, ho]; rfl
      rw [hg] at hv
      have z0 : (0 : Int) + (i : Nat) = (i : Int) := Int.zero_add _
      rw [z0]
      refine ⟨_, rfl, _, rfl, p, _, x.dx, _, _, rfl, G.ins, T.C_Ground, T.n_Ground_walks, gdF_walks _ _ _ _ _ _ _, x.wk, _, rfl, .inl ⟨x.wkv, .inl (i : Int), .inl G.wal, rfl, hv.symm⟩, _, rfl, ?_⟩
      cases o with
      | none =>
        rw [first_free ho hall] at st
        refine iteT ?_
        have hfew := G.wks.few
        have big : (4096 : Nat) ≤ sizeLine := by decide
        refine ⟨_, rfl, l, _, _, _, rfl, rfl, SqL.of hl, at_of (j := 0) rfl rfl, _, rfl, p, _, x.dx, _, _, rfl, G.ins, T.C_Ground, T.n_Ground_walks, gdF_walks _ _ _ _ _ _ _, _, rfl, x.wk, _, rfl, DPut.k (k := .inl (i : Int)) G.wal (by omega), ?_⟩
        have G2 := G.walked (G.wks.begin (p := pl) ho)
        refine ⟨_, rfl, sz1, fun q hq => k.done st G2 (fun c hc => .inl ?_) (fun c o ec hc => ?_) hq rfl⟩
        · exact hc
        · rw [upd_ne (fun z => hc (by rw [z]; exact Foot.w))]
          exact ec
      | some y =>
        refine iteF ⟨_, rfl, rfl, fun j hj => ?_⟩
        by_cases e : j = i
        · rw [e]
          exact ⟨y, ho⟩
        · exact hall j (by omega)
    · rintro σ H' ⟨v, rfl, rfl, hall⟩
      rw [none_free (by rw [h4]; exact hall)] at st
      exact ⟨sz1, fun q hq => k.stay (ans := Gk.no 3) st G hq rfl⟩
theorem ok_answer_step (T : Txt P w K mg t) : FnOk P w K mg base CX0 2 t.f_answer_step t.d_answer_step ["ground", "numbers"] (sp_step t) := by
  have G_Ground_address_from : FnOk P w K mg base CX0 1 t.f_Ground_address_from t.d_Ground_address_from ["self", "place"] (sp_address_from t) := ok_address_from T
  refine T.F_answer_step.ok sc_answer_step (fun vs H Q E h => ?_) (fun cdv A outer s H vs Q E hr h => ?_)
  · obtain ⟨z, p, l, g, x, rfl, _⟩ := h
    rfl
  · obtain ⟨wn, p, l, g, x, rfl, G, W, hl, nl, k⟩ := h
    have hu := hu_of hr
    refine ⟨_, (pss_cons (ps_set (i := 2) sc_answer_step.nd rfl (Or.inl rfl) (pe_ix ix_list (pv 1) pe_int (fun _ _ => rfl)))
      (pss_cons (ps_if (pt_cmp (pc_dnotin hu (pv 2) (pe_fld (pv 0) rfl))) (pss_one (ps_ret (pe_lst (pa_cons (pe_glob rfl T.m_WRONG_NUMBER T.r_WRONG_NUMBER) pa_nil)))) pss_nil)
      (pss_cons (ps_set (i := 3) sc_answer_step.nd rfl (Or.inl rfl) (pe_meth (pv 0) T.C_Ground T.H_Ground_address_from G_Ground_address_from hr T.B_Ground_address_from .nil pass0 (pa_cons (pe_dget hu (pe_fld (pv 0) rfl) (pv 2) (fun _ _ => rfl)) pa_nil)))
      (pss_cons (ps_if (pt_cmp (pc_isN (pv 3))) (pss_cons (ps_expr (pe_dpop1 (pe_fld (pv 0) rfl) (pv 2) ⟨rfl, rfl, rfl, rfl⟩))
        (pss_one (ps_ret (pe_lst (pa_cons (pe_glob rfl T.m_NONE_THERE T.r_NONE_THERE) pa_nil))))) pss_nil)
      (pss_cons (ps_dput hu (pe_fld (pv 0) rfl) (pv 2) (pe_op op_add (pv 3) pe_int) rfl)
      (pss_one (ps_ret (pe_lst (pa_cons (pv 3) pa_nil))))))))), ?_⟩
    have st : Gk.step g (.step wn) = (match g.walks.getD wn none with
      | none => (g, Gk.no 1)
      | some p => match g.blocks.find? fun (b : Gk.Block) => decide (p ≤ b.at_) with
        | none => ({ g with walks := g.walks.set wn none }, Gk.no 4)
        | some b => ({ g with walks := g.walks.set wn (some (b.at_ + 1)) }, Gk.says b.at_)) := rfl
    have hv := G.wks.2.2 wn
    refine ⟨_, rfl, l, _, _, _, rfl, rfl, SqL.of hl, at_of (j := 0) rfl rfl, ?_⟩
    cases hw : g.walks.getD wn none with
    | none =>
      rw [hw] at st hv
      refine ⟨_, rfl, _, rfl, p, _, x.dx, _, _, rfl, G.ins, T.C_Ground, T.n_Ground_walks, gdF_walks _ _ _ _ _ _ _, x.wk, none, rfl, .inl ⟨x.wkv, .inl (wn : Int), .inl G.wal, rfl, hv.symm⟩, _, rfl, ?_⟩
      exact iteT ⟨sz1, fun q hq => k.stay (ans := Gk.no 1) st G hq rfl⟩
    | some pl =>
      rw [hw] at st hv
      have hwi : g.walks[wn]? = some (some pl) := by
        rw [List.getD_eq_getElem?_getD] at hw
        cases e : g.walks[wn]? with
        | none => rw [e] at hw; cases hw
        | some o => rw [e] at hw; rw [show o = some pl from hw]
      refine ⟨_, rfl, _, rfl, p, _, x.dx, _, _, rfl, G.ins, T.C_Ground, T.n_Ground_walks, gdF_walks _ _ _ _ _ _ _, x.wk, some (.int (pl : Int)), rfl, .inl ⟨x.wkv, .inl (wn : Int), .inl G.wal, rfl, hv.symm⟩, _, rfl, iteF ?_⟩
      refine ⟨_, rfl, p, x.dx, _, rfl, G.ins, gdF_no_address_from _ _ _ _ _ _ _, _, rfl, p, _, x.dx, _, _, rfl, G.ins, T.C_Ground, T.n_Ground_walks, gdF_walks _ _ _ _ _ _ _, _, rfl, x.wk, .int (pl : Int), rfl, .inl ⟨x.wkv, .inl (wn : Int), .inl G.wal, rfl, hv.symm⟩, p, g, x, pl, rfl, G, W, fun H1 s1 => ?_⟩
      have G1 := G.same s1
      refine ⟨_, rfl, _, rfl, ?_⟩
      cases hf : g.blocks.find? fun (b : Gk.Block) => decide (pl ≤ b.at_) with
      | none =>
        have st : Gk.step g (.step wn) = ({ g with walks := g.walks.set wn none }, Gk.no 4) := by
          rw [st]
          show (match g.blocks.find? fun (b : Gk.Block) => decide (pl ≤ b.at_) with
            | none => _
            | some b => _) = _
          rw [hf]
        refine iteT ?_
        refine ⟨_, rfl, p, _, x.dx, _, _, rfl, G1.ins, T.C_Ground, T.n_Ground_walks, gdF_walks _ _ _ _ _ _ _, x.wk, rfl, .inl ⟨_, .inl G1.wal⟩, _, rfl, x.wkv, .inl (wn : Int), _, G1.wal, rfl, hv, ?_⟩
        have G2 := G1.walked (G.wks.fin hwi)
        refine ⟨sz1, fun q hq => k.done st G2 (fun c hc => .inl hc) (fun c o ec hc => ?_) hq rfl⟩
        rw [upd_ne (fun z => hc (by rw [z]; exact Foot.w))]
        exact s1 _ _ ec
      | some b =>
        have st : Gk.step g (.step wn) = ({ g with walks := g.walks.set wn (some (b.at_ + 1)) }, Gk.says b.at_) := by
          rw [st]
          show (match g.blocks.find? fun (b : Gk.Block) => decide (pl ≤ b.at_) with
            | none => _
            | some b => _) = _
          rw [hf]
        refine iteF ?_
        have hfew := G.wks.few
        have h4 := W.walks
        have big : (4096 : Nat) ≤ sizeLine := by decide
        refine ⟨_, rfl, _, _, rfl, rfl, _, rfl, p, _, x.dx, _, _, rfl, G1.ins, T.C_Ground, T.n_Ground_walks, gdF_walks _ _ _ _ _ _ _, _, rfl, x.wk, _, rfl, DPut.k (k := .inl (wn : Int)) G1.wal (by omega), ?_⟩
        have G2 := G1.walked (G.wks.turn (p' := b.at_ + 1) hwi)
        rw [show ((b.at_ + 1 : Nat) : Int) = ((b.at_ : Int) + 1) by omega] at G2
        refine ⟨_, rfl, sz1, fun q hq => k.done st G2 (fun c hc => .inl hc) (fun c o ec hc => ?_) hq rfl⟩
        rw [upd_ne (fun z => hc (by rw [z]; exact Foot.w))]
        exact s1 _ _ ec
theorem ok_answer_blocks (T : Txt P w K mg t) : FnOk P w K mg base CX0 2 t.f_answer_blocks t.d_answer_blocks ["ground", "numbers"] (sp_blocks t) := by
  have G_Ground_blocks_in_order : FnOk P w K mg base CX0 1 t.f_Ground_blocks_in_order t.d_Ground_blocks_in_order ["self"] (sp_blocks_in_order t) := ok_blocks_in_order T
  refine T.F_answer_blocks.ok sc_answer_blocks (fun vs H Q E h => ?_) (fun cdv A outer s H vs Q E hr h => ?_)
  · obtain ⟨z, p, l, g, x, rfl, _⟩ := h
    rfl
  · obtain ⟨ns, p, l, g, x, rfl, G, W, hl, nl, k⟩ := h
    refine ⟨_, (pss_cons (ps_set (i := 2) sc_answer_blocks.nd rfl (Or.inl rfl) (pe_meth0 (pv 0) T.C_Ground T.H_Ground_blocks_in_order G_Ground_blocks_in_order hr T.B_Ground_blocks_in_order .nil pass0))
      (pss_cons (ps_set (i := 3) sc_answer_blocks.nd rfl (Or.inl rfl) (pe_lst (pa_cons (pe_callB call_len (by rfl) T.b_len PySem.boot_len (pa_cons (pv 2) pa_nil)) pa_nil)))
      (pss_cons (ps_for PassesOwn.never rfl (pi_list (pv 2)) (pg_name (i := 4) sc_answer_blocks.nd rfl (Or.inl rfl))
        (pss_one (ps_expr (pe_bm PySem.F.plainAttrs_list PySem.F.slot_list_extend PySem.F.type_list_extend mt_extend (pv 3) (pa_cons (pe_lst (pa_cons (pe_fld (pv 4) rfl) (pa_cons (pe_fld (pv 4) rfl) (pa_cons (pe_fld (pv 4) rfl) (pa_cons (pe_fld (pv 4) rfl) pa_nil))))) pa_nil)))))
      (pss_one (ps_ret (pv 3)))))), ?_⟩
    have st : Gk.step g .blocks = (g, Gk.ints (g.blocks.length :: g.blocks.flatMap fun (b : Gk.Block) => [b.at_, b.n, b.align, b.group])) := rfl
    refine ⟨_, rfl, p, x.dx, _, rfl, G.ins, gdF_no_blocks_in_order _ _ _ _ _ _ _, p, g, x, rfl, G, W, fun H1 l1 h1 s1 n1 => ?_⟩
    have G1 := G.same s1
    have el : ((x.bs.map fun q => V.ref q.2).length : Int) = (g.blocks.length : Int) := by rw [List.length_map, G.eqb, List.length_map]
    have hlen := G.len W
    have big : (10000 : Nat) < sizeLine := by decide
    refine ⟨_, rfl, _, _, rfl, .inl ⟨_, SqL.of h1, rfl⟩, sz1, fun q hq => ?_⟩
    rw [el]
    have nq : l1 ≠ q := ne_of_none h1 hq
    refine ⟨_, rfl, l1, rfl, ⟨_, SqL.of (by rw [upd_ne nq]; exact h1)⟩, ?_⟩
    refine for_list (K := K) (a := l1) (xs := x.bs.map fun q => V.ref q.2)
      (fun i σ H' => ∃ v : Option V, σ = [some (.ref p), some (.ref l), some (.ref l1), some (.ref q), v] ∧ Same H1 H' ∧ H' q = some (.lst ((Gk.ints (g.blocks.length :: (x.bs.take i).flatMap fun (z : Gk.Block × Addr) => [z.1.at_, z.1.n, z.1.align, z.1.group])).map V.int)))
      ⟨none, rfl, Same.new hq, upd_same⟩ (fun i σ H' _ ⟨_, _, s5, _⟩ => s5.seq (SqL.of h1)) ?_ ?_
    · rintro i y σ H' hi ⟨v, rfl, s5, h5⟩
      obtain ⟨z, hz, rfl⟩ := map_get hi
      obtain ⟨dz, ez⟩ := G1.blk z (List.mem_of_getElem? hz)
      have ez := s5 _ _ ez
      have hi2 := get_lt hz
      have hfl : ((x.bs.take i).flatMap fun (z : Gk.Block × Addr) => [z.1.at_, z.1.n, z.1.align, z.1.group]).length ≤ 4 * 2048 := by
        refine Nat.le_trans (flat_len (m := 4) (fun a => Nat.le_refl _) _) ?_
        rw [List.length_take]
        omega
      refine ⟨_, rfl, .inl ⟨rfl, _, SqL.of h5⟩, _, rfl, z.2, _, dz, _, _, rfl, ez, T.C_Block, T.n_Block_address, bkF_address _ _ _ _, _, rfl, z.2, _, dz, _, _, rfl, ez, T.C_Block, T.n_Block_n, bkF_n _ _ _ _, _, rfl, z.2, _, dz, _, _, rfl, ez, T.C_Block, T.n_Block_alignment, bkF_alignment _ _ _ _, _, rfl, z.2, _, dz, _, _, rfl, ez, T.C_Block, T.n_Block_group, bkF_group _ _ _ _, (by show 4 ≤ sizeLine; decide), fun l6 h6 => ?_⟩
      have n6 : q ≠ l6 := ne_of_none h5 h6
      refine ⟨q, l6, _, _, rfl, rfl, (by rw [upd_ne n6]; exact h5), upd_same, by rw [ints_len, List.length_cons]; show _ + 4 ≤ _; omega, ?_⟩
      refine ⟨_, rfl, fun b o e => ?_, ?_⟩
      · have e' := s5 b o e
        rw [upd_ne (ne_of_none e hq), upd_ne (ne_of_none e' h6)]
        exact e'
      · rw [upd_same, flat_take hz, ← List.cons_append, ints_app]
        rfl
    · rintro σ H' ⟨v, rfl, s5, h5⟩
      rw [List.length_map, List.take_length] at h5
      have s6 := s1.trans s5
      have ef : (x.bs.flatMap fun (z : Gk.Block × Addr) => [z.1.at_, z.1.n, z.1.align, z.1.group]) = g.blocks.flatMap fun (b : Gk.Block) => [b.at_, b.n, b.align, b.group] := by
        rw [G.eqb, List.flatMap_map]
      rw [ef] at h5
      exact ⟨_, rfl, k H' x q (by rw [st]; exact G.same s6) (fun b hb => .inl hb) (fun b o e _ => s6 b o e) (by rw [st]; exact h5) (fun b o e _ => ne_of_none (s1 _ _ e) hq) (ne_of_none (s1 _ _ G.sto) hq).symm⟩
end
end Gp

set_option Elab.async false
set_option linter.all false
set_option maxRecDepth 100000
set_option maxHeartbeats 4000000
/-! A list of calls. -/
namespace Gp
open PySem PySem.Spec PyProof.Rows L2
def sp_end_of_call (K : PySem.W.Frag) : Sp := fun vs H Q _ => ∃ (l : Addr) (ns : List Int) (i : Nat) (p : Int) (k : Nat), vs = [.ref l, .int i] ∧ SqL K H l (ns.map V.int) ∧ ns[i]? = some p ∧ (1 ≤ p ∧ p ≤ 20) ∧ (p ≠ 15 → k = Gk.howMany p) ∧ (p = 15 → ∃ z : Nat, ns[i + 3]? = some (z : Int) ∧ k = 3 + z) ∧
  Q (.int ((i + 1 + k : Nat) : Int)) H
def sp_answer_call (t : Adr) : Sp := fun vs H Q E => ∃ (n : Int) (ns : List Int) (c : Gk.Call) (p l : Addr), Gk.CallIs n ns c ∧ vs = [.ref p, .int n, .ref l] ∧ Ans t c ns [.ref p, .ref l] H Q E
/-- the list that was handed in: it stays as it is -/
def Scr (K : PySem.W.Frag) (H : Hp) (a : Addr) (xs : List V) : Prop := (∃ o, H a = some (.frz o (.lst xs))) ∨
  ∃ (o : Obj) (its : Array Value) (n : Nat), K.lookup a = some o ∧ o.cls = .type "list" ∧ o.dict = none ∧ o.data = .seq its n ∧ its.size ≤ sizeLine ∧ Vals xs its.toList
theorem Scr.sq {K : PySem.W.Frag} {H : Hp} {a : Addr} {xs : List V} (h : Scr K H a xs) : SqL K H a xs := h.elim (fun z => .inl (.inr z)) .inr
theorem Scr.keep {K : PySem.W.Frag} {H H' : Hp} {a : Addr} {xs : List V} (h : Scr K H a xs) (k : ∀ o, H a = some (.frz o (.lst xs)) → H' a = some (.frz o (.lst xs))) : Scr K H' a xs := h.elim (fun ⟨o, e⟩ => .inl ⟨o, k o e⟩) .inr
theorem Scr.same {K : PySem.W.Frag} {H H' : Hp} {a : Addr} {xs : List V} (h : Scr K H a xs) (s : Same H H') : Scr K H' a xs := h.keep fun o e => s _ _ e
theorem GA.outF {t : Adr} {H : Hp} {p : Addr} {g : Gk.Ground} {x : GD} {a : Addr} {o : Obj} {u : HO} (G : GA t H p g x) (h : H a = some (.frz o u)) : ¬ Foot p x a := fun f => by
  rcases f with e | e | e | e | ⟨q, hq, e⟩
  · rw [e, G.ins] at h; cases h
  · rw [e, G.sto] at h; cases h
  · rw [e, G.blo] at h; cases h
  · rw [e, G.wal] at h; cases h
  · obtain ⟨dx, z⟩ := G.blk q hq
    rw [e, z] at h; cases h
def sp_answers (K : PySem.W.Frag) : Sp := fun vs H Q _ => ∃ (a : Addr) (ns : List Int), vs = [.ref a] ∧ Scr K H a (ns.map V.int) ∧ PyWqagay.answers_asked ns = true ∧ ∀ (H' : Hp) (q : Addr), H' q = some (.lst ((PyWqagay.answers ns).map V.int)) → Q (.ref q) H'
theorem how_tab (t : Adr) {p : Int} (h : 1 ≤ p ∧ p ≤ 20) : valV (tab_HOW_MANY_NUMBERS t) (.inl p) = some (.int ((Gk.howMany p : Nat) : Int)) := by
  obtain ⟨n, rfl⟩ : ∃ n : Nat, p = (n : Int) := ⟨p.toNat, by omega⟩
  have hn : 1 ≤ n ∧ n ≤ 20 := by omega
  match n, hn with
  | 1, _ => rfl
  | 2, _ => rfl
  | 3, _ => rfl
  | 4, _ => rfl
  | 5, _ => rfl
  | 6, _ => rfl
  | 7, _ => rfl
  | 8, _ => rfl
  | 9, _ => rfl
  | 10, _ => rfl
  | 11, _ => rfl
  | 12, _ => rfl
  | 13, _ => rfl
  | 14, _ => rfl
  | 15, _ => rfl
  | 16, _ => rfl
  | 17, _ => rfl
  | 18, _ => rfl
  | 19, _ => rfl
  | 20, _ => rfl
theorem at_ints {ns : List Int} {i : Nat} {p : Int} (h : ns[i]? = some p) : (ns.map V.int)[i]? = some (V.int p) := by
  rw [List.getElem?_map, h]
  rfl
theorem cut_ints {ns : List Int} {a k : Nat} (h : a + k ≤ ns.length) : cutV (ns.map V.int) (some (a : Int)) (some ((a + k : Nat) : Int)) = ((ns.drop a).take k).map V.int := by
  unfold cutV
  rw [HT.sIx_nat, HT.sIx_nat, List.length_map, Nat.min_eq_left (show a ≤ ns.length by omega), Nat.min_eq_left h, Nat.add_sub_cancel_left, List.map_take, List.map_drop]
section
variable {P : Program} {w : World} {K : PySem.W.Frag} {mg : Str → Option Value} {base : Heap} {t : Adr}
theorem ok_end_of_call (T : Txt P w K mg t) : FnOk P w K mg base CX0 1 t.f_end_of_call t.d_end_of_call ["calls", "at"] (sp_end_of_call K) := by
  refine T.F_end_of_call.ok sc_end_of_call (fun vs H Q E h => ?_) (fun cdv A outer s H vs Q E hr h => ?_)
  · obtain ⟨l, ns, i, p, k, rfl, _⟩ := h
    rfl
  · obtain ⟨l, ns, i, p, n, rfl, hS, hp, hr20, h5, h6, k⟩ := h
    refine ⟨_, (pss_cons (ps_set (i := 2) sc_end_of_call.nd rfl (Or.inl rfl) (pe_op op_add (pe_op op_add (pv 1) pe_int) (pe_kget (pe_glob (v := .ref t.a_HOW_MANY_NUMBERS) rfl T.m_HOW_MANY_NUMBERS rfl) (pe_ix ix_list (pv 0) (pv 1) (fun _ _ => rfl)) (fun _ _ => rfl))))
      (pss_cons (ps_if (pt_cmpR op_eq (pe_ix ix_list (pv 0) (pv 1) (fun _ _ => rfl)) (pe_glob rfl T.m_WRITE T.r_WRITE) (nomark _)) (pss_one (ps_ret (pe_op op_add (pv 2) (pe_ix ix_list (pv 0) (pe_op op_sub (pv 2) pe_int) (fun _ _ => rfl))))) pss_nil)
      (pss_one (ps_ret (pv 2))))), ?_⟩
    refine ⟨_, rfl, _, _, rfl, rfl, _, rfl, _, rfl, l, _, _, _, rfl, rfl, hS, atI_nat (at_ints hp), t.a_HOW_MANY_NUMBERS, tab_HOW_MANY_NUMBERS t, .inl p, _, rfl, T.t_HOW_MANY_NUMBERS, rfl, how_tab t hr20, _, _, rfl, rfl, ?_⟩
    refine ⟨_, rfl, _, rfl, l, _, _, _, rfl, rfl, hS, atI_nat (at_ints hp), rfl, _, rfl, ?_⟩
    by_cases e : p = 15
    · obtain ⟨z, hz, hk⟩ := h6 e
      subst e
      refine iteDT rfl ?_
      refine ⟨_, rfl, _, rfl, _, rfl, _, _, rfl, rfl, l, _, _, _, rfl, rfl, hS, at_of (j := i + 3) (show ((i : Int) + 1 + ((3 : Nat) : Int) - 1) = ((i + 3 : Nat) : Int) by omega) (at_ints hz), _, _, rfl, rfl, ?_⟩
      rw [hk, show ((i + 1 + (3 + z) : Nat) : Int) = ((i : Int) + 1 + ((3 : Nat) : Int)) + (z : Int) by omega] at k
      exact k
    · refine iteDF (fun q => e (V.int.inj q)) ?_
      rw [h5 e, show ((i + 1 + Gk.howMany p : Nat) : Int) = (i : Int) + 1 + ((Gk.howMany p : Nat) : Int) by omega] at k
      exact ⟨_, rfl, k⟩
theorem ok_answer_call (T : Txt P w K mg t) : FnOk P w K mg base CX0 8 t.f_answer_call t.d_answer_call ["ground", "number", "numbers"] (sp_answer_call t) := by
  refine T.F_answer_call.ok sc_answer_call (fun vs H Q E h => ?_) (fun cdv A outer s H vs Q E hr h => ?_)
  · obtain ⟨n, ns, c, p, l, _, rfl, _⟩ := h
    rfl
  · obtain ⟨n, ns, c, p, l, hc, rfl, hA⟩ := h
    refine ⟨_, (pss_one (ps_ret (pe_callV (pe_kget (pe_glob (v := .ref t.a_CALLS) rfl T.m_CALLS rfl) (pv 1) (fun _ _ => rfl)) (pa_cons (pv 0) (pa_cons (pv 2) pa_nil))))), ?_⟩
    cases hc with
    | open_ a b => exact ⟨_, rfl, t.a_CALLS, tab_CALLS t, .inl 1, .ref t.f_answer_open, rfl, T.t_CALLS, rfl, rfl, t.f_answer_open, t.d_answer_open, _, _, 2, rfl, ok_answer_open T, hr.mono (by decide), T.F_answer_open.kp, T.B_answer_open, _, rfl, _, rfl, a, b, hA⟩
    | take a b => exact ⟨_, rfl, t.a_CALLS, tab_CALLS t, .inl 2, .ref t.f_answer_take, rfl, T.t_CALLS, rfl, rfl, t.f_answer_take, t.d_answer_take, _, _, 6, rfl, ok_answer_take T, hr.mono (by decide), T.F_answer_take.kp, T.B_answer_take, _, rfl, _, rfl, a, b, hA⟩
    | zero a b => exact ⟨_, rfl, t.a_CALLS, tab_CALLS t, .inl 3, .ref t.f_answer_zero, rfl, T.t_CALLS, rfl, rfl, t.f_answer_zero, t.d_answer_zero, _, _, 7, rfl, ok_answer_zero T, hr.mono (by decide), T.F_answer_zero.kp, T.B_answer_zero, _, rfl, _, rfl, a, b, hA⟩
    | resize a b => exact ⟨_, rfl, t.a_CALLS, tab_CALLS t, .inl 4, .ref t.f_answer_resize, rfl, T.t_CALLS, rfl, rfl, t.f_answer_resize, t.d_answer_resize, _, _, 7, rfl, ok_answer_resize T, hr.mono (by decide), T.F_answer_resize.kp, T.B_answer_resize, _, rfl, _, rfl, a, b, hA⟩
    | give a => exact ⟨_, rfl, t.a_CALLS, tab_CALLS t, .inl 5, .ref t.f_answer_give, rfl, T.t_CALLS, rfl, rfl, t.f_answer_give, t.d_answer_give, _, _, 1, rfl, ok_answer_give T, hr.mono (by decide), T.F_answer_give.kp, T.B_answer_give, _, rfl, _, rfl, a, hA⟩
    | size a => exact ⟨_, rfl, t.a_CALLS, tab_CALLS t, .inl 6, .ref t.f_answer_size, rfl, T.t_CALLS, rfl, rfl, t.f_answer_size, t.d_answer_size, _, _, 1, rfl, ok_answer_size T, hr.mono (by decide), T.F_answer_size.kp, T.B_answer_size, _, rfl, _, rfl, a, hA⟩
    | of a => exact ⟨_, rfl, t.a_CALLS, tab_CALLS t, .inl 7, .ref t.f_answer_of, rfl, T.t_CALLS, rfl, rfl, t.f_answer_of, t.d_answer_of, _, _, 3, rfl, ok_answer_of T, hr.mono (by decide), T.F_answer_of.kp, T.B_answer_of, _, rfl, _, rfl, a, hA⟩
    | next a => exact ⟨_, rfl, t.a_CALLS, tab_CALLS t, .inl 8, .ref t.f_answer_next, rfl, T.t_CALLS, rfl, rfl, t.f_answer_next, t.d_answer_next, _, _, 2, rfl, ok_answer_next T, hr.mono (by decide), T.F_answer_next.kp, T.B_answer_next, _, rfl, _, rfl, a, hA⟩
    | most a => exact ⟨_, rfl, t.a_CALLS, tab_CALLS t, .inl 9, .ref t.f_answer_most, rfl, T.t_CALLS, rfl, rfl, t.f_answer_most, t.d_answer_most, _, _, 5, rfl, ok_answer_most T, hr.mono (by decide), T.F_answer_most.kp, T.B_answer_most, _, rfl, _, rfl, a, hA⟩
    | rows => exact ⟨_, rfl, t.a_CALLS, tab_CALLS t, .inl 10, .ref t.f_answer_rows, rfl, T.t_CALLS, rfl, rfl, t.f_answer_rows, t.d_answer_rows, _, _, 5, rfl, ok_answer_rows T, hr.mono (by decide), T.F_answer_rows.kp, T.B_answer_rows, _, rfl, _, rfl, _, hA⟩
    | enter => exact ⟨_, rfl, t.a_CALLS, tab_CALLS t, .inl 11, .ref t.f_answer_enter, rfl, T.t_CALLS, rfl, rfl, t.f_answer_enter, t.d_answer_enter, _, _, 1, rfl, ok_answer_enter T, hr.mono (by decide), T.F_answer_enter.kp, T.B_answer_enter, _, rfl, _, rfl, _, hA⟩
    | leave => exact ⟨_, rfl, t.a_CALLS, tab_CALLS t, .inl 12, .ref t.f_answer_leave, rfl, T.t_CALLS, rfl, rfl, t.f_answer_leave, t.d_answer_leave, _, _, 3, rfl, ok_answer_leave T, hr.mono (by decide), T.F_answer_leave.kp, T.B_answer_leave, _, rfl, _, rfl, _, hA⟩
    | keep a => exact ⟨_, rfl, t.a_CALLS, tab_CALLS t, .inl 13, .ref t.f_answer_keep, rfl, T.t_CALLS, rfl, rfl, t.f_answer_keep, t.d_answer_keep, _, _, 1, rfl, ok_answer_keep T, hr.mono (by decide), T.F_answer_keep.kp, T.B_answer_keep, _, rfl, _, rfl, a, hA⟩
    | counts => exact ⟨_, rfl, t.a_CALLS, tab_CALLS t, .inl 14, .ref t.f_answer_counts, rfl, T.t_CALLS, rfl, rfl, t.f_answer_counts, t.d_answer_counts, _, _, 3, rfl, ok_answer_counts T, hr.mono (by decide), T.F_answer_counts.kp, T.B_answer_counts, _, rfl, _, rfl, _, hA⟩
    | write a b ws => exact ⟨_, rfl, t.a_CALLS, tab_CALLS t, .inl 15, .ref t.f_answer_write, rfl, T.t_CALLS, rfl, rfl, t.f_answer_write, t.d_answer_write, _, _, 2, rfl, ok_answer_write T, hr.mono (by decide), T.F_answer_write.kp, T.B_answer_write, _, rfl, _, rfl, a, b, ws, hA⟩
    | read a b c => exact ⟨_, rfl, t.a_CALLS, tab_CALLS t, .inl 16, .ref t.f_answer_read, rfl, T.t_CALLS, rfl, rfl, t.f_answer_read, t.d_answer_read, _, _, 2, rfl, ok_answer_read T, hr.mono (by decide), T.F_answer_read.kp, T.B_answer_read, _, rfl, _, rfl, a, b, c, hA⟩
    | pack => exact ⟨_, rfl, t.a_CALLS, tab_CALLS t, .inl 17, .ref t.f_answer_pack, rfl, T.t_CALLS, rfl, rfl, t.f_answer_pack, t.d_answer_pack, _, _, 4, rfl, ok_answer_pack T, hr.mono (by decide), T.F_answer_pack.kp, T.B_answer_pack, _, rfl, _, rfl, _, hA⟩
    | walk a => exact ⟨_, rfl, t.a_CALLS, tab_CALLS t, .inl 18, .ref t.f_answer_walk, rfl, T.t_CALLS, rfl, rfl, t.f_answer_walk, t.d_answer_walk, _, _, 1, rfl, ok_answer_walk T, hr.mono (by decide), T.F_answer_walk.kp, T.B_answer_walk, _, rfl, _, rfl, a, hA⟩
    | step a => exact ⟨_, rfl, t.a_CALLS, tab_CALLS t, .inl 19, .ref t.f_answer_step, rfl, T.t_CALLS, rfl, rfl, t.f_answer_step, t.d_answer_step, _, _, 2, rfl, ok_answer_step T, hr.mono (by decide), T.F_answer_step.kp, T.B_answer_step, _, rfl, _, rfl, a, hA⟩
    | blocks => exact ⟨_, rfl, t.a_CALLS, tab_CALLS t, .inl 20, .ref t.f_answer_blocks, rfl, T.t_CALLS, rfl, rfl, t.f_answer_blocks, t.d_answer_blocks, _, _, 2, rfl, ok_answer_blocks T, hr.mono (by decide), T.F_answer_blocks.kp, T.B_answer_blocks, _, rfl, _, rfl, _, hA⟩
theorem ok_answers (T : Txt P w K mg t) : FnOk P w K mg base CX0 9 t.f_answers t.d_answers ["calls"] (sp_answers K) := by
  have G_Ground_init : FnOk P w K mg base CX0 2 t.f_Ground_init t.d_Ground_init ["self"] (sp_Ground_init t) := ok_Ground_init T
  have G_end_of_call : FnOk P w K mg base CX0 1 t.f_end_of_call t.d_end_of_call ["calls", "at"] (sp_end_of_call K) := ok_end_of_call T
  have G_answer_call : FnOk P w K mg base CX0 8 t.f_answer_call t.d_answer_call ["ground", "number", "numbers"] (sp_answer_call t) := ok_answer_call T
  refine T.F_answers.ok sc_answers (fun vs H Q E h => ?_) (fun cdv A outer s H vs Q E hr h => ?_)
  · obtain ⟨a, ns, rfl, _⟩ := h
    rfl
  · obtain ⟨l, ns, rfl, hS, hask, k⟩ := h
    refine ⟨_, (pss_cons (ps_set (i := 1) sc_answers.nd rfl (Or.inl rfl) (pe_make0 T.K_Ground G_Ground_init (hr.mono (by decide : 3 ≤ 8)) rfl T.m_Ground T.B_Ground_init .nil pass0))
      (pss_cons (ps_set (i := 2) sc_answers.nd rfl (Or.inl rfl) (pe_lst pa_nil))
      (pss_cons (ps_set (i := 3) sc_answers.nd rfl (Or.inl rfl) pe_int)
      (pss_cons (ps_while PassesOwn.never (pt_cmpR op_lt (pv 3) (pe_callB call_len (by rfl) T.b_len PySem.boot_len (pa_cons (pv 0) pa_nil)) (nomark _))
        (pss_cons (ps_set (i := 4) sc_answers.nd rfl (Or.inl rfl) (pe_call G_end_of_call (hr.mono (by decide : 1 ≤ 8)) rfl T.m_end_of_call T.F_end_of_call.kp T.B_end_of_call .nil pass0 (pa_cons (pv 0) (pa_cons (pv 3) pa_nil))))
        (pss_cons (ps_set (i := 5) sc_answers.nd rfl (Or.inl rfl) (pe_call G_answer_call hr rfl T.m_answer_call T.F_answer_call.kp T.B_answer_call .nil pass0 (pa_cons (pv 1) (pa_cons (pe_ix ix_list (pv 0) (pv 3) (fun _ _ => rfl)) (pa_cons (pe_slice sl_list (pv 0) (po_some (pe_op op_add (pv 3) pe_int)) (po_some (pv 4))) pa_nil)))))
        (pss_cons (ps_expr (pe_bm PySem.F.plainAttrs_list PySem.F.slot_list_append PySem.F.type_list_append mt_append (pv 2) (pa_cons (pe_callB call_len (by rfl) T.b_len PySem.boot_len (pa_cons (pv 5) pa_nil)) pa_nil)))
        (pss_cons (ps_expr (pe_bm PySem.F.plainAttrs_list PySem.F.slot_list_extend PySem.F.type_list_extend mt_extend (pv 2) (pa_cons (pv 5) pa_nil)))
        (pss_one (ps_set (i := 3) sc_answers.nd rfl (Or.inl rfl) (pv 4))))))))
      (pss_one (ps_ret (pv 2))))))), ?_⟩
    obtain ⟨cs0, L0⟩ := Gk.left_start hask
    have big : (9000 * 400 : Nat) ≤ sizeLine := by decide
    intro p dx np ndx nex
    refine ⟨p, dx, rfl, upd_same, fun H1 x1 G1 ft1 fr1 => ⟨rfl, ?_⟩⟩
    have s1 : Same H H1 := Same.made np ndx fr1
    refine ⟨Nat.zero_le _, fun gv hgv => ?_⟩
    refine ⟨fun m σ H' => ∃ (i : Nat) (v4 v5 : Option V) (g : Gk.Ground) (x : GD) (outs : List Int) (cs : List (List (List Int))), m = ns.length - i ∧ σ = [some (.ref l), some (.ref p), some (.ref gv), some (.int i), v4, v5] ∧
        Scr K H' l (ns.map V.int) ∧ GA t H' p g x ∧ Gk.Wf g ∧ H' gv = some (.lst (outs.map V.int)) ∧ ¬ Foot p x gv ∧ Gk.Left ns i g outs cs, ⟨ns.length - 0, 0, none, none, Gk.start, x1, [], cs0, rfl, rfl, ?_, ?_, Gk.wf_start, upd_same, G1.out hgv, L0⟩, ?_⟩
    · exact hS.same (s1.trans (Same.new hgv))
    · exact G1.same (Same.new hgv)
    rintro m σ H' ⟨i, v4, v5, g, x, outs, cs, rfl, rfl, hS', G, W, hg', nfg, L⟩
    refine ⟨_, rfl, _, rfl, _, _, rfl, .inl ⟨_, hS'.sq, rfl⟩, _, _, rfl, rfl, _, rfl, ite2 (fun hc => ?_) fun hc => ?_⟩
    · have hc : (i : Int) < ((ns.map V.int).length : Int) := of_decide_eq_true hc
      rw [List.length_map] at hc
      have hlt : i < ns.length := by omega
      obtain ⟨c, hcp⟩ : ∃ c, ns[i]? = some c := ⟨_, List.getElem?_eq_getElem hlt⟩
      obtain ⟨n, gc, cs', hle, hCI, L', h5, h6, r1, r2, hfew⟩ := Gk.left_turn W L hcp
      have hal := Gk.ans_len W gc
      refine ⟨fun σ' H'' => ∃ m', m' < ns.length - i ∧ ∃ (i : Nat) (v4 v5 : Option V) (g : Gk.Ground) (x : GD) (outs : List Int) (cs : List (List (List Int))), m' = ns.length - i ∧ σ' = [some (.ref l), some (.ref p), some (.ref gv), some (.int i), v4, v5] ∧
        Scr K H'' l (ns.map V.int) ∧ GA t H'' p g x ∧ Gk.Wf g ∧ H'' gv = some (.lst (outs.map V.int)) ∧ ¬ Foot p x gv ∧ Gk.Left ns i g outs cs, fun _ _ z => z, ?_⟩
      refine ⟨_, rfl, _, rfl, l, ns, i, c, n, rfl, hS'.sq, hcp, ⟨r1, r2⟩, h5, h6, ?_⟩
      refine ⟨_, rfl, _, rfl, _, rfl, l, _, _, _, rfl, rfl, hS'.sq, atI_nat (at_ints hcp), _, rfl, _, rfl, _, _, rfl, rfl, _, rfl, _, rfl, _, rfl, l, _, rfl, hS'.sq, fun l2 hl2 => ?_⟩
      have ecut : cutV (ns.map V.int) (some ((i : Int) + 1)) (some ((i + 1 + n : Nat) : Int)) = ((ns.drop (i + 1)).take n).map V.int := cut_ints (a := i + 1) (k := n) hle
      rw [ecut]
      have s2 : Same H' (upd H' l2 (.lst (((ns.drop (i + 1)).take n).map V.int))) := Same.new hl2
      have G2 := G.same s2
      refine ⟨c, _, gc, p, l2, hCI, rfl, p, l2, g, x, rfl, G2, W, upd_same, (ne_of_none G.sto hl2).symm, fun H3 x3 q3 G3 ft3 fr3 hq3 fq3 nq3 => ?_⟩
      have hg3 := fr3 _ _ (s2 _ _ hg') nfg
      have ngq : gv ≠ q3 := fq3 _ _ (s2 _ _ hg') nfg
      have nfg3 : ¬ Foot p x3 gv := fun z => by
        rcases ft3 gv z with z | z
        · exact nfg z
        · rw [s2 _ _ hg'] at z
          cases z
      refine ⟨_, rfl, .inl ⟨rfl, _, SqL.of hg3⟩, _, rfl, _, _, rfl, .inl ⟨_, SqL.of hq3, rfl⟩, gv, _, _, rfl, rfl, hg3, by rw [List.length_map]; omega, ?_⟩
      have hq4 : upd H3 gv (.lst (outs.map V.int ++ [V.int (((Gk.step g gc).2.map V.int).length : Int)])) q3 = some (.lst ((Gk.step g gc).2.map V.int)) := by
        rw [upd_ne ngq.symm]
        exact hq3
      refine ⟨_, rfl, .inl ⟨rfl, _, SqL.of upd_same⟩, _, rfl, gv, q3, _, _, rfl, rfl, upd_same, hq4, by rw [List.length_append, List.length_map, List.length_map]; show outs.length + 1 + _ ≤ _; omega, ?_⟩
      refine ⟨_, rfl, ns.length - (i + 1 + n), by omega, i + 1 + n, _, _, (Gk.step g gc).1, x3, outs ++ (((Gk.step g gc).2.length : Int) :: (Gk.step g gc).2), cs', rfl, rfl, ?_, ?_, Gk.step_wf W gc, ?_, nfg3, L'⟩
      · refine hS'.keep fun o e => ?_
        have e2 := s2 _ _ e
        have e3 := fr3 _ _ e2 (G2.outF e2)
        have ne : l ≠ gv := ne_of e hg' (by intro z; cases z)
        rw [upd_ne ne, upd_ne ne]
        exact e3
      · refine G3.keep fun b o hb e => ?_
        have ne : b ≠ gv := fun z => nfg3 (by rw [← z]; exact hb)
        rw [upd_ne ne, upd_ne ne]
        exact e
      · rw [upd_same, List.map_append, List.map_cons, List.length_map, List.append_assoc]
        rfl
    · have hc : ¬ (i : Int) < ((ns.map V.int).length : Int) := fun z => hc (decide_eq_true z)
      rw [List.length_map] at hc
      have e := Gk.left_end L (by omega)
      refine ⟨_, rfl, k H' gv ?_⟩
      rw [e]
      exact hg'
end
end Gp

set_option Elab.async false
set_option linter.all false
set_option maxRecDepth 100000
set_option maxHeartbeats 4000000
/-! What the top has written, and the row's head. -/
namespace Gp
open PySem PySem.Spec PyProof.Rows L2
/-- a table's entries: ints as keys -/
inductive TabE : List DictEntry → List (Int × V) → Prop
  | nil : TabE [] []
  | cons {k hs : Int} {tk : Tok} {v : V} {u : Value} {es : List DictEntry} {l : List (Int × V)} : RelV v u → hs = hashInt k → TabE es l → TabE (⟨hs, .int k tk, u⟩ :: es) ((k, v) :: l)
theorem TabE.keys {P : Program} {w : World} {es : List DictEntry} {l : List (Int × V)} (h : TabE es l) : ∀ e ∈ es, ∃ k, (mixKind P w).is k e.key = true ∧ e.hash = (mixKind P w).hash k := by
  induction h with
  | nil => exact fun e he => by simp at he
  | @cons k hs tk v u es l r hh _ ih =>
    intro e he
    rcases List.mem_cons.mp he with q | q
    · rw [q]
      exact ⟨.inl k, keyIs_int k tk, hh⟩
    · exact ih e q
theorem TabE.pairs {P : Program} {w : World} {es : List DictEntry} {l : List (Int × V)} (h : TabE es l) : ∃ vs, Pairs (mixKind P w) es vs ∧ vs.map (·.1) = l.map (fun q => (Sum.inl q.1 : Key)) ∧ KV (l.map fun q => ((Sum.inl q.1 : Key), q.2)) vs := by
  induction h with
  | nil => exact ⟨[], .nil, rfl, .nil⟩
  | @cons k hs tk v u es l r hh _ ih =>
    obtain ⟨vs, h1, h2, h3⟩ := ih
    exact ⟨(.inl k, u) :: vs, .cons (keyIs_int k tk) rfl h1, by rw [List.map_cons, List.map_cons, h2], .cons ⟨rfl, r⟩ h3⟩
theorem ktab_mk {P : Program} {w : World} {K : PySem.W.Frag} {a : Addr} {es : List DictEntry} {ep : Nat} {l : List (Int × V)} (lk : K.lookup a = some ⟨.type "dict", none, .dict es.toArray ep, #[]⟩) (te : TabE es l) (nd : (l.map (·.1)).Nodup) : KTab P w K a (l.map fun q => (.inl q.1, q.2)) := by
  obtain ⟨vs, h1, h2, h3⟩ := te.pairs (P := P) (w := w)
  refine ⟨_, es.toArray, ep, vs, lk, ⟨rfl, rfl, rfl⟩, rfl, fun e he => te.keys e (by simpa using he), h1, ?_, h3⟩
  rw [h2]
  have e : (l.map fun q => (Sum.inl q.1 : Key)) = (l.map (·.1)).map Sum.inl := by rw [List.map_map]; rfl
  rw [e]
  exact List.Pairwise.map _ (fun a b h z => h (Sum.inl.inj z)) nd
theorem ktup_mk {K : PySem.W.Frag} {a : Addr} {od : Option Addr} {its : List Value} {n : Nat} {sl : Array (Option Value)} {xs : List V} (lk : K.lookup a = some ⟨.type "tuple", od, .seq its.toArray n, sl⟩) (hs : its.length ≤ sizeLine) (hv : Vals xs its) : KTup K a xs := ⟨_, its.toArray, n, lk, rfl, rfl, by rw [List.size_toArray]; exact hs, hv⟩
theorem ri {k : Int} {tk : Tok} : RelV (.int k) (.int k tk) := ⟨tk, rfl⟩
theorem rr {a : Addr} : RelV (.ref a) (.ref a) := rfl
theorem all_mk {P : Program} {w : World} {K : PySem.W.Frag} {h : Heap} {mg : Str → Option Value} {fa : Addr} (X : K.In h) (G : h.Ns mainGlobals mg) (hfa : mg "answers" = some (.ref fa))
    {c_Block f_Block_init c_Row f_Row_init c_Ground f_Ground_init f_reach_of f_place_behind f_row_length f_rows_between f_least_multiple f_least_in_row f_greatest_in_row f_least_address f_greatest_address f_rows_that_fit f_rows_to_try f_choose_address f_answer_open f_answer_take f_answer_zero f_address_resized f_answer_resize f_answer_give f_answer_size f_answer_of f_answer_next f_answer_most f_answer_rows f_answer_enter f_answer_leave f_answer_keep f_answer_counts f_has_bytes f_answer_write f_answer_read f_answer_pack f_answer_walk f_answer_step f_answer_blocks f_answer_call f_Ground_begin f_Ground_blocks_in_order f_Ground_innermost_blocks f_Ground_address_from f_Ground_rows f_Ground_rows_without f_Ground_settle f_Ground_bytes_from f_Ground_put f_Ground_pack f_end_of_call f_answers a_CALLS a_HOW_MANY_NUMBERS a_ALIGNMENTS : Addr} {d_Block_init d_reach_of d_place_behind d_Row_init d_row_length d_rows_between d_least_multiple d_least_in_row d_greatest_in_row d_least_address d_greatest_address d_rows_that_fit d_rows_to_try d_choose_address d_answer_open d_answer_take d_answer_zero d_address_resized d_answer_resize d_answer_give d_answer_size d_answer_of d_answer_next d_answer_most d_answer_rows d_answer_enter d_answer_leave d_answer_keep d_answer_counts d_has_bytes d_answer_write d_answer_read d_answer_pack d_answer_walk d_answer_step d_answer_blocks d_answer_call d_Ground_init d_Ground_begin d_Ground_blocks_in_order d_Ground_innermost_blocks d_Ground_address_from d_Ground_rows d_Ground_rows_without d_Ground_settle d_Ground_bytes_from d_Ground_put d_Ground_pack d_end_of_call d_answers : FuncData} {k_GREATEST_ADDRESS k_SHORTEST_ROW k_LONGEST_ROW k_BEHIND_MARK k_LAST_RULE k_WRONG_NUMBER k_NO_BLOCK k_NO_ROOM k_NONE_THERE k_MOST_PLACES k_GREATEST_DEPTH k_MOST_WALKS k_FIRST_SIZE k_FIRST_RULE k_WRITE : Tok}
    (a_Block : PySem.W.nsIn K mainGlobals "Block" = some (some (.ref c_Block)))
    (C_Block : Cls K c_Block)
    (K_Block : Mk K c_Block f_Block_init)
    (n_Block_address : PySem.W.findIn K (.ref c_Block) "address" = some none)
    (n_Block_n : PySem.W.findIn K (.ref c_Block) "n" = some none)
    (n_Block_alignment : PySem.W.findIn K (.ref c_Block) "alignment" = some none)
    (n_Block_group : PySem.W.findIn K (.ref c_Block) "group" = some none)
    (a_Row : PySem.W.nsIn K mainGlobals "Row" = some (some (.ref c_Row)))
    (C_Row : Cls K c_Row)
    (K_Row : Mk K c_Row f_Row_init)
    (n_Row_first : PySem.W.findIn K (.ref c_Row) "first" = some none)
    (n_Row_end : PySem.W.findIn K (.ref c_Row) "end" = some none)
    (a_Ground : PySem.W.nsIn K mainGlobals "Ground" = some (some (.ref c_Ground)))
    (C_Ground : Cls K c_Ground)
    (K_Ground : Mk K c_Ground f_Ground_init)
    (n_Ground_size : PySem.W.findIn K (.ref c_Ground) "size" = some none)
    (n_Ground_rule : PySem.W.findIn K (.ref c_Ground) "rule" = some none)
    (n_Ground_store : PySem.W.findIn K (.ref c_Ground) "store" = some none)
    (n_Ground_blocks : PySem.W.findIn K (.ref c_Ground) "blocks" = some none)
    (n_Ground_depth : PySem.W.findIn K (.ref c_Ground) "depth" = some none)
    (n_Ground_mark : PySem.W.findIn K (.ref c_Ground) "mark" = some none)
    (n_Ground_walks : PySem.W.findIn K (.ref c_Ground) "walks" = some none)
    (F_Block_init : Fun K "__init__" "Block.__init__" s_Block_init f_Block_init d_Block_init)
    (a_reach_of : PySem.W.nsIn K mainGlobals "reach_of" = some (some (.ref f_reach_of)))
    (F_reach_of : Fun K "reach_of" "reach_of" s_reach_of f_reach_of d_reach_of)
    (a_place_behind : PySem.W.nsIn K mainGlobals "place_behind" = some (some (.ref f_place_behind)))
    (F_place_behind : Fun K "place_behind" "place_behind" s_place_behind f_place_behind d_place_behind)
    (F_Row_init : Fun K "__init__" "Row.__init__" s_Row_init f_Row_init d_Row_init)
    (a_row_length : PySem.W.nsIn K mainGlobals "row_length" = some (some (.ref f_row_length)))
    (F_row_length : Fun K "row_length" "row_length" s_row_length f_row_length d_row_length)
    (a_rows_between : PySem.W.nsIn K mainGlobals "rows_between" = some (some (.ref f_rows_between)))
    (F_rows_between : Fun K "rows_between" "rows_between" s_rows_between f_rows_between d_rows_between)
    (a_least_multiple : PySem.W.nsIn K mainGlobals "least_multiple" = some (some (.ref f_least_multiple)))
    (F_least_multiple : Fun K "least_multiple" "least_multiple" s_least_multiple f_least_multiple d_least_multiple)
    (a_least_in_row : PySem.W.nsIn K mainGlobals "least_in_row" = some (some (.ref f_least_in_row)))
    (F_least_in_row : Fun K "least_in_row" "least_in_row" s_least_in_row f_least_in_row d_least_in_row)
    (a_greatest_in_row : PySem.W.nsIn K mainGlobals "greatest_in_row" = some (some (.ref f_greatest_in_row)))
    (F_greatest_in_row : Fun K "greatest_in_row" "greatest_in_row" s_greatest_in_row f_greatest_in_row d_greatest_in_row)
    (a_least_address : PySem.W.nsIn K mainGlobals "least_address" = some (some (.ref f_least_address)))
    (F_least_address : Fun K "least_address" "least_address" s_least_address f_least_address d_least_address)
    (a_greatest_address : PySem.W.nsIn K mainGlobals "greatest_address" = some (some (.ref f_greatest_address)))
    (F_greatest_address : Fun K "greatest_address" "greatest_address" s_greatest_address f_greatest_address d_greatest_address)
    (a_rows_that_fit : PySem.W.nsIn K mainGlobals "rows_that_fit" = some (some (.ref f_rows_that_fit)))
    (F_rows_that_fit : Fun K "rows_that_fit" "rows_that_fit" s_rows_that_fit f_rows_that_fit d_rows_that_fit)
    (a_rows_to_try : PySem.W.nsIn K mainGlobals "rows_to_try" = some (some (.ref f_rows_to_try)))
    (F_rows_to_try : Fun K "rows_to_try" "rows_to_try" s_rows_to_try f_rows_to_try d_rows_to_try)
    (a_choose_address : PySem.W.nsIn K mainGlobals "choose_address" = some (some (.ref f_choose_address)))
    (F_choose_address : Fun K "choose_address" "choose_address" s_choose_address f_choose_address d_choose_address)
    (a_answer_open : PySem.W.nsIn K mainGlobals "answer_open" = some (some (.ref f_answer_open)))
    (F_answer_open : Fun K "answer_open" "answer_open" s_answer_open f_answer_open d_answer_open)
    (a_answer_take : PySem.W.nsIn K mainGlobals "answer_take" = some (some (.ref f_answer_take)))
    (F_answer_take : Fun K "answer_take" "answer_take" s_answer_take f_answer_take d_answer_take)
    (a_answer_zero : PySem.W.nsIn K mainGlobals "answer_zero" = some (some (.ref f_answer_zero)))
    (F_answer_zero : Fun K "answer_zero" "answer_zero" s_answer_zero f_answer_zero d_answer_zero)
    (a_address_resized : PySem.W.nsIn K mainGlobals "address_resized" = some (some (.ref f_address_resized)))
    (F_address_resized : Fun K "address_resized" "address_resized" s_address_resized f_address_resized d_address_resized)
    (a_answer_resize : PySem.W.nsIn K mainGlobals "answer_resize" = some (some (.ref f_answer_resize)))
    (F_answer_resize : Fun K "answer_resize" "answer_resize" s_answer_resize f_answer_resize d_answer_resize)
    (a_answer_give : PySem.W.nsIn K mainGlobals "answer_give" = some (some (.ref f_answer_give)))
    (F_answer_give : Fun K "answer_give" "answer_give" s_answer_give f_answer_give d_answer_give)
    (a_answer_size : PySem.W.nsIn K mainGlobals "answer_size" = some (some (.ref f_answer_size)))
    (F_answer_size : Fun K "answer_size" "answer_size" s_answer_size f_answer_size d_answer_size)
    (a_answer_of : PySem.W.nsIn K mainGlobals "answer_of" = some (some (.ref f_answer_of)))
    (F_answer_of : Fun K "answer_of" "answer_of" s_answer_of f_answer_of d_answer_of)
    (a_answer_next : PySem.W.nsIn K mainGlobals "answer_next" = some (some (.ref f_answer_next)))
    (F_answer_next : Fun K "answer_next" "answer_next" s_answer_next f_answer_next d_answer_next)
    (a_answer_most : PySem.W.nsIn K mainGlobals "answer_most" = some (some (.ref f_answer_most)))
    (F_answer_most : Fun K "answer_most" "answer_most" s_answer_most f_answer_most d_answer_most)
    (a_answer_rows : PySem.W.nsIn K mainGlobals "answer_rows" = some (some (.ref f_answer_rows)))
    (F_answer_rows : Fun K "answer_rows" "answer_rows" s_answer_rows f_answer_rows d_answer_rows)
    (a_answer_enter : PySem.W.nsIn K mainGlobals "answer_enter" = some (some (.ref f_answer_enter)))
    (F_answer_enter : Fun K "answer_enter" "answer_enter" s_answer_enter f_answer_enter d_answer_enter)
    (a_answer_leave : PySem.W.nsIn K mainGlobals "answer_leave" = some (some (.ref f_answer_leave)))
    (F_answer_leave : Fun K "answer_leave" "answer_leave" s_answer_leave f_answer_leave d_answer_leave)
    (a_answer_keep : PySem.W.nsIn K mainGlobals "answer_keep" = some (some (.ref f_answer_keep)))
    (F_answer_keep : Fun K "answer_keep" "answer_keep" s_answer_keep f_answer_keep d_answer_keep)
    (a_answer_counts : PySem.W.nsIn K mainGlobals "answer_counts" = some (some (.ref f_answer_counts)))
    (F_answer_counts : Fun K "answer_counts" "answer_counts" s_answer_counts f_answer_counts d_answer_counts)
    (a_has_bytes : PySem.W.nsIn K mainGlobals "has_bytes" = some (some (.ref f_has_bytes)))
    (F_has_bytes : Fun K "has_bytes" "has_bytes" s_has_bytes f_has_bytes d_has_bytes)
    (a_answer_write : PySem.W.nsIn K mainGlobals "answer_write" = some (some (.ref f_answer_write)))
    (F_answer_write : Fun K "answer_write" "answer_write" s_answer_write f_answer_write d_answer_write)
    (a_answer_read : PySem.W.nsIn K mainGlobals "answer_read" = some (some (.ref f_answer_read)))
    (F_answer_read : Fun K "answer_read" "answer_read" s_answer_read f_answer_read d_answer_read)
    (a_answer_pack : PySem.W.nsIn K mainGlobals "answer_pack" = some (some (.ref f_answer_pack)))
    (F_answer_pack : Fun K "answer_pack" "answer_pack" s_answer_pack f_answer_pack d_answer_pack)
    (a_answer_walk : PySem.W.nsIn K mainGlobals "answer_walk" = some (some (.ref f_answer_walk)))
    (F_answer_walk : Fun K "answer_walk" "answer_walk" s_answer_walk f_answer_walk d_answer_walk)
    (a_answer_step : PySem.W.nsIn K mainGlobals "answer_step" = some (some (.ref f_answer_step)))
    (F_answer_step : Fun K "answer_step" "answer_step" s_answer_step f_answer_step d_answer_step)
    (a_answer_blocks : PySem.W.nsIn K mainGlobals "answer_blocks" = some (some (.ref f_answer_blocks)))
    (F_answer_blocks : Fun K "answer_blocks" "answer_blocks" s_answer_blocks f_answer_blocks d_answer_blocks)
    (a_answer_call : PySem.W.nsIn K mainGlobals "answer_call" = some (some (.ref f_answer_call)))
    (F_answer_call : Fun K "answer_call" "answer_call" s_answer_call f_answer_call d_answer_call)
    (F_Ground_init : Fun K "__init__" "Ground.__init__" s_Ground_init f_Ground_init d_Ground_init)
    (H_Ground_begin : Meth K c_Ground "begin" f_Ground_begin)
    (F_Ground_begin : Fun K "begin" "Ground.begin" s_Ground_begin f_Ground_begin d_Ground_begin)
    (H_Ground_blocks_in_order : Meth K c_Ground "blocks_in_order" f_Ground_blocks_in_order)
    (F_Ground_blocks_in_order : Fun K "blocks_in_order" "Ground.blocks_in_order" s_Ground_blocks_in_order f_Ground_blocks_in_order d_Ground_blocks_in_order)
    (H_Ground_innermost_blocks : Meth K c_Ground "innermost_blocks" f_Ground_innermost_blocks)
    (F_Ground_innermost_blocks : Fun K "innermost_blocks" "Ground.innermost_blocks" s_Ground_innermost_blocks f_Ground_innermost_blocks d_Ground_innermost_blocks)
    (H_Ground_address_from : Meth K c_Ground "address_from" f_Ground_address_from)
    (F_Ground_address_from : Fun K "address_from" "Ground.address_from" s_Ground_address_from f_Ground_address_from d_Ground_address_from)
    (H_Ground_rows : Meth K c_Ground "rows" f_Ground_rows)
    (F_Ground_rows : Fun K "rows" "Ground.rows" s_Ground_rows f_Ground_rows d_Ground_rows)
    (H_Ground_rows_without : Meth K c_Ground "rows_without" f_Ground_rows_without)
    (F_Ground_rows_without : Fun K "rows_without" "Ground.rows_without" s_Ground_rows_without f_Ground_rows_without d_Ground_rows_without)
    (H_Ground_settle : Meth K c_Ground "settle" f_Ground_settle)
    (F_Ground_settle : Fun K "settle" "Ground.settle" s_Ground_settle f_Ground_settle d_Ground_settle)
    (H_Ground_bytes_from : Meth K c_Ground "bytes_from" f_Ground_bytes_from)
    (F_Ground_bytes_from : Fun K "bytes_from" "Ground.bytes_from" s_Ground_bytes_from f_Ground_bytes_from d_Ground_bytes_from)
    (H_Ground_put : Meth K c_Ground "put" f_Ground_put)
    (F_Ground_put : Fun K "put" "Ground.put" s_Ground_put f_Ground_put d_Ground_put)
    (H_Ground_pack : Meth K c_Ground "pack" f_Ground_pack)
    (F_Ground_pack : Fun K "pack" "Ground.pack" s_Ground_pack f_Ground_pack d_Ground_pack)
    (a_end_of_call : PySem.W.nsIn K mainGlobals "end_of_call" = some (some (.ref f_end_of_call)))
    (F_end_of_call : Fun K "end_of_call" "end_of_call" s_end_of_call f_end_of_call d_end_of_call)
    (a_answers : PySem.W.nsIn K mainGlobals "answers" = some (some (.ref f_answers)))
    (F_answers : Fun K "answers" "answers" s_answers f_answers d_answers)
    (a_GREATEST_ADDRESS : PySem.W.nsIn K mainGlobals "GREATEST_ADDRESS" = some (some (.int (1) k_GREATEST_ADDRESS)))
    (a_SHORTEST_ROW : PySem.W.nsIn K mainGlobals "SHORTEST_ROW" = some (some (.int (2) k_SHORTEST_ROW)))
    (a_LONGEST_ROW : PySem.W.nsIn K mainGlobals "LONGEST_ROW" = some (some (.int (3) k_LONGEST_ROW)))
    (a_BEHIND_MARK : PySem.W.nsIn K mainGlobals "BEHIND_MARK" = some (some (.int (4) k_BEHIND_MARK)))
    (a_LAST_RULE : PySem.W.nsIn K mainGlobals "LAST_RULE" = some (some (.int (4) k_LAST_RULE)))
    (a_WRONG_NUMBER : PySem.W.nsIn K mainGlobals "WRONG_NUMBER" = some (some (.int (-1) k_WRONG_NUMBER)))
    (a_NO_BLOCK : PySem.W.nsIn K mainGlobals "NO_BLOCK" = some (some (.int (-2) k_NO_BLOCK)))
    (a_NO_ROOM : PySem.W.nsIn K mainGlobals "NO_ROOM" = some (some (.int (-3) k_NO_ROOM)))
    (a_NONE_THERE : PySem.W.nsIn K mainGlobals "NONE_THERE" = some (some (.int (-4) k_NONE_THERE)))
    (a_MOST_PLACES : PySem.W.nsIn K mainGlobals "MOST_PLACES" = some (some (.int (2048) k_MOST_PLACES)))
    (a_GREATEST_DEPTH : PySem.W.nsIn K mainGlobals "GREATEST_DEPTH" = some (some (.int (8) k_GREATEST_DEPTH)))
    (a_MOST_WALKS : PySem.W.nsIn K mainGlobals "MOST_WALKS" = some (some (.int (4) k_MOST_WALKS)))
    (a_FIRST_SIZE : PySem.W.nsIn K mainGlobals "FIRST_SIZE" = some (some (.int (64) k_FIRST_SIZE)))
    (a_FIRST_RULE : PySem.W.nsIn K mainGlobals "FIRST_RULE" = some (some (.int (0) k_FIRST_RULE)))
    (a_WRITE : PySem.W.nsIn K mainGlobals "WRITE" = some (some (.int (15) k_WRITE)))
    (g_CALLS : PySem.W.nsIn K mainGlobals "CALLS" = some (some (.ref a_CALLS)))
    (t_CALLS : KTab P w K a_CALLS (([(1, .ref f_answer_open), (2, .ref f_answer_take), (3, .ref f_answer_zero), (4, .ref f_answer_resize), (5, .ref f_answer_give), (6, .ref f_answer_size), (7, .ref f_answer_of), (8, .ref f_answer_next), (9, .ref f_answer_most), (10, .ref f_answer_rows), (11, .ref f_answer_enter), (12, .ref f_answer_leave), (13, .ref f_answer_keep), (14, .ref f_answer_counts), (15, .ref f_answer_write), (16, .ref f_answer_read), (17, .ref f_answer_pack), (18, .ref f_answer_walk), (19, .ref f_answer_step), (20, .ref f_answer_blocks)] : List (Int × V)).map fun q => (.inl q.1, q.2)))
    (g_HOW_MANY_NUMBERS : PySem.W.nsIn K mainGlobals "HOW_MANY_NUMBERS" = some (some (.ref a_HOW_MANY_NUMBERS)))
    (t_HOW_MANY_NUMBERS : KTab P w K a_HOW_MANY_NUMBERS (([(1, .int 2), (2, .int 2), (3, .int 2), (4, .int 2), (5, .int 1), (6, .int 1), (7, .int 1), (8, .int 1), (9, .int 1), (10, .int 0), (11, .int 0), (12, .int 0), (13, .int 1), (14, .int 0), (15, .int 3), (16, .int 3), (17, .int 0), (18, .int 1), (19, .int 1), (20, .int 0)] : List (Int × V)).map fun q => (.inl q.1, q.2)))
    (g_ALIGNMENTS : PySem.W.nsIn K mainGlobals "ALIGNMENTS" = some (some (.ref a_ALIGNMENTS)))
    (t_ALIGNMENTS : KTup K a_ALIGNMENTS tup_ALIGNMENTS)
    (b_max : PySem.W.nsIn K mainGlobals "max" = some none)
    (b_min : PySem.W.nsIn K mainGlobals "min" = some none)
    (b_len : PySem.W.nsIn K mainGlobals "len" = some none)
    (b_sorted : PySem.W.nsIn K mainGlobals "sorted" = some none)
    (b_sum : PySem.W.nsIn K mainGlobals "sum" = some none)
    (b_reversed : PySem.W.nsIn K mainGlobals "reversed" = some none)
    (b_enumerate : PySem.W.nsIn K mainGlobals "enumerate" = some none)
    (b_range : PySem.W.nsIn K mainGlobals "range" = some none)
    : ∃ fd : FuncData, (∀ (s : Shared) (us : List Value), us.length = (["calls"] : List Str).length → BindsTo s fd ⟨us, []⟩ ((["calls"] : List Str).zip us)) ∧ ∀ base : Heap, K.In base → base.Ns mainGlobals mg → FnOk P w K mg base CX0 9 fa fd ["calls"] (sp_answers K) := by
  have e := hfa.symm.trans (PySem.W.mg_of X G a_answers)
  cases e
  let t : Adr := { c_Block := c_Block, c_Row := c_Row, c_Ground := c_Ground, f_Block_init := f_Block_init, d_Block_init := d_Block_init, f_reach_of := f_reach_of, d_reach_of := d_reach_of, f_place_behind := f_place_behind, d_place_behind := d_place_behind, f_Row_init := f_Row_init, d_Row_init := d_Row_init, f_row_length := f_row_length, d_row_length := d_row_length, f_rows_between := f_rows_between, d_rows_between := d_rows_between, f_least_multiple := f_least_multiple, d_least_multiple := d_least_multiple, f_least_in_row := f_least_in_row, d_least_in_row := d_least_in_row, f_greatest_in_row := f_greatest_in_row, d_greatest_in_row := d_greatest_in_row, f_least_address := f_least_address, d_least_address := d_least_address, f_greatest_address := f_greatest_address, d_greatest_address := d_greatest_address, f_rows_that_fit := f_rows_that_fit, d_rows_that_fit := d_rows_that_fit, f_rows_to_try := f_rows_to_try, d_rows_to_try := d_rows_to_try, f_choose_address := f_choose_address, d_choose_address := d_choose_address, f_answer_open := f_answer_open, d_answer_open := d_answer_open, f_answer_take := f_answer_take, d_answer_take := d_answer_take, f_answer_zero := f_answer_zero, d_answer_zero := d_answer_zero, f_address_resized := f_address_resized, d_address_resized := d_address_resized, f_answer_resize := f_answer_resize, d_answer_resize := d_answer_resize, f_answer_give := f_answer_give, d_answer_give := d_answer_give, f_answer_size := f_answer_size, d_answer_size := d_answer_size, f_answer_of := f_answer_of, d_answer_of := d_answer_of, f_answer_next := f_answer_next, d_answer_next := d_answer_next, f_answer_most := f_answer_most, d_answer_most := d_answer_most, f_answer_rows := f_answer_rows, d_answer_rows := d_answer_rows, f_answer_enter := f_answer_enter, d_answer_enter := d_answer_enter, f_answer_leave := f_answer_leave, d_answer_leave := d_answer_leave, f_answer_keep := f_answer_keep, d_answer_keep := d_answer_keep, f_answer_counts := f_answer_counts, d_answer_counts := d_answer_counts, f_has_bytes := f_has_bytes, d_has_bytes := d_has_bytes, f_answer_write := f_answer_write, d_answer_write := d_answer_write, f_answer_read := f_answer_read, d_answer_read := d_answer_read, f_answer_pack := f_answer_pack, d_answer_pack := d_answer_pack, f_answer_walk := f_answer_walk, d_answer_walk := d_answer_walk, f_answer_step := f_answer_step, d_answer_step := d_answer_step, f_answer_blocks := f_answer_blocks, d_answer_blocks := d_answer_blocks, f_answer_call := f_answer_call, d_answer_call := d_answer_call, f_Ground_init := f_Ground_init, d_Ground_init := d_Ground_init, f_Ground_begin := f_Ground_begin, d_Ground_begin := d_Ground_begin, f_Ground_blocks_in_order := f_Ground_blocks_in_order, d_Ground_blocks_in_order := d_Ground_blocks_in_order, f_Ground_innermost_blocks := f_Ground_innermost_blocks, d_Ground_innermost_blocks := d_Ground_innermost_blocks, f_Ground_address_from := f_Ground_address_from, d_Ground_address_from := d_Ground_address_from, f_Ground_rows := f_Ground_rows, d_Ground_rows := d_Ground_rows, f_Ground_rows_without := f_Ground_rows_without, d_Ground_rows_without := d_Ground_rows_without, f_Ground_settle := f_Ground_settle, d_Ground_settle := d_Ground_settle, f_Ground_bytes_from := f_Ground_bytes_from, d_Ground_bytes_from := d_Ground_bytes_from, f_Ground_put := f_Ground_put, d_Ground_put := d_Ground_put, f_Ground_pack := f_Ground_pack, d_Ground_pack := d_Ground_pack, f_end_of_call := f_end_of_call, d_end_of_call := d_end_of_call, f_answers := fa, d_answers := d_answers, u_GREATEST_ADDRESS := .int (1) k_GREATEST_ADDRESS, u_SHORTEST_ROW := .int (2) k_SHORTEST_ROW, u_LONGEST_ROW := .int (3) k_LONGEST_ROW, u_BEHIND_MARK := .int (4) k_BEHIND_MARK, u_LAST_RULE := .int (4) k_LAST_RULE, u_WRONG_NUMBER := .int (-1) k_WRONG_NUMBER, u_NO_BLOCK := .int (-2) k_NO_BLOCK, u_NO_ROOM := .int (-3) k_NO_ROOM, u_NONE_THERE := .int (-4) k_NONE_THERE, u_MOST_PLACES := .int (2048) k_MOST_PLACES, u_GREATEST_DEPTH := .int (8) k_GREATEST_DEPTH, u_MOST_WALKS := .int (4) k_MOST_WALKS, u_FIRST_SIZE := .int (64) k_FIRST_SIZE, u_FIRST_RULE := .int (0) k_FIRST_RULE, u_WRITE := .int (15) k_WRITE, a_CALLS := a_CALLS, a_HOW_MANY_NUMBERS := a_HOW_MANY_NUMBERS, a_ALIGNMENTS := a_ALIGNMENTS }
  have B_Block_init := F_Block_init.binds (ps := ["self", "address", "n", "alignment", "group"]) fun _ _ _ _ _ _ us hl => match us, hl with | [_, _, _, _, _], _ => rfl
  have B_reach_of := F_reach_of.binds (ps := ["n"]) fun _ _ _ _ _ _ us hl => match us, hl with | [_], _ => rfl
  have B_place_behind := F_place_behind.binds (ps := ["block"]) fun _ _ _ _ _ _ us hl => match us, hl with | [_], _ => rfl
  have B_Row_init := F_Row_init.binds (ps := ["self", "first", "end"]) fun _ _ _ _ _ _ us hl => match us, hl with | [_, _, _], _ => rfl
  have B_row_length := F_row_length.binds (ps := ["row"]) fun _ _ _ _ _ _ us hl => match us, hl with | [_], _ => rfl
  have B_rows_between := F_rows_between.binds (ps := ["size", "blocks"]) fun _ _ _ _ _ _ us hl => match us, hl with | [_, _], _ => rfl
  have B_least_multiple := F_least_multiple.binds (ps := ["place", "alignment"]) fun _ _ _ _ _ _ us hl => match us, hl with | [_, _], _ => rfl
  have B_least_in_row := F_least_in_row.binds (ps := ["row", "reach", "alignment", "mark"]) fun _ _ _ _ _ _ us hl => match us, hl with | [_, _, _, _], _ => rfl
  have B_greatest_in_row := F_greatest_in_row.binds (ps := ["row", "reach", "alignment"]) fun _ _ _ _ _ _ us hl => match us, hl with | [_, _, _], _ => rfl
  have B_least_address := F_least_address.binds (ps := ["rows", "reach", "alignment", "mark"]) fun _ _ _ _ _ _ us hl => match us, hl with | [_, _, _, _], _ => rfl
  have B_greatest_address := F_greatest_address.binds (ps := ["rows", "reach", "alignment"]) fun _ _ _ _ _ _ us hl => match us, hl with | [_, _, _], _ => rfl
  have B_rows_that_fit := F_rows_that_fit.binds (ps := ["rows", "reach", "alignment"]) fun _ _ _ _ _ _ us hl => match us, hl with | [_, _, _], _ => rfl
  have B_rows_to_try := F_rows_to_try.binds (ps := ["rows", "rule", "reach", "alignment"]) fun _ _ _ _ _ _ us hl => match us, hl with | [_, _, _, _], _ => rfl
  have B_choose_address := F_choose_address.binds (ps := ["rows", "rule", "mark", "reach", "alignment"]) fun _ _ _ _ _ _ us hl => match us, hl with | [_, _, _, _, _], _ => rfl
  have B_answer_open := F_answer_open.binds (ps := ["ground", "numbers"]) fun _ _ _ _ _ _ us hl => match us, hl with | [_, _], _ => rfl
  have B_answer_take := F_answer_take.binds (ps := ["ground", "numbers"]) fun _ _ _ _ _ _ us hl => match us, hl with | [_, _], _ => rfl
  have B_answer_zero := F_answer_zero.binds (ps := ["ground", "numbers"]) fun _ _ _ _ _ _ us hl => match us, hl with | [_, _], _ => rfl
  have B_address_resized := F_address_resized.binds (ps := ["ground", "block", "n"]) fun _ _ _ _ _ _ us hl => match us, hl with | [_, _, _], _ => rfl
  have B_answer_resize := F_answer_resize.binds (ps := ["ground", "numbers"]) fun _ _ _ _ _ _ us hl => match us, hl with | [_, _], _ => rfl
  have B_answer_give := F_answer_give.binds (ps := ["ground", "numbers"]) fun _ _ _ _ _ _ us hl => match us, hl with | [_, _], _ => rfl
  have B_answer_size := F_answer_size.binds (ps := ["ground", "numbers"]) fun _ _ _ _ _ _ us hl => match us, hl with | [_, _], _ => rfl
  have B_answer_of := F_answer_of.binds (ps := ["ground", "numbers"]) fun _ _ _ _ _ _ us hl => match us, hl with | [_, _], _ => rfl
  have B_answer_next := F_answer_next.binds (ps := ["ground", "numbers"]) fun _ _ _ _ _ _ us hl => match us, hl with | [_, _], _ => rfl
  have B_answer_most := F_answer_most.binds (ps := ["ground", "numbers"]) fun _ _ _ _ _ _ us hl => match us, hl with | [_, _], _ => rfl
  have B_answer_rows := F_answer_rows.binds (ps := ["ground", "numbers"]) fun _ _ _ _ _ _ us hl => match us, hl with | [_, _], _ => rfl
  have B_answer_enter := F_answer_enter.binds (ps := ["ground", "numbers"]) fun _ _ _ _ _ _ us hl => match us, hl with | [_, _], _ => rfl
  have B_answer_leave := F_answer_leave.binds (ps := ["ground", "numbers"]) fun _ _ _ _ _ _ us hl => match us, hl with | [_, _], _ => rfl
  have B_answer_keep := F_answer_keep.binds (ps := ["ground", "numbers"]) fun _ _ _ _ _ _ us hl => match us, hl with | [_, _], _ => rfl
  have B_answer_counts := F_answer_counts.binds (ps := ["ground", "numbers"]) fun _ _ _ _ _ _ us hl => match us, hl with | [_, _], _ => rfl
  have B_has_bytes := F_has_bytes.binds (ps := ["block", "first", "how_many"]) fun _ _ _ _ _ _ us hl => match us, hl with | [_, _, _], _ => rfl
  have B_answer_write := F_answer_write.binds (ps := ["ground", "numbers"]) fun _ _ _ _ _ _ us hl => match us, hl with | [_, _], _ => rfl
  have B_answer_read := F_answer_read.binds (ps := ["ground", "numbers"]) fun _ _ _ _ _ _ us hl => match us, hl with | [_, _], _ => rfl
  have B_answer_pack := F_answer_pack.binds (ps := ["ground", "numbers"]) fun _ _ _ _ _ _ us hl => match us, hl with | [_, _], _ => rfl
  have B_answer_walk := F_answer_walk.binds (ps := ["ground", "numbers"]) fun _ _ _ _ _ _ us hl => match us, hl with | [_, _], _ => rfl
  have B_answer_step := F_answer_step.binds (ps := ["ground", "numbers"]) fun _ _ _ _ _ _ us hl => match us, hl with | [_, _], _ => rfl
  have B_answer_blocks := F_answer_blocks.binds (ps := ["ground", "numbers"]) fun _ _ _ _ _ _ us hl => match us, hl with | [_, _], _ => rfl
  have B_answer_call := F_answer_call.binds (ps := ["ground", "number", "numbers"]) fun _ _ _ _ _ _ us hl => match us, hl with | [_, _, _], _ => rfl
  have B_Ground_init := F_Ground_init.binds (ps := ["self"]) fun _ _ _ _ _ _ us hl => match us, hl with | [_], _ => rfl
  have B_Ground_begin := F_Ground_begin.binds (ps := ["self", "size", "rule"]) fun _ _ _ _ _ _ us hl => match us, hl with | [_, _, _], _ => rfl
  have B_Ground_blocks_in_order := F_Ground_blocks_in_order.binds (ps := ["self"]) fun _ _ _ _ _ _ us hl => match us, hl with | [_], _ => rfl
  have B_Ground_innermost_blocks := F_Ground_innermost_blocks.binds (ps := ["self"]) fun _ _ _ _ _ _ us hl => match us, hl with | [_], _ => rfl
  have B_Ground_address_from := F_Ground_address_from.binds (ps := ["self", "place"]) fun _ _ _ _ _ _ us hl => match us, hl with | [_, _], _ => rfl
  have B_Ground_rows := F_Ground_rows.binds (ps := ["self"]) fun _ _ _ _ _ _ us hl => match us, hl with | [_], _ => rfl
  have B_Ground_rows_without := F_Ground_rows_without.binds (ps := ["self", "left_out"]) fun _ _ _ _ _ _ us hl => match us, hl with | [_, _], _ => rfl
  have B_Ground_settle := F_Ground_settle.binds (ps := ["self", "block"]) fun _ _ _ _ _ _ us hl => match us, hl with | [_, _], _ => rfl
  have B_Ground_bytes_from := F_Ground_bytes_from.binds (ps := ["self", "address", "how_many"]) fun _ _ _ _ _ _ us hl => match us, hl with | [_, _, _], _ => rfl
  have B_Ground_put := F_Ground_put.binds (ps := ["self", "address", "new_bytes"]) fun _ _ _ _ _ _ us hl => match us, hl with | [_, _, _], _ => rfl
  have B_Ground_pack := F_Ground_pack.binds (ps := ["self"]) fun _ _ _ _ _ _ us hl => match us, hl with | [_], _ => rfl
  have B_end_of_call := F_end_of_call.binds (ps := ["calls", "at"]) fun _ _ _ _ _ _ us hl => match us, hl with | [_, _], _ => rfl
  have B_answers := F_answers.binds (ps := ["calls"]) fun _ _ _ _ _ _ us hl => match us, hl with | [_], _ => rfl
  have T : Txt P w K mg t := {
    C_Block := C_Block
    m_Block := PySem.W.mg_of X G a_Block
    K_Block := K_Block
    n_Block_address := n_Block_address
    n_Block_n := n_Block_n
    n_Block_alignment := n_Block_alignment
    n_Block_group := n_Block_group
    C_Row := C_Row
    m_Row := PySem.W.mg_of X G a_Row
    K_Row := K_Row
    n_Row_first := n_Row_first
    n_Row_end := n_Row_end
    C_Ground := C_Ground
    m_Ground := PySem.W.mg_of X G a_Ground
    K_Ground := K_Ground
    n_Ground_size := n_Ground_size
    n_Ground_rule := n_Ground_rule
    n_Ground_store := n_Ground_store
    n_Ground_blocks := n_Ground_blocks
    n_Ground_depth := n_Ground_depth
    n_Ground_mark := n_Ground_mark
    n_Ground_walks := n_Ground_walks
    F_Block_init := F_Block_init
    B_Block_init := B_Block_init
    F_reach_of := F_reach_of
    B_reach_of := B_reach_of
    m_reach_of := PySem.W.mg_of X G a_reach_of
    F_place_behind := F_place_behind
    B_place_behind := B_place_behind
    m_place_behind := PySem.W.mg_of X G a_place_behind
    F_Row_init := F_Row_init
    B_Row_init := B_Row_init
    F_row_length := F_row_length
    B_row_length := B_row_length
    m_row_length := PySem.W.mg_of X G a_row_length
    F_rows_between := F_rows_between
    B_rows_between := B_rows_between
    m_rows_between := PySem.W.mg_of X G a_rows_between
    F_least_multiple := F_least_multiple
    B_least_multiple := B_least_multiple
    m_least_multiple := PySem.W.mg_of X G a_least_multiple
    F_least_in_row := F_least_in_row
    B_least_in_row := B_least_in_row
    m_least_in_row := PySem.W.mg_of X G a_least_in_row
    F_greatest_in_row := F_greatest_in_row
    B_greatest_in_row := B_greatest_in_row
    m_greatest_in_row := PySem.W.mg_of X G a_greatest_in_row
    F_least_address := F_least_address
    B_least_address := B_least_address
    m_least_address := PySem.W.mg_of X G a_least_address
    F_greatest_address := F_greatest_address
    B_greatest_address := B_greatest_address
    m_greatest_address := PySem.W.mg_of X G a_greatest_address
    F_rows_that_fit := F_rows_that_fit
    B_rows_that_fit := B_rows_that_fit
    m_rows_that_fit := PySem.W.mg_of X G a_rows_that_fit
    F_rows_to_try := F_rows_to_try
    B_rows_to_try := B_rows_to_try
    m_rows_to_try := PySem.W.mg_of X G a_rows_to_try
    F_choose_address := F_choose_address
    B_choose_address := B_choose_address
    m_choose_address := PySem.W.mg_of X G a_choose_address
    F_answer_open := F_answer_open
    B_answer_open := B_answer_open
    m_answer_open := PySem.W.mg_of X G a_answer_open
    F_answer_take := F_answer_take
    B_answer_take := B_answer_take
    m_answer_take := PySem.W.mg_of X G a_answer_take
    F_answer_zero := F_answer_zero
    B_answer_zero := B_answer_zero
    m_answer_zero := PySem.W.mg_of X G a_answer_zero
    F_address_resized := F_address_resized
    B_address_resized := B_address_resized
    m_address_resized := PySem.W.mg_of X G a_address_resized
    F_answer_resize := F_answer_resize
    B_answer_resize := B_answer_resize
    m_answer_resize := PySem.W.mg_of X G a_answer_resize
    F_answer_give := F_answer_give
    B_answer_give := B_answer_give
    m_answer_give := PySem.W.mg_of X G a_answer_give
    F_answer_size := F_answer_size
    B_answer_size := B_answer_size
    m_answer_size := PySem.W.mg_of X G a_answer_size
    F_answer_of := F_answer_of
    B_answer_of := B_answer_of
    m_answer_of := PySem.W.mg_of X G a_answer_of
    F_answer_next := F_answer_next
    B_answer_next := B_answer_next
    m_answer_next := PySem.W.mg_of X G a_answer_next
    F_answer_most := F_answer_most
    B_answer_most := B_answer_most
    m_answer_most := PySem.W.mg_of X G a_answer_most
    F_answer_rows := F_answer_rows
    B_answer_rows := B_answer_rows
    m_answer_rows := PySem.W.mg_of X G a_answer_rows
    F_answer_enter := F_answer_enter
    B_answer_enter := B_answer_enter
    m_answer_enter := PySem.W.mg_of X G a_answer_enter
    F_answer_leave := F_answer_leave
    B_answer_leave := B_answer_leave
    m_answer_leave := PySem.W.mg_of X G a_answer_leave
    F_answer_keep := F_answer_keep
    B_answer_keep := B_answer_keep
    m_answer_keep := PySem.W.mg_of X G a_answer_keep
    F_answer_counts := F_answer_counts
    B_answer_counts := B_answer_counts
    m_answer_counts := PySem.W.mg_of X G a_answer_counts
    F_has_bytes := F_has_bytes
    B_has_bytes := B_has_bytes
    m_has_bytes := PySem.W.mg_of X G a_has_bytes
    F_answer_write := F_answer_write
    B_answer_write := B_answer_write
    m_answer_write := PySem.W.mg_of X G a_answer_write
    F_answer_read := F_answer_read
    B_answer_read := B_answer_read
    m_answer_read := PySem.W.mg_of X G a_answer_read
    F_answer_pack := F_answer_pack
    B_answer_pack := B_answer_pack
    m_answer_pack := PySem.W.mg_of X G a_answer_pack
    F_answer_walk := F_answer_walk
    B_answer_walk := B_answer_walk
    m_answer_walk := PySem.W.mg_of X G a_answer_walk
    F_answer_step := F_answer_step
    B_answer_step := B_answer_step
    m_answer_step := PySem.W.mg_of X G a_answer_step
    F_answer_blocks := F_answer_blocks
    B_answer_blocks := B_answer_blocks
    m_answer_blocks := PySem.W.mg_of X G a_answer_blocks
    F_answer_call := F_answer_call
    B_answer_call := B_answer_call
    m_answer_call := PySem.W.mg_of X G a_answer_call
    F_Ground_init := F_Ground_init
    B_Ground_init := B_Ground_init
    F_Ground_begin := F_Ground_begin
    B_Ground_begin := B_Ground_begin
    H_Ground_begin := H_Ground_begin
    F_Ground_blocks_in_order := F_Ground_blocks_in_order
    B_Ground_blocks_in_order := B_Ground_blocks_in_order
    H_Ground_blocks_in_order := H_Ground_blocks_in_order
    F_Ground_innermost_blocks := F_Ground_innermost_blocks
    B_Ground_innermost_blocks := B_Ground_innermost_blocks
    H_Ground_innermost_blocks := H_Ground_innermost_blocks
    F_Ground_address_from := F_Ground_address_from
    B_Ground_address_from := B_Ground_address_from
    H_Ground_address_from := H_Ground_address_from
    F_Ground_rows := F_Ground_rows
    B_Ground_rows := B_Ground_rows
    H_Ground_rows := H_Ground_rows
    F_Ground_rows_without := F_Ground_rows_without
    B_Ground_rows_without := B_Ground_rows_without
    H_Ground_rows_without := H_Ground_rows_without
    F_Ground_settle := F_Ground_settle
    B_Ground_settle := B_Ground_settle
    H_Ground_settle := H_Ground_settle
    F_Ground_bytes_from := F_Ground_bytes_from
    B_Ground_bytes_from := B_Ground_bytes_from
    H_Ground_bytes_from := H_Ground_bytes_from
    F_Ground_put := F_Ground_put
    B_Ground_put := B_Ground_put
    H_Ground_put := H_Ground_put
    F_Ground_pack := F_Ground_pack
    B_Ground_pack := B_Ground_pack
    H_Ground_pack := H_Ground_pack
    F_end_of_call := F_end_of_call
    B_end_of_call := B_end_of_call
    m_end_of_call := PySem.W.mg_of X G a_end_of_call
    F_answers := F_answers
    B_answers := B_answers
    m_answers := PySem.W.mg_of X G a_answers
    m_GREATEST_ADDRESS := PySem.W.mg_of X G a_GREATEST_ADDRESS
    r_GREATEST_ADDRESS := ri
    m_SHORTEST_ROW := PySem.W.mg_of X G a_SHORTEST_ROW
    r_SHORTEST_ROW := ri
    m_LONGEST_ROW := PySem.W.mg_of X G a_LONGEST_ROW
    r_LONGEST_ROW := ri
    m_BEHIND_MARK := PySem.W.mg_of X G a_BEHIND_MARK
    r_BEHIND_MARK := ri
    m_LAST_RULE := PySem.W.mg_of X G a_LAST_RULE
    r_LAST_RULE := ri
    m_WRONG_NUMBER := PySem.W.mg_of X G a_WRONG_NUMBER
    r_WRONG_NUMBER := ri
    m_NO_BLOCK := PySem.W.mg_of X G a_NO_BLOCK
    r_NO_BLOCK := ri
    m_NO_ROOM := PySem.W.mg_of X G a_NO_ROOM
    r_NO_ROOM := ri
    m_NONE_THERE := PySem.W.mg_of X G a_NONE_THERE
    r_NONE_THERE := ri
    m_MOST_PLACES := PySem.W.mg_of X G a_MOST_PLACES
    r_MOST_PLACES := ri
    m_GREATEST_DEPTH := PySem.W.mg_of X G a_GREATEST_DEPTH
    r_GREATEST_DEPTH := ri
    m_MOST_WALKS := PySem.W.mg_of X G a_MOST_WALKS
    r_MOST_WALKS := ri
    m_FIRST_SIZE := PySem.W.mg_of X G a_FIRST_SIZE
    r_FIRST_SIZE := ri
    m_FIRST_RULE := PySem.W.mg_of X G a_FIRST_RULE
    r_FIRST_RULE := ri
    m_WRITE := PySem.W.mg_of X G a_WRITE
    r_WRITE := ri
    m_CALLS := PySem.W.mg_of X G g_CALLS
    t_CALLS := t_CALLS
    m_HOW_MANY_NUMBERS := PySem.W.mg_of X G g_HOW_MANY_NUMBERS
    t_HOW_MANY_NUMBERS := t_HOW_MANY_NUMBERS
    m_ALIGNMENTS := PySem.W.mg_of X G g_ALIGNMENTS
    t_ALIGNMENTS := t_ALIGNMENTS
    b_max := PySem.W.mg_none_of X G b_max
    b_min := PySem.W.mg_none_of X G b_min
    b_len := PySem.W.mg_none_of X G b_len
    b_sorted := PySem.W.mg_none_of X G b_sorted
    b_sum := PySem.W.mg_none_of X G b_sum
    b_reversed := PySem.W.mg_none_of X G b_reversed
    b_enumerate := PySem.W.mg_none_of X G b_enumerate
    b_range := PySem.W.mg_none_of X G b_range }
  refine ⟨d_answers, fun s us hl => ?_, fun base _ _ => ok_answers T⟩
  obtain ⟨oc, od, kV, doc, pm, an, cdv, ct, osl, rfl, lk, hcd⟩ := F_answers.ex
  exact match us, hl with | [_], _ => .of_eq rfl
end Gp

set_option Elab.async true
/-! Eight names that say nothing (True). The head's tactic lays, beside what it needs, equations for speed about the states between its pieces; over this text they fill most of the compiled file (90 MB in all) and nothing here needs them: where such a name is taken the tactic goes on without. -/
theorem PySem.Challenge.cw_lentground_s01_answers_holds.tw9086427895890355651 : True := trivial
theorem PySem.Challenge.cw_lentground_s01_answers_holds.tw13600990861049147469 : True := trivial
theorem PySem.Challenge.cw_lentground_s01_answers_holds.tw11786552907097849621 : True := trivial
theorem PySem.Challenge.cw_lentground_s01_answers_holds.tw4719155401603134253 : True := trivial
theorem PySem.Challenge.cw_lentground_s01_answers_holds.tw6352525918096553669 : True := trivial
theorem PySem.Challenge.cw_lentground_s01_answers_holds.tw3242557008850901952 : True := trivial
theorem PySem.Challenge.cw_lentground_s01_answers_holds.tw6903557836414420243 : True := trivial
theorem PySem.Challenge.cw_lentground_s01_answers_holds.tw715949535654562109 : True := trivial
open PySem PySem.W PyProof.Rows
set_option maxRecDepth 100000 in
set_option maxHeartbeats 0 in
theorem PySem.Challenge.cw_lentground_s01_answers_holds : PySem.Challenge.rw_lentground_s01_answers.Holds := by
  w_on; k_headS; (case hw => exact ⟨[.list [.int 10]], by decide +kernel, by decide +kernel⟩)
  k_fillS
  refine L2.walk_specK (r := PySem.Challenge.rw_lentground_s01_answers) (k := 9) (CX := L2.CX0) (ps := ["calls"]) (sp := Gp.sp_answers) (by decide +kernel) rfl rfl ⟨rfl, by decide, by decide⟩ (fun w h Y => PySem.W.kIn_of Y) ?F ?S (fun _ _ _ _ z => z)
  case F =>
    intro w mg fa h Y KX G hmg
    refine' Gp.all_mk KX G hmg ?a_Block ?C_Block ?K_Block ?n_Block_address ?n_Block_n ?n_Block_alignment ?n_Block_group ?a_Row ?C_Row ?K_Row ?n_Row_first ?n_Row_end ?a_Ground ?C_Ground ?K_Ground ?n_Ground_size ?n_Ground_rule ?n_Ground_store ?n_Ground_blocks ?n_Ground_depth ?n_Ground_mark ?n_Ground_walks ?F_Block_init ?a_reach_of ?F_reach_of ?a_place_behind ?F_place_behind ?F_Row_init ?a_row_length ?F_row_length ?a_rows_between ?F_rows_between ?a_least_multiple ?F_least_multiple ?a_least_in_row ?F_least_in_row ?a_greatest_in_row ?F_greatest_in_row ?a_least_address ?F_least_address ?a_greatest_address ?F_greatest_address ?a_rows_that_fit ?F_rows_that_fit ?a_rows_to_try ?F_rows_to_try ?a_choose_address ?F_choose_address ?a_answer_open ?F_answer_open ?a_answer_take ?F_answer_take ?a_answer_zero ?F_answer_zero ?a_address_resized ?F_address_resized ?a_answer_resize ?F_answer_resize ?a_answer_give ?F_answer_give ?a_answer_size ?F_answer_size ?a_answer_of ?F_answer_of ?a_answer_next ?F_answer_next ?a_answer_most ?F_answer_most ?a_answer_rows ?F_answer_rows ?a_answer_enter ?F_answer_enter ?a_answer_leave ?F_answer_leave ?a_answer_keep ?F_answer_keep ?a_answer_counts ?F_answer_counts ?a_has_bytes ?F_has_bytes ?a_answer_write ?F_answer_write ?a_answer_read ?F_answer_read ?a_answer_pack ?F_answer_pack ?a_answer_walk ?F_answer_walk ?a_answer_step ?F_answer_step ?a_answer_blocks ?F_answer_blocks ?a_answer_call ?F_answer_call ?F_Ground_init ?H_Ground_begin ?F_Ground_begin ?H_Ground_blocks_in_order ?F_Ground_blocks_in_order ?H_Ground_innermost_blocks ?F_Ground_innermost_blocks ?H_Ground_address_from ?F_Ground_address_from ?H_Ground_rows ?F_Ground_rows ?H_Ground_rows_without ?F_Ground_rows_without ?H_Ground_settle ?F_Ground_settle ?H_Ground_bytes_from ?F_Ground_bytes_from ?H_Ground_put ?F_Ground_put ?H_Ground_pack ?F_Ground_pack ?a_end_of_call ?F_end_of_call ?a_answers ?F_answers ?a_GREATEST_ADDRESS ?a_SHORTEST_ROW ?a_LONGEST_ROW ?a_BEHIND_MARK ?a_LAST_RULE ?a_WRONG_NUMBER ?a_NO_BLOCK ?a_NO_ROOM ?a_NONE_THERE ?a_MOST_PLACES ?a_GREATEST_DEPTH ?a_MOST_WALKS ?a_FIRST_SIZE ?a_FIRST_RULE ?a_WRITE ?g_CALLS ?t_CALLS ?g_HOW_MANY_NUMBERS ?t_HOW_MANY_NUMBERS ?g_ALIGNMENTS ?t_ALIGNMENTS ?b_max ?b_min ?b_len ?b_sorted ?b_sum ?b_reversed ?b_enumerate ?b_range
    (case a_Block => k_is)
    (case C_Block => exact ⟨by k_is, by k_is, by k_is, by k_is⟩)
    (case K_Block => refine' ⟨?mk, ?mi, ?mf, ?mp⟩; (case mk => k_is); (case mi => k_is); (case mf => k_is); (case mp => k_is))
    (case n_Block_address => k_is)
    (case n_Block_n => k_is)
    (case n_Block_alignment => k_is)
    (case n_Block_group => k_is)
    (case a_Row => k_is)
    (case C_Row => exact ⟨by k_is, by k_is, by k_is, by k_is⟩)
    (case K_Row => refine' ⟨?mk, ?mi, ?mf, ?mp⟩; (case mk => k_is); (case mi => k_is); (case mf => k_is); (case mp => k_is))
    (case n_Row_first => k_is)
    (case n_Row_end => k_is)
    (case a_Ground => k_is)
    (case C_Ground => exact ⟨by k_is, by k_is, by k_is, by k_is⟩)
    (case K_Ground => refine' ⟨?mk, ?mi, ?mf, ?mp⟩; (case mk => k_is); (case mi => k_is); (case mf => k_is); (case mp => k_is))
    (case n_Ground_size => k_is)
    (case n_Ground_rule => k_is)
    (case n_Ground_store => k_is)
    (case n_Ground_blocks => k_is)
    (case n_Ground_depth => k_is)
    (case n_Ground_mark => k_is)
    (case n_Ground_walks => k_is)
    (case F_Block_init => refine' L2.fun_mk ?fl ?fc ?fk; (case fl => k_is); (case fc => k_is); (case fk => k_is))
    (case a_reach_of => k_is)
    (case F_reach_of => refine' L2.fun_mk ?fl ?fc ?fk; (case fl => k_is); (case fc => k_is); (case fk => k_is))
    (case a_place_behind => k_is)
    (case F_place_behind => refine' L2.fun_mk ?fl ?fc ?fk; (case fl => k_is); (case fc => k_is); (case fk => k_is))
    (case F_Row_init => refine' L2.fun_mk ?fl ?fc ?fk; (case fl => k_is); (case fc => k_is); (case fk => k_is))
    (case a_row_length => k_is)
    (case F_row_length => refine' L2.fun_mk ?fl ?fc ?fk; (case fl => k_is); (case fc => k_is); (case fk => k_is))
    (case a_rows_between => k_is)
    (case F_rows_between => refine' L2.fun_mk ?fl ?fc ?fk; (case fl => k_is); (case fc => k_is); (case fk => k_is))
    (case a_least_multiple => k_is)
    (case F_least_multiple => refine' L2.fun_mk ?fl ?fc ?fk; (case fl => k_is); (case fc => k_is); (case fk => k_is))
    (case a_least_in_row => k_is)
    (case F_least_in_row => refine' L2.fun_mk ?fl ?fc ?fk; (case fl => k_is); (case fc => k_is); (case fk => k_is))
    (case a_greatest_in_row => k_is)
    (case F_greatest_in_row => refine' L2.fun_mk ?fl ?fc ?fk; (case fl => k_is); (case fc => k_is); (case fk => k_is))
    (case a_least_address => k_is)
    (case F_least_address => refine' L2.fun_mk ?fl ?fc ?fk; (case fl => k_is); (case fc => k_is); (case fk => k_is))
    (case a_greatest_address => k_is)
    (case F_greatest_address => refine' L2.fun_mk ?fl ?fc ?fk; (case fl => k_is); (case fc => k_is); (case fk => k_is))
    (case a_rows_that_fit => k_is)
    (case F_rows_that_fit => refine' L2.fun_mk ?fl ?fc ?fk; (case fl => k_is); (case fc => k_is); (case fk => k_is))
    (case a_rows_to_try => k_is)
    (case F_rows_to_try => refine' L2.fun_mk ?fl ?fc ?fk; (case fl => k_is); (case fc => k_is); (case fk => k_is))
    (case a_choose_address => k_is)
    (case F_choose_address => refine' L2.fun_mk ?fl ?fc ?fk; (case fl => k_is); (case fc => k_is); (case fk => k_is))
    (case a_answer_open => k_is)
    (case F_answer_open => refine' L2.fun_mk ?fl ?fc ?fk; (case fl => k_is); (case fc => k_is); (case fk => k_is))
    (case a_answer_take => k_is)
    (case F_answer_take => refine' L2.fun_mk ?fl ?fc ?fk; (case fl => k_is); (case fc => k_is); (case fk => k_is))
    (case a_answer_zero => k_is)
    (case F_answer_zero => refine' L2.fun_mk ?fl ?fc ?fk; (case fl => k_is); (case fc => k_is); (case fk => k_is))
    (case a_address_resized => k_is)
    (case F_address_resized => refine' L2.fun_mk ?fl ?fc ?fk; (case fl => k_is); (case fc => k_is); (case fk => k_is))
    (case a_answer_resize => k_is)
    (case F_answer_resize => refine' L2.fun_mk ?fl ?fc ?fk; (case fl => k_is); (case fc => k_is); (case fk => k_is))
    (case a_answer_give => k_is)
    (case F_answer_give => refine' L2.fun_mk ?fl ?fc ?fk; (case fl => k_is); (case fc => k_is); (case fk => k_is))
    (case a_answer_size => k_is)
    (case F_answer_size => refine' L2.fun_mk ?fl ?fc ?fk; (case fl => k_is); (case fc => k_is); (case fk => k_is))
    (case a_answer_of => k_is)
    (case F_answer_of => refine' L2.fun_mk ?fl ?fc ?fk; (case fl => k_is); (case fc => k_is); (case fk => k_is))
    (case a_answer_next => k_is)
    (case F_answer_next => refine' L2.fun_mk ?fl ?fc ?fk; (case fl => k_is); (case fc => k_is); (case fk => k_is))
    (case a_answer_most => k_is)
    (case F_answer_most => refine' L2.fun_mk ?fl ?fc ?fk; (case fl => k_is); (case fc => k_is); (case fk => k_is))
    (case a_answer_rows => k_is)
    (case F_answer_rows => refine' L2.fun_mk ?fl ?fc ?fk; (case fl => k_is); (case fc => k_is); (case fk => k_is))
    (case a_answer_enter => k_is)
    (case F_answer_enter => refine' L2.fun_mk ?fl ?fc ?fk; (case fl => k_is); (case fc => k_is); (case fk => k_is))
    (case a_answer_leave => k_is)
    (case F_answer_leave => refine' L2.fun_mk ?fl ?fc ?fk; (case fl => k_is); (case fc => k_is); (case fk => k_is))
    (case a_answer_keep => k_is)
    (case F_answer_keep => refine' L2.fun_mk ?fl ?fc ?fk; (case fl => k_is); (case fc => k_is); (case fk => k_is))
    (case a_answer_counts => k_is)
    (case F_answer_counts => refine' L2.fun_mk ?fl ?fc ?fk; (case fl => k_is); (case fc => k_is); (case fk => k_is))
    (case a_has_bytes => k_is)
    (case F_has_bytes => refine' L2.fun_mk ?fl ?fc ?fk; (case fl => k_is); (case fc => k_is); (case fk => k_is))
    (case a_answer_write => k_is)
    (case F_answer_write => refine' L2.fun_mk ?fl ?fc ?fk; (case fl => k_is); (case fc => k_is); (case fk => k_is))
    (case a_answer_read => k_is)
    (case F_answer_read => refine' L2.fun_mk ?fl ?fc ?fk; (case fl => k_is); (case fc => k_is); (case fk => k_is))
    (case a_answer_pack => k_is)
    (case F_answer_pack => refine' L2.fun_mk ?fl ?fc ?fk; (case fl => k_is); (case fc => k_is); (case fk => k_is))
    (case a_answer_walk => k_is)
    (case F_answer_walk => refine' L2.fun_mk ?fl ?fc ?fk; (case fl => k_is); (case fc => k_is); (case fk => k_is))
    (case a_answer_step => k_is)
    (case F_answer_step => refine' L2.fun_mk ?fl ?fc ?fk; (case fl => k_is); (case fc => k_is); (case fk => k_is))
    (case a_answer_blocks => k_is)
    (case F_answer_blocks => refine' L2.fun_mk ?fl ?fc ?fk; (case fl => k_is); (case fc => k_is); (case fk => k_is))
    (case a_answer_call => k_is)
    (case F_answer_call => refine' L2.fun_mk ?fl ?fc ?fk; (case fl => k_is); (case fc => k_is); (case fk => k_is))
    (case F_Ground_init => refine' L2.fun_mk ?fl ?fc ?fk; (case fl => k_is); (case fc => k_is); (case fk => k_is))
    (case H_Ground_begin => refine' ⟨?ha, ?hf, ?hk⟩; (case ha => k_is); (case hf => k_is); (case hk => k_is))
    (case F_Ground_begin => refine' L2.fun_mk ?fl ?fc ?fk; (case fl => k_is); (case fc => k_is); (case fk => k_is))
    (case H_Ground_blocks_in_order => refine' ⟨?ha, ?hf, ?hk⟩; (case ha => k_is); (case hf => k_is); (case hk => k_is))
    (case F_Ground_blocks_in_order => refine' L2.fun_mk ?fl ?fc ?fk; (case fl => k_is); (case fc => k_is); (case fk => k_is))
    (case H_Ground_innermost_blocks => refine' ⟨?ha, ?hf, ?hk⟩; (case ha => k_is); (case hf => k_is); (case hk => k_is))
    (case F_Ground_innermost_blocks => refine' L2.fun_mk ?fl ?fc ?fk; (case fl => k_is); (case fc => k_is); (case fk => k_is))
    (case H_Ground_address_from => refine' ⟨?ha, ?hf, ?hk⟩; (case ha => k_is); (case hf => k_is); (case hk => k_is))
    (case F_Ground_address_from => refine' L2.fun_mk ?fl ?fc ?fk; (case fl => k_is); (case fc => k_is); (case fk => k_is))
    (case H_Ground_rows => refine' ⟨?ha, ?hf, ?hk⟩; (case ha => k_is); (case hf => k_is); (case hk => k_is))
    (case F_Ground_rows => refine' L2.fun_mk ?fl ?fc ?fk; (case fl => k_is); (case fc => k_is); (case fk => k_is))
    (case H_Ground_rows_without => refine' ⟨?ha, ?hf, ?hk⟩; (case ha => k_is); (case hf => k_is); (case hk => k_is))
    (case F_Ground_rows_without => refine' L2.fun_mk ?fl ?fc ?fk; (case fl => k_is); (case fc => k_is); (case fk => k_is))
    (case H_Ground_settle => refine' ⟨?ha, ?hf, ?hk⟩; (case ha => k_is); (case hf => k_is); (case hk => k_is))
    (case F_Ground_settle => refine' L2.fun_mk ?fl ?fc ?fk; (case fl => k_is); (case fc => k_is); (case fk => k_is))
    (case H_Ground_bytes_from => refine' ⟨?ha, ?hf, ?hk⟩; (case ha => k_is); (case hf => k_is); (case hk => k_is))
    (case F_Ground_bytes_from => refine' L2.fun_mk ?fl ?fc ?fk; (case fl => k_is); (case fc => k_is); (case fk => k_is))
    (case H_Ground_put => refine' ⟨?ha, ?hf, ?hk⟩; (case ha => k_is); (case hf => k_is); (case hk => k_is))
    (case F_Ground_put => refine' L2.fun_mk ?fl ?fc ?fk; (case fl => k_is); (case fc => k_is); (case fk => k_is))
    (case H_Ground_pack => refine' ⟨?ha, ?hf, ?hk⟩; (case ha => k_is); (case hf => k_is); (case hk => k_is))
    (case F_Ground_pack => refine' L2.fun_mk ?fl ?fc ?fk; (case fl => k_is); (case fc => k_is); (case fk => k_is))
    (case a_end_of_call => k_is)
    (case F_end_of_call => refine' L2.fun_mk ?fl ?fc ?fk; (case fl => k_is); (case fc => k_is); (case fk => k_is))
    (case a_answers => k_is)
    (case F_answers => refine' L2.fun_mk ?fl ?fc ?fk; (case fl => k_is); (case fc => k_is); (case fk => k_is))
    (case a_GREATEST_ADDRESS => k_is)
    (case a_SHORTEST_ROW => k_is)
    (case a_LONGEST_ROW => k_is)
    (case a_BEHIND_MARK => k_is)
    (case a_LAST_RULE => k_is)
    (case a_WRONG_NUMBER => k_is)
    (case a_NO_BLOCK => k_is)
    (case a_NO_ROOM => k_is)
    (case a_NONE_THERE => k_is)
    (case a_MOST_PLACES => k_is)
    (case a_GREATEST_DEPTH => k_is)
    (case a_MOST_WALKS => k_is)
    (case a_FIRST_SIZE => k_is)
    (case a_FIRST_RULE => k_is)
    (case a_WRITE => k_is)
    (case g_CALLS => k_is)
    (case t_CALLS => refine' Gp.ktab_mk ?tl ?te ?tn; (case tl => k_is); (case te => exact (.cons Gp.rr rfl (.cons Gp.rr rfl (.cons Gp.rr rfl (.cons Gp.rr rfl (.cons Gp.rr rfl (.cons Gp.rr rfl (.cons Gp.rr rfl (.cons Gp.rr rfl (.cons Gp.rr rfl (.cons Gp.rr rfl (.cons Gp.rr rfl (.cons Gp.rr rfl (.cons Gp.rr rfl (.cons Gp.rr rfl (.cons Gp.rr rfl (.cons Gp.rr rfl (.cons Gp.rr rfl (.cons Gp.rr rfl (.cons Gp.rr rfl (.cons Gp.rr rfl .nil))))))))))))))))))))); (case tn => decide))
    (case g_HOW_MANY_NUMBERS => k_is)
    (case t_HOW_MANY_NUMBERS => refine' Gp.ktab_mk ?tl ?te ?tn; (case tl => k_is); (case te => exact (.cons Gp.ri rfl (.cons Gp.ri rfl (.cons Gp.ri rfl (.cons Gp.ri rfl (.cons Gp.ri rfl (.cons Gp.ri rfl (.cons Gp.ri rfl (.cons Gp.ri rfl (.cons Gp.ri rfl (.cons Gp.ri rfl (.cons Gp.ri rfl (.cons Gp.ri rfl (.cons Gp.ri rfl (.cons Gp.ri rfl (.cons Gp.ri rfl (.cons Gp.ri rfl (.cons Gp.ri rfl (.cons Gp.ri rfl (.cons Gp.ri rfl (.cons Gp.ri rfl .nil))))))))))))))))))))); (case tn => decide))
    (case g_ALIGNMENTS => k_is)
    (case t_ALIGNMENTS => refine' Gp.ktup_mk ?ul ?us ?uv; (case ul => k_is); (case uv => exact (.cons Gp.ri (.cons Gp.ri (.cons Gp.ri (.cons Gp.ri (.cons Gp.ri (.cons Gp.ri (.cons Gp.ri (.cons Gp.ri (.cons Gp.ri .nil)))))))))); (case us => decide))
    (case b_max => k_is)
    (case b_min => k_is)
    (case b_len => k_is)
    (case b_sorted => k_is)
    (case b_sum => k_is)
    (case b_reversed => k_is)
    (case b_enumerate => k_is)
    (case b_range => k_is)
  case S =>
    intro K H xs a hO hwi hask hx
    cases hx with
    | cons h1 h2 =>
      cases h2
      cases h1 with
      | @lst ad _ _ hs ha =>
        have e := L2.ints_dw a.1 _ ha
        subst e
        refine ⟨_, a.1, rfl, ?_, hask, fun H' p hp => .lst (L2.SqL.of hp) (L2.dw_ints _)⟩
        rcases hs with (z | z) | z
        · rcases hO ad with q | ⟨o, u, q⟩
          · rw [q] at z; cases z
          · rw [q] at z; cases z
        · exact .inl z
        · exact .inr z
#print axioms PySem.Challenge.cw_lentground_s01_answers_holds
